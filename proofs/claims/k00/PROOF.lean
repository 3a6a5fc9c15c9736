import PyProof.Rows.All
import Wide.All
import OpenK.AllK
import Wide.FinOn
import HandS.ForMost
import HandS.Wide
import HandS.WideBits
import HandS.Gcd
import HandS.EndBits
import HandS.Steps
import HandS.Style
import HandS.IsInst
import HandS.Deep
import HandS.StrMore
import HandS.SortRule
import HandS.TupSets
import HandS.ExcInit
import HandS.ExcOwn
import HandS.ExcField
import HandS.FStr
import HandS.TryOnly
import HandS.ForSpec
import HandS.ExcIs
import HandS.Lambda
import HandS.EndTab
import KE.KNestM
import KE.KBits
import HandS.IntHex
import PySem.Challenge.RW_twicedial_k00_places_checked
set_option Elab.async false
set_option linter.all false
set_option maxRecDepth 100000
set_option maxHeartbeats 8000000
namespace Tw
open PySem PySem.Spec PyProof.Rows L2
/-! ### heaps: what stays -/
/-- all tracked objects but dicts stay -/
def Keep (H H' : Hp) : Prop := ∀ b o, (∀ kvs, o ≠ .dK kvs) → H b = some o → H' b = some o
theorem Keep.refl (H : Hp) : Keep H H := fun _ _ _ h => h
theorem Keep.of {H H' : Hp} (e : Same H H') : Keep H H' := fun b o _ h => e b o h
theorem Keep.trans {H H1 H2 : Hp} (a : Keep H H1) (b : Keep H1 H2) : Keep H H2 := fun c o n h => b c o n (a c o n h)
theorem Keep.rd {H H' : Hp} {a : Addr} {u : HO} (e : Keep H H') (n : ∀ kvs, u ≠ .dK kvs) (h : Rd H a u) : Rd H' a u := by
  rcases h with h | ⟨o, h⟩
  · exact .inl (e a _ n h)
  · exact .inr ⟨o, e a _ (fun kvs z => nomatch z) h⟩
theorem Keep.seqL {K : PySem.W.Frag} {H H' : Hp} {a : Addr} {xs : List V} (e : Keep H H') (h : SqL K H a xs) : SqL K H' a xs := by
  rcases h with h | h
  · exact .inl (e.rd (fun _ z => nomatch z) h)
  · exact .inr h
theorem Keep.seqT {K : PySem.W.Frag} {H H' : Hp} {a : Addr} {xs : List V} (e : Keep H H') (h : SqT K H a xs) : SqT K H' a xs := by
  rcases h with h | h
  · exact .inl (e.rd (fun _ z => nomatch z) h)
  · exact .inr h
theorem Keep.l {H H' : Hp} {a : Addr} {xs : List V} (e : Keep H H') (h : H a = some (.lst xs)) : H' a = some (.lst xs) := e a _ (fun _ z => nomatch z) h
theorem Keep.t {H H' : Hp} {a : Addr} {xs : List V} (e : Keep H H') (h : H a = some (.tup xs)) : H' a = some (.tup xs) := e a _ (fun _ z => nomatch z) h
theorem len_ok {n : Nat} (h : n ≤ 1000) : n ≤ sizeLine := Nat.le_trans h (by decide)
theorem len_lt {n : Nat} (h : n ≤ 1000) : n < sizeLine := Nat.lt_of_le_of_lt h (by decide)
theorem same_new {H : Hp} {p : Addr} {o : HO} (h : H p = none) : Same H (upd H p o) := fun b x e => by
  rw [upd_ne (ne_of_none e h)]; exact e
/-- an object that H does not know may change -/
theorem same_mut {H H' : Hp} {p : Addr} {o : HO} (e : Same H H') (h : H p = none) : Same H (upd H' p o) := fun a u ha => by
  rw [upd_ne (ne_of_none ha h)]; exact e a u ha
theorem keep_mut {H H' : Hp} {p : Addr} {o : HO} (e : Keep H H') (h : H p = none) : Keep H (upd H' p o) := fun a u n ha => by
  rw [upd_ne (ne_of_none ha h)]; exact e a u n ha
theorem keep_dict {H : Hp} {m : Addr} {kvs : List (Key × V)} {o : HO} (h : H m = some (.dK kvs)) : Keep H (upd H m o) := fun b u n e => by
  rw [upd_ne]
  · exact e
  · intro z; subst z; rw [h] at e; exact n kvs (Option.some.inj e).symm
theorem keep_free {H H' : Hp} (e : Same H H') {l : Addr} (h : H' l = none) : H l = none := e.free h

/-! ### data -/
abbrev Dt := PyData
mutual
theorem Dpk {K : PySem.W.Frag} {H H' : Hp} (e : Keep H H') : ∀ (d : PyData) (v : V), Dp K H v d → Dp K H' v d
  | .none, _, h => by cases h; exact .non
  | .bool b, _, h => by cases h; exact .bl b
  | .int i, _, h => by cases h; exact .int i
  | .str x, _, h => by cases h; exact .str x
  | .list ds, _, h => by
    cases h with
    | lst hs ha => exact .lst (e.seqL hs) (DpkAll e ds _ ha)
  | .tuple ds, _, h => by
    cases h with
    | tup hs ha => exact .tup (e.seqT hs) (DpkAll e ds _ ha)
  | .dict _, _, h => by cases h
theorem DpkAll {K : PySem.W.Frag} {H H' : Hp} (e : Keep H H') : ∀ (ds : List PyData) (vs : List V), DpAll K H vs ds → DpAll K H' vs ds
  | [], _, h => by cases h; exact .nil
  | d :: ds, _, h => by
    cases h with
    | cons h1 h2 => exact .cons (Dpk e d _ h1) (DpkAll e ds _ h2)
end
section
variable {K : PySem.W.Frag} {H H' : Hp} {v : V} {d : PyData} {vs : List V} {ds : List PyData} {a p : Addr} {xs : List V}
theorem dp_keep (e : Keep H H') (h : Dp K H v d) : Dp K H' v d := Dpk e d v h
theorem dp_same (e : Same H H') (h : Dp K H v d) : Dp K H' v d := Dpk (Keep.of e) d v h
theorem dpa_keep (e : Keep H H') (h : DpAll K H vs ds) : DpAll K H' vs ds := DpkAll e ds vs h
theorem dpa_same (e : Same H H') (h : DpAll K H vs ds) : DpAll K H' vs ds := DpkAll (Keep.of e) ds vs h
theorem dp_int {i : Int} (h : Dp K H v (.int i)) : v = .int i := by cases h; rfl
theorem dp_str {i : Str} (h : Dp K H v (.str i)) : v = .str i := by cases h; rfl
theorem dp_bl {i : Bool} (h : Dp K H v (.bool i)) : v = .bl i := by cases h; rfl
theorem dp_non (h : Dp K H v .none) : v = .non := by cases h; rfl
theorem dp_tup (h : Dp K H v (.tuple ds)) : ∃ a xs, v = .ref a ∧ SqT K H a xs ∧ DpAll K H xs ds := by
  cases h with
  | tup hs ha => exact ⟨_, _, rfl, hs, ha⟩
theorem dp_lst (h : Dp K H v (.list ds)) : ∃ a xs, v = .ref a ∧ SqL K H a xs ∧ DpAll K H xs ds := by
  cases h with
  | lst hs ha => exact ⟨_, _, rfl, hs, ha⟩
theorem dpa_len : ∀ {vs : List V} {ds : List PyData}, DpAll K H vs ds → vs.length = ds.length
  | _, [], h => by cases h; rfl
  | _, d :: ds, h => by
    cases h with
    | cons h1 h2 => simp [dpa_len h2]
theorem dpa_get : ∀ {vs : List V} {ds : List PyData} {i : Nat} {d : PyData}, DpAll K H vs ds → ds[i]? = some d → ∃ v, vs[i]? = some v ∧ Dp K H v d
  | _, [], i, d, h, e => by simp at e
  | _, d0 :: ds, 0, d, h, e => by
    cases h with
    | cons h1 h2 => simp at e; subst e; exact ⟨_, rfl, h1⟩
  | _, d0 :: ds, i + 1, d, h, e => by
    cases h with
    | cons h1 h2 =>
      obtain ⟨v, e1, e2⟩ := dpa_get (i := i) h2 (by simpa using e)
      exact ⟨v, by simpa using e1, e2⟩
theorem dpa_get2 : ∀ {vs : List V} {ds : List PyData} {i : Nat} {v : V}, DpAll K H vs ds → vs[i]? = some v → ∃ d, ds[i]? = some d ∧ Dp K H v d := fun {vs ds i v} h e => by
  have hi : i < ds.length := by
    rw [← dpa_len h]; exact (List.getElem?_eq_some_iff.mp e).1
  obtain ⟨v', e1, e2⟩ := dpa_get h (List.getElem?_eq_getElem hi)
  rw [e] at e1
  cases e1
  exact ⟨_, List.getElem?_eq_getElem hi, e2⟩
theorem dpa_app : ∀ {vs : List V} {ds : List PyData} {ws : List V} {es : List PyData}, DpAll K H vs ds → DpAll K H ws es → DpAll K H (vs ++ ws) (ds ++ es)
  | _, [], _, _, h, g => by cases h; exact g
  | _, d :: ds, _, _, h, g => by
    cases h with
    | cons h1 h2 => exact .cons h1 (dpa_app h2 g)
theorem dpa_one (h : Dp K H v d) : DpAll K H [v] [d] := .cons h .nil
theorem dpa_take : ∀ {vs : List V} {ds : List PyData} (n : Nat), DpAll K H vs ds → DpAll K H (vs.take n) (ds.take n)
  | _, _, 0, h => by simp; exact .nil
  | _, [], n + 1, h => by cases h; exact .nil
  | _, d :: ds, n + 1, h => by
    cases h with
    | cons h1 h2 => exact .cons h1 (dpa_take n h2)
theorem dpa_drop : ∀ {vs : List V} {ds : List PyData} (n : Nat), DpAll K H vs ds → DpAll K H (vs.drop n) (ds.drop n)
  | _, _, 0, h => h
  | _, [], n + 1, h => by cases h; exact .nil
  | _, d :: ds, n + 1, h => by
    cases h with
    | cons h1 h2 => exact dpa_drop n h2
theorem dpa_ints : ∀ (ns : List Int), DpAll K H (ns.map V.int) (ns.map PyData.int)
  | [] => .nil
  | n :: ns => .cons (.int n) (dpa_ints ns)
theorem dpa_ints_inv : ∀ {vs : List V} {ns : List Int}, DpAll K H vs (ns.map PyData.int) → vs = ns.map V.int
  | _, [], h => by cases h; rfl
  | _, n :: ns, h => by
    cases h with
    | cons h1 h2 => cases h1; rw [dpa_ints_inv h2]; rfl
theorem dpa_strs : ∀ (ns : List Str), DpAll K H (ns.map V.str) (ns.map PyData.str)
  | [] => .nil
  | n :: ns => .cons (.str n) (dpa_strs ns)
theorem dpa_strs_inv : ∀ {vs : List V} {ns : List Str}, DpAll K H vs (ns.map PyData.str) → vs = ns.map V.str
  | _, [], h => by cases h; rfl
  | _, n :: ns, h => by
    cases h with
    | cons h1 h2 => cases h1; rw [dpa_strs_inv h2]; rfl
theorem dp_newL (h : H a = some (.lst xs)) (g : DpAll K H xs ds) : Dp K H (.ref a) (.list ds) := .lst (.of h) g
theorem dp_newT (h : H a = some (.tup xs)) (g : DpAll K H xs ds) : Dp K H (.ref a) (.tuple ds) := .tup (.of h) g
end

/-! ### readings, step by step -/
def rB (x : V) (H : Hp) (Q : Bool → Hp → Prop) : Prop := ∃ k, x = .bl k ∧ Q k H
def rBV (x : V) (A : Bool → Prop) : Prop := ∃ c, x = .bl c ∧ A c
def rDG (x y : V) (H : Hp) (Q : VK) : Prop := ∃ a v, x = .ref a ∧ DGet H a y (some v) ∧ Q v H
def rDP (x y v : V) (H : Hp) (Q : Hp → Prop) : Prop := ∃ a H4, x = .ref a ∧ DPut H a y v H4 ∧ Q H4
def r2V (vs : List V) (A : V → V → Prop) : Prop := ∃ v w, vs = [v, w] ∧ A v w
def rNewT (xs : List V) (H : Hp) (Q : VK) : Prop := xs.length ≤ sizeLine ∧ ∀ p, H p = none → Q (.ref p) (upd H p (.tup xs))
def rNewL (xs : List V) (H : Hp) (Q : VK) : Prop := xs.length ≤ sizeLine ∧ ∀ p, H p = none → Q (.ref p) (upd H p (.lst xs))
def rPI (x : V) (A : Option Int → Prop) : Prop := ∃ i, x = .int i ∧ A (some i)
section
variable {K : PySem.W.Frag} {σ : L2.St} {H : Hp} {Q : VK} {D : Ends} {v x y z : V} {i : Nat} {ta tb tc te : TE} {t u : TS} {c : TT} {g : TG} {tn : TA} {r : R2}
theorem w_seq (h : t { D with nx := u D } σ H) : tSeq t u D σ H := h
theorem w_next (h : D.nx σ H) : tNext D σ H := h
theorem w_asg (h : te σ H fun x H1 => D.nx (σ.set i (some x)) H1) : tAsg te (gName i) D σ H := h
theorem w_asgG (h : te σ H fun x H1 => g x σ H1 D.nx) : tAsg te g D σ H := h
theorem w_drop (h : te σ H fun _ H1 => D.nx σ H1) : tDrop te D σ H := h
theorem w_ret (h : te σ H D.rt) : tRet te D σ H := h
theorem w_retN (h : D.rt .non H) : tRetN D σ H := h
theorem w_brk (h : D.bk σ H) : tBreak D σ H := h
theorem w_cont (h : D.ct σ H) : tCont D σ H := h
theorem w_ifS (h : c σ H fun b H1 => if b = true then t D σ H1 else u D σ H1) : tIfS c t u D σ H := h
theorem w_var (h : σ[i]? = some (some v)) (q : Q v H) : tVar i σ H Q := ⟨v, h, q⟩
theorem w_c (q : Q v H) : tC v σ H Q := q
theorem w_op (h : ta σ H fun x H1 => tb σ H1 fun y H2 => r x y H2 Q) : tOp r ta tb σ H Q := h
theorem w_un {r : V → Hp → VK → Prop} (h : ta σ H fun x H1 => r x H1 Q) : tUn r ta σ H Q := h
theorem w_rI0 {g : Int → Int → V} {i j : Int} (q : Q (g i j) H) : rI0 g (.int i) (.int j) H Q := ⟨i, j, rfl, rfl, q⟩
theorem w_rI {C : Int → Int → Prop} {g : Int → Int → V} {i j : Int} (hc : C i j) (q : Q (g i j) H) : rI C g (.int i) (.int j) H Q := ⟨i, j, rfl, rfl, hc, q⟩
theorem w_rU {g : Int → V} {i : Int} (q : Q (g i) H) : rU g (.int i) H Q := ⟨i, rfl, q⟩
theorem w_eqI {i j : Int} (q : Q (.bl (decide (i = j))) H) : rEq (.int i) (.int j) H Q := ⟨rfl, by
  rw [dec_int, show (i == j) = decide (i = j) from rfl]; exact q⟩
theorem w_neI {i j : Int} (q : Q (.bl (!decide (i = j))) H) : rNe (.int i) (.int j) H Q := ⟨rfl, by
  rw [dec_int, show (i == j) = decide (i = j) from rfl]; exact q⟩
theorem w_rEq (hs : scal x y = true) (q : Q (.bl (decide (x = y))) H) : rEq x y H Q := ⟨hs, q⟩
theorem w_rNe (hs : scal x y = true) (q : Q (.bl (!decide (x = y))) H) : rNe x y H Q := ⟨hs, q⟩
theorem w_tI (h : c σ H fun b H1 => if b = true then ta σ H1 Q else tb σ H1 Q) : tIf c ta tb σ H Q := h
theorem w_tTest {Q : Bool → Hp → Prop} (h : te σ H fun x H' => rB x H' Q) : tTest te σ H Q := h
theorem w_tB {Q : Bool → Hp → Prop} (h : te σ H fun x H' => rB x H' Q) : tB te σ H Q := h
theorem w_bl {b : Bool} {Q : Bool → Hp → Prop} (h : Q b H) : rB (.bl b) H Q := ⟨b, rfl, h⟩
theorem w_blV {b : Bool} {A : Bool → Prop} (h : A b) : rBV (.bl b) A := ⟨b, rfl, h⟩
theorem w_and {t u : TT} {Q : Bool → Hp → Prop} (h : t σ H fun c H1 => if c = true then u σ H1 Q else Q false H1) : tAnd t u σ H Q := h
theorem w_or {t u : TT} {Q : Bool → Hp → Prop} (h : t σ H fun c H1 => if c = true then Q true H1 else u σ H1 Q) : tOr t u σ H Q := h
theorem w_not {t : TT} {Q : Bool → Hp → Prop} (h : t σ H fun c H1 => Q (!c) H1) : tNot t σ H Q := h
theorem w_andV (h : ta σ H fun x H1 => rBV x fun c => if c = true then tb σ H1 Q else Q (.bl false) H1) : tAndV ta tb σ H Q := h
theorem w_orV (h : ta σ H fun x H1 => rBV x fun c => if c = true then Q (.bl true) H1 else tb σ H1 Q) : tOrV ta tb σ H Q := h
theorem w_notV (h : ta σ H fun x H1 => rBV x fun c => Q (.bl (!c)) H1) : tNotV ta σ H Q := h
theorem w_chain {r r' : R2} (h : ta σ H fun x H1 => tb σ H1 fun y H2 => r x y H2 fun z H3 => rBV z fun k => if k = true then tc σ H3 fun w' H4 => r' y w' H4 Q else Q (.bl false) H3) : tChain r r' ta tb tc σ H Q := h
theorem w_nil {Q : List V → Hp → Prop} (q : Q [] H) : tNil σ H Q := q
theorem w_cons {Q : List V → Hp → Prop} (h : ta σ H fun x H1 => tn σ H1 fun xs H2 => Q (x :: xs) H2) : tCons ta tn σ H Q := h
theorem w_call {sp : Sp} {dvs : List V} {E : XK} (h : tn σ H fun vs H1 => sp (vs ++ dvs) H1 Q E) : tCall sp dvs E tn σ H Q := h
theorem w_cb {r : List V → Hp → VK → Prop} (h : tn σ H fun vs H1 => r vs H1 Q) : tCB r tn σ H Q := h
theorem w_tup (h : tn σ H fun xs H1 => rNewT xs H1 Q) : tTup tn σ H Q := h
theorem w_lst (h : tn σ H fun xs H1 => rNewL xs H1 Q) : tLst tn σ H Q := h
theorem w_newT {xs : List V} {ds : List PyData} (hl : xs.length ≤ sizeLine) (hd : DpAll K H xs ds) (q : ∀ p H', H p = none → Same H H' → Dp K H' (.ref p) (.tuple ds) → Q (.ref p) H') :
    rNewT xs H Q :=
  ⟨hl, fun p hp => q p _ hp (same_new hp) (dp_newT upd_same (dpa_same (same_new hp) hd))⟩
theorem w_newL {xs : List V} {ds : List PyData} (hl : xs.length ≤ sizeLine) (hd : DpAll K H xs ds) (q : ∀ p H', H p = none → Same H H' → H' p = some (.lst xs) → Dp K H' (.ref p) (.list ds) → Q (.ref p) H') :
    rNewL xs H Q :=
  ⟨hl, fun p hp => q p _ hp (same_new hp) upd_same (dp_newL upd_same (dpa_same (same_new hp) hd))⟩
theorem w_ite {b : Bool} {A B : Prop} (h1 : b = true → A) (h2 : b = false → B) : if b = true then A else B := by
  cases b with
  | true => rw [if_pos rfl]; exact h1 rfl
  | false => rw [if_neg Bool.false_ne_true]; exact h2 rfl
theorem w_iteD {P : Prop} [Decidable P] {A B : Prop} (h1 : P → A) (h2 : ¬ P → B) : if decide P = true then A else B := by
  by_cases h : P
  · rw [if_pos (decide_eq_true h)]; exact h1 h
  · rw [if_neg (by simpa using h)]; exact h2 h
theorem w_iteND {P : Prop} [Decidable P] {A B : Prop} (h1 : ¬ P → A) (h2 : P → B) : if (!decide P) = true then A else B := by
  by_cases h : P
  · rw [decide_eq_true h]; simpa using h2 h
  · rw [decide_eq_false h]; simpa using h1 h
theorem w_iteT {A B : Prop} (h : A) : if true = true then A else B := by rw [if_pos rfl]; exact h
theorem w_iteNT {A B : Prop} (h : B) : if (!true) = true then A else B := by rw [Bool.not_true, if_neg Bool.false_ne_true]; exact h
theorem w_iteNF {A B : Prop} (h : A) : if (!false) = true then A else B := by rw [Bool.not_false, if_pos rfl]; exact h
theorem w_iteF {A B : Prop} (h : B) : if false = true then A else B := by rw [if_neg Bool.false_ne_true]; exact h
end
end Tw
namespace Tw
open PySem PySem.Spec PyProof.Rows L2
/-! ### rules by data -/
section
variable {X : Cx}
def rLen (K : PySem.W.Frag) : List V → Hp → VK → Prop := fun xs H Q => ∃ x n, xs = [x] ∧ LenV K x H n ∧ Q (.int n) H
theorem cl_len {K : PySem.W.Frag} (h : X.K = K := by rfl) : CallR X (.builtin "len") (rLen K) := h ▸ call_len
def rInt : List V → Hp → VK → Prop := fun xs H Q => (∃ i, xs = [.int i] ∧ Q (.int i) H) ∨ ∃ k, xs = [.bl k] ∧ Q (.int (if k then 1 else 0)) H
theorem cl_int : CallR X (.type "int") rInt := call_int1
def rStrI : List V → Hp → VK → Prop := fun xs H Q => ∃ i, xs = [.int i] ∧ i.natAbs.log2 < 1920 ∧ Q (.str (toString i)) H
theorem cl_strI : CallR X (.type "str") rStrI := call_str_int
def rTupOf (K : PySem.W.Frag) : List V → Hp → VK → Prop := fun xs H Q => ∃ p ys, xs = [.ref p] ∧ ((SqL K H p ys ∧ ∀ l, H l = none → Q (.ref l) (upd H l (.tup ys))) ∨ (SqT K H p ys ∧ Q (.ref p) H))
def rMax2 : List V → Hp → VK → Prop := fun xs H Q => ∃ i j, xs = [.int i, .int j] ∧ Q (.int (if j > i then j else i)) H
theorem cl_max2 (hc : X.calm = true) : CallR X (.builtin "max") rMax2 := call_max2 hc
def rMin2 : List V → Hp → VK → Prop := fun xs H Q => ∃ i j, xs = [.int i, .int j] ∧ Q (.int (if j < i then j else i)) H
theorem cl_min2 (hc : X.calm = true) : CallR X (.builtin "min") rMin2 := call_min2 hc
theorem pe_cint {x : Str} {pos : Pos} {i : Int} {t : Tok} (hg : Gl X x) (hm : X.mg x = some (.int i t)) (hd : (x == ("__debug__" : Str)) = false := by decide) : PE X (.Name x pos) (tC (.int i)) := pe_glob hg hm (show RelV (.int i) _ from ⟨t, rfl⟩) hd
theorem cl_tup {K : PySem.W.Frag} (h : X.K = K := by rfl) : CallR X (.type "tuple") (rTupOf K) := h ▸ call_tuple_of
def rLstOf (K : PySem.W.Frag) : List V → Hp → VK → Prop := fun xs H Q => ∃ p ys, xs = [.ref p] ∧ (SqL K H p ys ∨ SqT K H p ys) ∧ ∀ l, H l = none → Q (.ref l) (upd H l (.lst ys))
theorem cl_lst {K : PySem.W.Frag} (h : X.K = K := by rfl) : CallR X (.type "list") (rLstOf K) := h ▸ call_list_of
theorem ix_listK {K : PySem.W.Frag} (h : X.K = K := by rfl) : IxR X (rIxL K) := h ▸ ix_list
theorem ix_tupK {K : PySem.W.Frag} (h : X.K = K := by rfl) : IxR X (rIxT K) := h ▸ ix_tup
theorem op_eqK {K : PySem.W.Frag} (hu : X.A.units + 64 < cLine) (h : X.K = K := by rfl) : OpR X (compareOp .Eq) (rEqD K) := h ▸ op_eqD hu
theorem op_neK {K : PySem.W.Frag} (hu : X.A.units + 64 < cLine) (h : X.K = K := by rfl) : OpR X (compareOp .NotEq) (rNeD K) := h ▸ op_neD hu
theorem sl_listK {K : PySem.W.Frag} (h : X.K = K := by rfl) : SlR X (rSlL K) := h ▸ sl_list
theorem pi_listK {K : PySem.W.Frag} {tg l : Expr} {tl : TE} (hl : PE X l tl) (h : X.K = K := by rfl) : PI X tg l (iList K tl) := h ▸ pi_list hl
theorem pi_tupK {K : PySem.W.Frag} {tg l : Expr} {tl : TE} (hl : PE X l tl) (h : X.K = K := by rfl) : PI X tg l (iTup K tl) := h ▸ pi_tup hl
def rAddStr : R2 := fun x y H Q => ∃ i j, x = .str i ∧ y = .str j ∧ i.length + j.length ≤ sizeLine ∧ Q (.str (i ++ j)) H
theorem op_addS : OpR X (binaryOp .Add) rAddStr := op_add_str
theorem op_catL : OpR X (binaryOp .Add) rCat := op_cat
def rJoin (K : PySem.W.Frag) : V → List V → Hp → VK → Prop := fun x xs H Q => ∃ a p, ∃ ys : List Str, x = .str a ∧ xs = [.ref p] ∧ (SqL K H p (ys.map V.str) ∨ SqT K H p (ys.map V.str)) ∧ (ys.map (·.length)).sum + ys.length * a.length ≤ 16777216 ∧ Q (.str (Txt.join a ys)) H
def tTru (K : PySem.W.Frag) (ta : TE) : TT := fun σ H Q => ta σ H fun x H' => ∃ k, TruV K x H' k ∧ Q k H'
theorem pt_tru {K : PySem.W.Frag} {a : Expr} {ta : TE} (ha : PE X a ta) (he : ∀ whole, isTrue a X.env whole = (do let v ← whole; standAt a.pos; holding [v] (truthy v))) (h : X.K = K := by rfl) : PT X a (tTru K ta) := h ▸ pt_truth ha he
end
end Tw

namespace Tw
open PySem PySem.Spec PyProof.Rows L2
section
variable {X : Cx}
theorem pe_joinD {K : PySem.W.Frag} {o e : Expr} {to te : TE} {apos pos : Pos} (ho : PE X o to) (he : PE X e te) (h : X.K = K := by rfl) (hs : starEach [e] X.env = [(false, eval e X.env)] := by rfl) (hbase : attributeBase o "join" X.env (eval o X.env) = eval o X.env := by rfl) (hline : (apos.endLine == pos.line) = true := by rfl) :
    PE X (.Call (.Attribute o "join" apos) [e] [] pos) (tM1 (rJoin K) to te) := h ▸ pe_join ho he hs hbase hline
end
section
variable {K : PySem.W.Frag} {σ : L2.St} {H : Hp} {Q : VK} {D : Ends} {v x y z : V} {d e : PyData} {ds es : List PyData} {i : Nat} {to ta tb tc te : TE} {t u : TS} {tn : TA}
theorem w_lenL (h : Dp K H v (.list ds)) (q : Q (.int (ds.length : Int)) H) : rLen K [v] H Q := by
  obtain ⟨a, xs, rfl, hs, ha⟩ := dp_lst h
  exact ⟨.ref a, ds.length, rfl, .inl ⟨xs, hs, (dpa_len ha).symm⟩, q⟩
theorem w_lenT (h : Dp K H v (.tuple ds)) (q : Q (.int (ds.length : Int)) H) : rLen K [v] H Q := by
  obtain ⟨a, xs, rfl, hs, ha⟩ := dp_tup h
  exact ⟨.ref a, ds.length, rfl, .inr ⟨xs, hs, (dpa_len ha).symm⟩, q⟩
theorem w_lenS {x : Str} (h : x.length ≤ sizeLine) (q : Q (.int (x.length : Int)) H) : rLen K [.str x] H Q := ⟨.str x, x.length, rfl, ⟨h, rfl⟩, q⟩
theorem w_int {n : Int} (q : Q (.int n) H) : rInt [.int n] H Q := .inl ⟨n, rfl, q⟩
theorem w_strI {n : Int} (h : n.natAbs.log2 < 1920) (q : Q (.str (toString n)) H) : rStrI [.int n] H Q := ⟨n, rfl, h, q⟩
theorem w_max2 {i j : Int} (q : ∀ r, r = max i j → Q (.int r) H) : rMax2 [.int i, .int j] H Q := ⟨i, j, rfl, q _ (by split <;> omega)⟩
theorem w_min2 {i j : Int} (q : ∀ r, r = min i j → Q (.int r) H) : rMin2 [.int i, .int j] H Q := ⟨i, j, rfl, q _ (by split <;> omega)⟩
theorem w_tupOf (h : Dp K H v (.list ds)) (q : ∀ p H', H p = none → Same H H' → Dp K H' (.ref p) (.tuple ds) → Q (.ref p) H') : rTupOf K [v] H Q := by
  obtain ⟨a, xs, rfl, hs, ha⟩ := dp_lst h
  exact ⟨a, xs, rfl, .inl ⟨hs, fun l hl => q l _ hl (same_new hl) (dp_newT upd_same (dpa_same (same_new hl) ha))⟩⟩
theorem w_tupOfT (h : Dp K H v (.tuple ds)) (q : ∀ v, Dp K H v (.tuple ds) → Q v H) : rTupOf K [v] H Q := by
  obtain ⟨a, xs, rfl, hs, ha⟩ := dp_tup h
  exact ⟨a, xs, rfl, .inr ⟨hs, q _ h⟩⟩
theorem w_lstOfT (h : Dp K H v (.tuple ds)) (q : ∀ p H' xs, H p = none → Same H H' → H' p = some (.lst xs) → Dp K H' (.ref p) (.list ds) → Q (.ref p) H') : rLstOf K [v] H Q := by
  obtain ⟨a, xs, rfl, hs, ha⟩ := dp_tup h
  exact ⟨a, xs, rfl, .inr hs, fun l hl => q l _ xs hl (same_new hl) upd_same (dp_newL upd_same (dpa_same (same_new hl) ha))⟩
theorem w_lstOfL (h : Dp K H v (.list ds)) (q : ∀ p H' xs, H p = none → Same H H' → H' p = some (.lst xs) → Dp K H' (.ref p) (.list ds) → Q (.ref p) H') : rLstOf K [v] H Q := by
  obtain ⟨a, xs, rfl, hs, ha⟩ := dp_lst h
  exact ⟨a, xs, rfl, .inl hs, fun l hl => q l _ xs hl (same_new hl) upd_same (dp_newL upd_same (dpa_same (same_new hl) ha))⟩
theorem w_addS {x y : Str} (h : x.length + y.length ≤ sizeLine) (q : Q (.str (x ++ y)) H) : rAddStr (.str x) (.str y) H Q := ⟨x, y, rfl, rfl, h, q⟩
/-- an item by a place that is known to be a number -/
theorem w_ixL {n : Int} {j : Nat} (h : Dp K H v (.list ds)) (hn : n = (j : Int)) (hd : ds[j]? = some d) (q : ∀ v', Dp K H v' d → Q v' H) : rIxL K v (.int n) H Q := by
  obtain ⟨a, xs, rfl, hs, ha⟩ := dp_lst h
  obtain ⟨v', e1, e2⟩ := dpa_get ha hd
  exact ⟨a, xs, n, v', rfl, rfl, hs, at_of hn e1, q v' e2⟩
theorem w_ixT {n : Int} {j : Nat} (h : Dp K H v (.tuple ds)) (hn : n = (j : Int)) (hd : ds[j]? = some d) (q : ∀ v', Dp K H v' d → Q v' H) : rIxT K v (.int n) H Q := by
  obtain ⟨a, xs, rfl, hs, ha⟩ := dp_tup h
  obtain ⟨v', e1, e2⟩ := dpa_get ha hd
  exact ⟨a, xs, n, v', rfl, rfl, hs, at_of hn e1, q v' e2⟩
theorem w_ixLI {n : Int} {ns : List Int} (h : Dp K H v (.list (ns.map PyData.int))) (h0 : 0 ≤ n) (h1 : n < (ns.length : Int)) (q : ∀ z, ns[n.toNat]? = some z → Q (.int z) H) : rIxL K v (.int n) H Q := by
  have hl : n.toNat < ns.length := by omega
  refine w_ixL (j := n.toNat) (d := .int ns[n.toNat]) h (by omega) (by simp [hl]) fun v' hv => ?_
  cases hv
  exact q _ (List.getElem?_eq_getElem hl)
theorem w_ixTI {n : Int} {ns : List Int} (h : Dp K H v (.tuple (ns.map PyData.int))) (h0 : 0 ≤ n) (h1 : n < (ns.length : Int)) (q : ∀ z, ns[n.toNat]? = some z → Q (.int z) H) : rIxT K v (.int n) H Q := by
  have hl : n.toNat < ns.length := by omega
  refine w_ixT (j := n.toNat) (d := .int ns[n.toNat]) h (by omega) (by simp [hl]) fun v' hv => ?_
  cases hv
  exact q _ (List.getElem?_eq_getElem hl)
theorem w_ixLast (h : Dp K H v (.list ds)) (hd : ds.getLast? = some d) (q : ∀ v', Dp K H v' d → Q v' H) : rIxL K v (.int (-1)) H Q := by
  obtain ⟨a, xs, rfl, hs, ha⟩ := dp_lst h
  rw [List.getLast?_eq_getElem?] at hd
  obtain ⟨v', e1, e2⟩ := dpa_get ha hd
  have hne : xs ≠ [] := fun z => by subst z; simp at e1
  have hx : xs = xs.dropLast ++ [xs.getLast hne] := (List.dropLast_concat_getLast hne).symm
  have e3 : v' = xs.getLast hne := by
    rw [← dpa_len ha, ← List.getLast?_eq_getElem?, List.getLast?_eq_getLast hne] at e1
    exact (Option.some.inj e1).symm
  refine ⟨a, xs, -1, v', rfl, rfl, hs, ?_, q v' e2⟩
  rw [hx, e3]; exact atI_last _ _
theorem w_ixLastT (h : Dp K H v (.tuple ds)) (hd : ds.getLast? = some d) (q : ∀ v', Dp K H v' d → Q v' H) : rIxT K v (.int (-1)) H Q := by
  obtain ⟨a, xs, rfl, hs, ha⟩ := dp_tup h
  rw [List.getLast?_eq_getElem?] at hd
  obtain ⟨v', e1, e2⟩ := dpa_get ha hd
  have hne : xs ≠ [] := fun z => by subst z; simp at e1
  have hx : xs = xs.dropLast ++ [xs.getLast hne] := (List.dropLast_concat_getLast hne).symm
  have e3 : v' = xs.getLast hne := by
    rw [← dpa_len ha, ← List.getLast?_eq_getElem?, List.getLast?_eq_getLast hne] at e1
    exact (Option.some.inj e1).symm
  refine ⟨a, xs, -1, v', rfl, rfl, hs, ?_, q v' e2⟩
  rw [hx, e3]; exact atI_last _ _
theorem w_ixS {s : Str} {n : Int} {j c : Nat} (hz : s.length ≤ sizeLine) (hn : n = (j : Int)) (hd : s.cps.toList[j]? = some c) (q : Q (.str ⟨#[c]⟩) H) : rIxS (.str s) (.int n) H Q :=
  ⟨s, n, c, rfl, rfl, hz, by rw [hn]; exact atI_nat hd, q⟩
theorem w_tIsN (q : Q (.bl (decide (x = .non))) H) : rIsN x .non H Q := ⟨rfl, q⟩
theorem w_tNotN (q : Q (.bl (!decide (x = .non))) H) : rNotN x .non H Q := ⟨rfl, q⟩
theorem w_bm {T : String} {r : V → List V → Hp → VK → Prop} (h : to σ H fun x H1 => tyV K T x H1 ∧ tn σ H1 fun xs H2 => r x xs H2 Q) : tBM K T r to tn σ H Q := h
theorem w_bm0 {T : String} {r : V → List V → Hp → VK → Prop} (h : to σ H fun x H1 => tyV K T x H1 ∧ r x [] H1 Q) : tBM0 K T r to σ H Q := h
theorem w_m1 {r : V → List V → Hp → VK → Prop} (h : to σ H fun x H1 => (∃ a, x = .str a) ∧ te σ H1 fun y H2 => r x [y] H2 Q) : tM1 r to te σ H Q := h
theorem w_isStr {s : Str} {A : Prop} (h : A) : (∃ a, V.str s = .str a) ∧ A := ⟨⟨s, rfl⟩, h⟩
theorem w_append {l : Addr} {xs : List V} (h : H l = some (.lst xs)) (hz : xs.length < sizeLine) (q : Q .non (upd H l (.lst (xs ++ [y])))) : rAppend (.ref l) [y] H Q := ⟨l, xs, y, rfl, rfl, h, hz, q⟩
theorem w_tyL {a : Addr} {xs : List V} {A : Prop} (h : H a = some (.lst xs)) (q : A) : tyV K "list" (.ref a) H ∧ A := ⟨.inl ⟨rfl, xs, .of h⟩, q⟩
theorem w_tyS {s : Str} {A : Prop} (q : A) : tyV K "str" (.str s) H ∧ A := ⟨rfl, q⟩
theorem w_join {s : Str} {ys : List Str} (h : Dp K H v (.list (ys.map PyData.str))) (hz : (ys.map (·.length)).sum + ys.length * s.length ≤ 16777216) (q : Q (.str (Txt.join s ys)) H) : rJoin K (.str s) [v] H Q := by
  obtain ⟨a, xs, rfl, hs, ha⟩ := dp_lst h
  rw [dpa_strs_inv ha] at hs
  exact ⟨s, a, ys, rfl, rfl, .inl hs, hz, q⟩
/-- a new list out of two -/
theorem w_catL {a b : Addr} {xs zs : List V} (h : H a = some (.lst xs)) (h' : H b = some (.lst zs)) (hz : xs.length + zs.length ≤ sizeLine) (q : ∀ p H', H p = none → Same H H' → H' p = some (.lst (xs ++ zs)) → Q (.ref p) H') : rCat (.ref a) (.ref b) H Q :=
  ⟨a, b, xs, zs, rfl, rfl, h, h', hz, fun p hp => q p _ hp (same_new hp) upd_same⟩
theorem w_dget {td ty : TE} (h : td σ H fun x H1 => ty σ H1 fun y H2 => rDG x y H2 Q) : tDGet td ty σ H Q := h
theorem w_dgS {k : Str} {kvs : List (Key × V)} {m : Addr} (h : H m = some (.dK kvs)) (e : valV kvs (.inr k) = some v) (q : Q v H) : rDG (.ref m) (.str k) H Q :=
  ⟨m, v, rfl, by rw [← e]; exact DGet.k (k := .inr k) h, q⟩
theorem w_dpS {k : Str} {kvs kvs' : List (Key × V)} {m : Addr} (h : H m = some (.dK kvs)) (e : putK kvs (.inr k) v = kvs') (hl : kvs.length < sizeLine) {Q : Hp → Prop} (q : ∀ H', Keep H H' → H' m = some (.dK kvs') → Q H') : rDP (.ref m) (.str k) v H Q := by
  subst e
  exact ⟨m, _, rfl, DPut.k (k := .inr k) h hl, q _ (keep_dict h) upd_same⟩
theorem w_dput {td ty tv : TE} (h : tv σ H fun v H1 => td σ H1 fun x H2 => ty σ H2 fun y H3 => rDP x y v H3 (D.nx σ)) : sDPut td ty tv D σ H := h
theorem w_par {a b : Nat} {ta : TA} (h : ta σ H fun vs H1 => r2V vs fun v w => D.nx ((σ.set a (some v)).set b (some w)) H1) : tPar a b ta D σ H := h
theorem w_par2 {v w : V} {A : V → V → Prop} (h : A v w) : r2V [v, w] A := ⟨v, w, rfl, h⟩
def r3V (vs : List V) (A : V → V → V → Prop) : Prop := ∃ u v w, vs = [u, v, w] ∧ A u v w
theorem w_par3 {a b c : Nat} {ta : TA} (h : ta σ H fun vs H1 => r3V vs fun u v w => D.nx (((σ.set a (some u)).set b (some v)).set c (some w)) H1) : tPar3 a b c ta D σ H := h
theorem w_par33 {u v w : V} {A : V → V → V → Prop} (h : A u v w) : r3V [u, v, w] A := ⟨u, v, w, rfl, h⟩
theorem w_eqB {a b : Bool} (q1 : a = b → Q (.bl true) H) (q2 : a ≠ b → Q (.bl false) H) : rEq (.bl a) (.bl b) H Q := ⟨rfl, by
  by_cases h : a = b
  · subst h; rw [decide_eq_true rfl]; exact q1 rfl
  · rw [decide_eq_false (fun z => h (V.bl.inj z))]; exact q2 h⟩
theorem w_neB {a b : Bool} (q1 : a = b → Q (.bl false) H) (q2 : a ≠ b → Q (.bl true) H) : rNe (.bl a) (.bl b) H Q := ⟨rfl, by
  by_cases h : a = b
  · subst h; rw [decide_eq_true rfl]; exact q1 rfl
  · rw [decide_eq_false (fun z => h (V.bl.inj z))]; exact q2 h⟩
theorem w_aug {te : TE} {ti : TIp} (h : σ[i]? = some (some x)) (q : te σ H fun y H1 => ti x y H1 fun z H2 => D.nx (σ.set i (some z)) H2) : tAug i te ti D σ H := ⟨x, h, q⟩
theorem w_gTup {n : Nat} {tg : TGs} {Q : L2.St → Hp → Prop} {a : Addr} {xs : List V} (hs : SqT K H a xs) (hn : xs.length = n) (q : tg xs σ H Q) : gTup K n tg (.ref a) σ H Q := ⟨a, xs, rfl, hs, hn, q⟩
theorem w_gTup2 {i j : Nat} {Q : L2.St → Hp → Prop} {d e : PyData} (h : Dp K H v (.tuple [d, e])) (q : ∀ v1 v2, Dp K H v1 d → Dp K H v2 e → Q ((σ.set i (some v1)).set j (some v2)) H) : gTup K 2 (gCons (gName i) (gCons (gName j) gNil)) v σ H Q := by
  obtain ⟨a, xs, rfl, hs, ha⟩ := dp_tup h
  cases ha with
  | cons h1 h2 => cases h2 with
    | cons h3 h4 => cases h4; exact ⟨a, _, rfl, hs, rfl, _, _, rfl, _, _, rfl, rfl, q _ _ h1 h3⟩
theorem w_slice {r : V → Option Int → Option Int → Hp → VK → Prop} {tl th : TO} (h : te σ H fun x H1 => tl σ H1 fun l H2 => th σ H2 fun u H3 => r x l u H3 Q) : tSl r te tl th σ H Q := h
theorem w_noPart {Q : Option Int → Hp → Prop} (h : Q none H) : tNoPart σ H Q := h
theorem w_part {Q : Option Int → Hp → Prop} (h : te σ H fun x H1 => rPI x fun o => Q o H1) : tPart te σ H Q := h
theorem w_pint {n : Int} {A : Option Int → Prop} (h : A (some n)) : rPI (.int n) A := ⟨n, rfl, h⟩
theorem w_slL {lo hi : Option Int} {ds' : List PyData} (h : Dp K H v (.list ds)) (hc : ∀ xs, xs.length = ds.length → DpAll K H xs ds → DpAll K H (cutV xs lo hi) ds') (q : ∀ p H' xs, H p = none → Same H H' → H' p = some (.lst xs) → Dp K H' (.ref p) (.list ds') → Q (.ref p) H') : rSlL K v lo hi H Q := by
  obtain ⟨a, xs, rfl, hs, ha⟩ := dp_lst h
  exact ⟨a, xs, rfl, hs, fun p hp => q p _ _ hp (same_new hp) upd_same (dp_newL upd_same (dpa_same (same_new hp) (hc xs (dpa_len ha) ha)))⟩
end
/-- a text's signs, a text of signs -/
theorem wideX {i j : Int} {a b : Nat} (ha : i.natAbs < 2 ^ a) (hb : j.natAbs < 2 ^ b) (h : a + b ≤ 134217728) : CMulX i j := mulx_ok ha hb h
theorem mulS {i j : Int} (ha : -(2 ^ 250) < i ∧ i < 2 ^ 250) (hb : -(2 ^ 250) < j ∧ j < 2 ^ 250) : CMulX i j := mulx_ok (a := 250) (b := 250) (by omega) (by omega) (by decide)
theorem divS {i j : Int} (h : 0 < j ∧ j < 2 ^ 250) : CDivW i j := wide_div (b := 250) h.1 (by omega) (by decide) (by decide)
end Tw
namespace Tw
open PySem PySem.Spec PyProof.Rows L2
def rMod : R2 := rI (fun _ j => 0 < j) fun i j => .int (i % j)
theorem op_modD {X : Cx} : OpR X (binaryOp .Mod) rMod := op_mod
theorem w_rMod {H : Hp} {Q : VK} {i j : Int} (hc : 0 < j) (q : Q (.int (i % j)) H) : rMod (.int i) (.int j) H Q := ⟨i, j, rfl, rfl, hc, q⟩
/-- the rest as a letter -/
theorem w_rModA {H : Hp} {Q : VK} {i j : Int} (hc : 0 < j) (q : ∀ r, r = i % j → 0 ≤ r → r < j → Q (.int r) H) : rMod (.int i) (.int j) H Q :=
  ⟨i, j, rfl, rfl, hc, q _ rfl (Int.emod_nonneg _ (by omega)) (Int.emod_lt_of_pos _ hc)⟩
theorem w_rModB {H : Hp} {Q : VK} {i j : Int} (hc : 0 < j) (q : ∀ r, 0 ≤ r → r < j → Q (.int r) H) : rMod (.int i) (.int j) H Q :=
  w_rModA hc fun r _ => q r
def rWB (W : Nat → L2.St → Hp → Prop) (m : Nat) (tb : TS) (D : Ends) (σ : L2.St) (H1 : Hp) : Prop := ∃ N : L2.St → Hp → Prop, (∀ σ' H', N σ' H' → ∃ m', m' < m ∧ W m' σ' H') ∧ tb { D with nx := N, ct := N, bk := D.nx } σ H1
theorem w_wb {W : Nat → L2.St → Hp → Prop} {m : Nat} {tb : TS} {D : Ends} {σ : L2.St} {H1 : Hp} (h : tb { D with nx := fun σ' H' => ∃ m', m' < m ∧ W m' σ' H', ct := fun σ' H' => ∃ m', m' < m ∧ W m' σ' H', bk := D.nx } σ H1) : rWB W m tb D σ H1 :=
  ⟨_, fun _ _ h => h, h⟩
theorem whl_by {c : TT} {tb : TS} {D : Ends} {σ : L2.St} {H : Hp} (W : Nat → L2.St → Hp → Prop) (m0 : Nat) (h0 : W m0 σ H) (hs : ∀ m σ H, W m σ H → c σ H fun b H1 => if b = true then rWB W m tb D σ H1 else D.nx σ H1) : tWhile c tb D σ H :=
  ⟨W, ⟨m0, h0⟩, hs⟩
/-- two ways of an expression meet behind it -/
theorem w_meet {t : TE} {σ : L2.St} {H : Hp} {Q : VK} (Pm : V → Hp → Prop) (h : ∀ Q' : VK, (∀ v H', Pm v H' → Q' v H') → t σ H Q') (k : ∀ v H', Pm v H' → Q v H') : t σ H Q := h Q k
/-- .. of a statement -/
theorem w_meetS {t : TS} {D : Ends} {σ : L2.St} {H : Hp} (Pm : L2.St → Hp → Prop) (h : ∀ nx' : L2.St → Hp → Prop, (∀ σ' H', Pm σ' H' → nx' σ' H') → t { D with nx := nx' } σ H) (k : ∀ σ' H', Pm σ' H' → D.nx σ' H') : t D σ H := h D.nx k
theorem cxK {CX : CXT} {P : Program} {w : World} {K : PySem.W.Frag} {mg : Str → Option Value} {base : Heap} {N : List Str} {qual : Str} {scope : Scope} {f : Addr} {cd : Value} {A : Around} {outer : List Env} {s : Shared} {H : Hp} {E : XK} :
    (cxOf CX P w K mg base N qual scope f cd A outer s H E).nox.K = K := rfl
end Tw
namespace Tw
open PySem PySem.Spec PyProof.Rows L2
/-! ### slices, for -/
def cutD {α : Type} (ds : List α) (lo hi : Option Int) : List α := (ds.drop (HT.sIx ds.length 0 lo)).take (HT.sIx ds.length ds.length hi - HT.sIx ds.length 0 lo)
theorem cutD_len {α : Type} (ds : List α) (lo hi : Option Int) : (cutD ds lo hi).length ≤ ds.length := by
  unfold cutD; rw [List.length_take, List.length_drop]; omega
theorem cutD_map {α β : Type} (f : α → β) (ds : List α) (lo hi : Option Int) : cutD (ds.map f) lo hi = (cutD ds lo hi).map f := by
  unfold cutD; rw [List.length_map, List.map_take, List.map_drop]
theorem cutD_from {α : Type} (ds : List α) {k : Int} (h : 0 ≤ k) : cutD ds (some k) none = ds.drop k.toNat := by
  obtain ⟨n, rfl⟩ := Int.eq_ofNat_of_zero_le h
  unfold cutD
  rw [show HT.sIx ds.length 0 (some (n : Int)) = min n ds.length from HT.sIx_nat _ _ _, HT.sIx_none, Int.toNat_natCast]
  by_cases hn : n ≤ ds.length
  · rw [Nat.min_eq_left hn, List.take_of_length_le (by rw [List.length_drop]; omega)]
  · rw [Nat.min_eq_right (by omega), List.drop_eq_nil_of_le (Nat.le_refl _), List.drop_eq_nil_of_le (by omega)]
    simp
theorem cutD_to {α : Type} (ds : List α) {k : Int} (h : 0 ≤ k) : cutD ds none (some k) = ds.take k.toNat := by
  obtain ⟨n, rfl⟩ := Int.eq_ofNat_of_zero_le h
  unfold cutD
  rw [show HT.sIx ds.length ds.length (some (n : Int)) = min n ds.length from HT.sIx_nat _ _ _, HT.sIx_none, Int.toNat_natCast, Nat.sub_zero, List.drop_zero]
  by_cases hn : n ≤ ds.length
  · rw [Nat.min_eq_left hn]
  · rw [Nat.min_eq_right (by omega), List.take_length, List.take_of_length_le (by omega)]
theorem cutD_both {α : Type} (ds : List α) {a b : Int} (h : 0 ≤ a) (h2 : 0 ≤ b) : cutD ds (some a) (some b) = (ds.take b.toNat).drop a.toNat := by
  obtain ⟨n, rfl⟩ := Int.eq_ofNat_of_zero_le h
  obtain ⟨k, rfl⟩ := Int.eq_ofNat_of_zero_le h2
  unfold cutD
  rw [show HT.sIx ds.length 0 (some (n : Int)) = min n ds.length from HT.sIx_nat _ _ _, show HT.sIx ds.length ds.length (some (k : Int)) = min k ds.length from HT.sIx_nat _ _ _, Int.toNat_natCast, Int.toNat_natCast, ← List.drop_take]
  have e1 : List.take (min k ds.length) ds = List.take k ds := by
    by_cases hk : k ≤ ds.length
    · rw [Nat.min_eq_left hk]
    · rw [Nat.min_eq_right (show ds.length ≤ k by omega), List.take_length, List.take_of_length_le (show ds.length ≤ k by omega)]
  rw [e1]
  by_cases hn : n ≤ ds.length
  · rw [Nat.min_eq_left hn]
  · rw [Nat.min_eq_right (show ds.length ≤ n by omega), List.drop_eq_nil_of_le (by rw [List.length_take]; omega), List.drop_eq_nil_of_le (by rw [List.length_take]; omega)]
theorem cutD_butlast {α : Type} (ds : List α) : cutD ds none (some (-1)) = ds.dropLast := by
  unfold cutD
  rw [HT.sIx_none]
  show (List.drop 0 ds).take ((if (-1 : Int) < 0 then ((-1 : Int) + (ds.length : Int)).toNat else min (-1 : Int).toNat ds.length) - 0) = _
  rw [if_pos (by decide), List.drop_zero, List.dropLast_eq_take]
  congr 1
  omega
theorem cutV_D (xs : List V) (lo hi : Option Int) : cutV xs lo hi = cutD xs lo hi := rfl
section
variable {K : PySem.W.Frag} {σ : L2.St} {H : Hp} {Q : VK} {D : Ends} {v x y z : V} {d e : PyData} {ds es : List PyData} {tl te : TE} {ta : TA} {tb : TS} {g : TG} {lo hi : Option Int}
theorem dpa_cut {vs : List V} (h : DpAll K H vs ds) : DpAll K H (cutD vs lo hi) (cutD ds lo hi) := by
  unfold cutD
  rw [dpa_len h]
  exact dpa_take _ (dpa_drop _ h)
theorem w_slD (h : Dp K H v (.list ds)) (q : ∀ p H' xs, H p = none → Same H H' → H' p = some (.lst xs) → Dp K H' (.ref p) (.list (cutD ds lo hi)) → Q (.ref p) H') : rSlL K v lo hi H Q := by
  obtain ⟨a, xs, rfl, hs, ha⟩ := dp_lst h
  exact ⟨a, xs, rfl, hs, fun p hp => q p _ _ hp (same_new hp) upd_same (dp_newL upd_same (dpa_same (same_new hp) (dpa_cut ha)))⟩
theorem w_slV {a : Addr} {xs : List V} (h : SqL K H a xs) (q : ∀ p H', H p = none → Same H H' → H' p = some (.lst (cutD xs lo hi)) → Q (.ref p) H') : rSlL K (.ref a) lo hi H Q :=
  ⟨a, xs, rfl, h, fun p hp => q p _ hp (same_new hp) upd_same⟩
theorem w_slT (h : Dp K H v (.tuple ds)) (q : ∀ p H', Same H H' → Dp K H' (.ref p) (.tuple (cutD ds lo hi)) → Q (.ref p) H') (hne : ¬ (HT.sIx ds.length 0 lo = 0 ∧ HT.sIx ds.length ds.length hi = ds.length)) : ∃ a xs, v = .ref a ∧ SqT K H a xs := by
  obtain ⟨a, xs, rfl, hs, ha⟩ := dp_tup h
  exact ⟨a, xs, rfl, hs⟩
/-- strings -/
theorem w_slS {s : Str} (hz : s.length ≤ sizeLine) (q : Q (.str ⟨(cutD s.cps.toList lo hi).toArray⟩) H) : rSlS (.str s) lo hi H Q := ⟨s, rfl, hz, q⟩
def rForL (K : PySem.W.Frag) (g : TG) (tb : TS) (D : Ends) (σ : L2.St) (x : V) (H1 : Hp) : Prop := ∃ a, x = .ref a ∧ (∃ xs, SqL K H1 a xs) ∧ ∃ W : Nat → Nat → L2.St → Hp → Prop, (∃ m, W 0 m σ H1) ∧ ∀ i m σ H, W i m σ H →
  ((Itl K a).stop i H ∧ D.nx σ H) ∨ ((Itl K a).go i H ∧ ∃ N : L2.St → Hp → Prop, (∀ σ' H', N σ' H' → ∃ m', m' < m ∧ W (i + 1) m' σ' H') ∧ ∀ x H', (Itl K a).yld i H x H' → g x σ H' fun σ2 H2 => tb { D with nx := N, ct := N, bk := D.nx } σ2 H2)
theorem w_forL (h : tl σ H fun x H1 => rForL K g tb D σ x H1) : tFor (iList K tl) g tb D σ H := h
def rForT (K : PySem.W.Frag) (g : TG) (tb : TS) (D : Ends) (σ : L2.St) (x : V) (H1 : Hp) : Prop := ∃ a, x = .ref a ∧ (∃ xs, SqT K H1 a xs) ∧ ∃ W : Nat → Nat → L2.St → Hp → Prop, (∃ m, W 0 m σ H1) ∧ ∀ i m σ H, W i m σ H →
  ((Itt K a).stop i H ∧ D.nx σ H) ∨ ((Itt K a).go i H ∧ ∃ N : L2.St → Hp → Prop, (∀ σ' H', N σ' H' → ∃ m', m' < m ∧ W (i + 1) m' σ' H') ∧ ∀ x H', (Itt K a).yld i H x H' → g x σ H' fun σ2 H2 => tb { D with nx := N, ct := N, bk := D.nx } σ2 H2)
theorem w_forT (h : tl σ H fun x H1 => rForT K g tb D σ x H1) : tFor (iTup K tl) g tb D σ H := h
def rForR (g : TG) (tb : TS) (D : Ends) (σ : L2.St) (lo : Int) (n : Nat) (H1 : Hp) : Prop := ∃ W : Nat → Nat → L2.St → Hp → Prop, (∃ m, W 0 m σ H1) ∧ ∀ i m σ H, W i m σ H →
  ((Itr lo n).stop i H ∧ D.nx σ H) ∨ ((Itr lo n).go i H ∧ ∃ N : L2.St → Hp → Prop, (∀ σ' H', N σ' H' → ∃ m', m' < m ∧ W (i + 1) m' σ' H') ∧ ∀ x H', (Itr lo n).yld i H x H' → g x σ H' fun σ2 H2 => tb { D with nx := N, ct := N, bk := D.nx } σ2 H2)
def rForR1 (g : TG) (tb : TS) (D : Ends) (σ : L2.St) (vs : List V) (H1 : Hp) : Prop := ∃ j : Int, vs = [.int j] ∧ -(2 ^ 62) ≤ j ∧ j < 2 ^ 62 ∧ rForR g tb D σ 0 j.toNat H1
def rForR2 (g : TG) (tb : TS) (D : Ends) (σ : L2.St) (vs : List V) (H1 : Hp) : Prop := ∃ i j : Int, vs = [.int i, .int j] ∧ (-(2 ^ 62) ≤ i ∧ i < 2 ^ 62 ∧ -(2 ^ 62) ≤ j ∧ j < 2 ^ 62) ∧ rForR g tb D σ i (j - i).toNat H1
theorem w_forR1 (h : ta σ H fun vs H1 => rForR1 g tb D σ vs H1) : tFor (iRng1 ta) g tb D σ H := h
theorem w_forR2 (h : ta σ H fun vs H1 => rForR2 g tb D σ vs H1) : tFor (iRng2 ta) g tb D σ H := h
def rForS (g : TG) (tb : TS) (D : Ends) (σ : L2.St) (v : V) (H1 : Hp) : Prop := ∃ x, v = .str x ∧ ∃ W : Nat → Nat → L2.St → Hp → Prop, (∃ m, W 0 m σ H1) ∧ ∀ i m σ H, W i m σ H →
  ((Its x).stop i H ∧ D.nx σ H) ∨ ((Its x).go i H ∧ ∃ N : L2.St → Hp → Prop, (∀ σ' H', N σ' H' → ∃ m', m' < m ∧ W (i + 1) m' σ' H') ∧ ∀ x' H', (Its x).yld i H x' H' → g x' σ H' fun σ2 H2 => tb { D with nx := N, ct := N, bk := D.nx } σ2 H2)
theorem w_forS (h : te σ H fun v H1 => rForS g tb D σ v H1) : tFor (iStr te) g tb D σ H := h
/-- a list walked: at each turn an item by its data -/
theorem forL_by (Pv : Nat → L2.St → Hp → Prop) (src : Dp K H x (.list ds)) (h0 : Pv 0 σ H) (hk : ∀ i σ' H', i ≤ ds.length → Pv i σ' H' → Keep H H')
    (hs : ∀ i d y σ' H', ds[i]? = some d → Dp K H' y d → Pv i σ' H' → g y σ' H' fun σ2 H2 => tb { D with nx := Pv (i + 1), ct := Pv (i + 1), bk := D.nx } σ2 H2) (hd : ∀ σ' H', Pv ds.length σ' H' → D.nx σ' H') : rForL K g tb D σ x H := by
  obtain ⟨a, xs, rfl, hq, ha⟩ := dp_lst src
  have hl := dpa_len ha
  refine ⟨a, rfl, ⟨xs, hq⟩, for_list (xs := xs) Pv h0 (fun i σ' H' hi p => (hk i σ' H' (by omega) p).seqL hq) (fun i y σ' H' hi p => ?_) (fun σ' H' p => hd σ' H' (by rw [← hl]; exact p))⟩
  obtain ⟨d, e1, e2⟩ := dpa_get2 ha hi
  exact hs i d y σ' H' e1 (dp_keep (hk i σ' H' (by have := (List.getElem?_eq_some_iff.mp e1).1; omega) p) e2) p
theorem forT_by (Pv : Nat → L2.St → Hp → Prop) (src : Dp K H x (.tuple ds)) (h0 : Pv 0 σ H) (hk : ∀ i σ' H', i ≤ ds.length → Pv i σ' H' → Keep H H')
    (hs : ∀ i d y σ' H', ds[i]? = some d → Dp K H' y d → Pv i σ' H' → g y σ' H' fun σ2 H2 => tb { D with nx := Pv (i + 1), ct := Pv (i + 1), bk := D.nx } σ2 H2) (hd : ∀ σ' H', Pv ds.length σ' H' → D.nx σ' H') : rForT K g tb D σ x H := by
  obtain ⟨a, xs, rfl, hq, ha⟩ := dp_tup src
  have hl := dpa_len ha
  refine ⟨a, rfl, ⟨xs, hq⟩, for_tup (xs := xs) Pv h0 (fun i σ' H' hi p => (hk i σ' H' (by omega) p).seqT hq) (fun i y σ' H' hi p => ?_) (fun σ' H' p => hd σ' H' (by rw [← hl]; exact p))⟩
  obtain ⟨d, e1, e2⟩ := dpa_get2 ha hi
  exact hs i d y σ' H' e1 (dp_keep (hk i σ' H' (by have := (List.getElem?_eq_some_iff.mp e1).1; omega) p) e2) p
theorem forR1_by {k : Int} (Pv : Nat → L2.St → Hp → Prop) (hz : -(2 ^ 62) ≤ k ∧ k < 2 ^ 62) (h0 : Pv 0 σ H)
    (hs : ∀ (i : Nat) σ' H', (i : Int) < k → Pv i σ' H' → g (.int (i : Int)) σ' H' fun σ2 H2 => tb { D with nx := Pv (i + 1), ct := Pv (i + 1), bk := D.nx } σ2 H2) (hd : ∀ σ' H', Pv k.toNat σ' H' → D.nx σ' H') : rForR1 g tb D σ [.int k] H :=
  ⟨k, rfl, hz.1, hz.2, for_range (lo := 0) (n := k.toNat) Pv h0 (fun i σ' H' hi p => by rw [Int.zero_add]; exact hs i σ' H' (by omega) p) hd⟩
theorem forR2_by {lo k : Int} (Pv : Nat → L2.St → Hp → Prop) (hz : -(2 ^ 62) ≤ lo ∧ lo < 2 ^ 62 ∧ -(2 ^ 62) ≤ k ∧ k < 2 ^ 62) (h0 : Pv 0 σ H)
    (hs : ∀ (i : Nat) σ' H', lo + (i : Int) < k → Pv i σ' H' → g (.int (lo + (i : Int))) σ' H' fun σ2 H2 => tb { D with nx := Pv (i + 1), ct := Pv (i + 1), bk := D.nx } σ2 H2) (hd : ∀ σ' H', Pv (k - lo).toNat σ' H' → D.nx σ' H') : rForR2 g tb D σ [.int lo, .int k] H :=
  ⟨lo, k, rfl, hz, for_range (lo := lo) (n := (k - lo).toNat) Pv h0 (fun i σ' H' hi p => hs i σ' H' (by omega) p) hd⟩
theorem forS_by {s : Str} (Pv : Nat → L2.St → Hp → Prop) (h0 : Pv 0 σ H)
    (hs : ∀ (i : Nat) c σ' H', s.cps.toList[i]? = some c → Pv i σ' H' → g (.str ⟨#[c]⟩) σ' H' fun σ2 H2 => tb { D with nx := Pv (i + 1), ct := Pv (i + 1), bk := D.nx } σ2 H2) (hd : ∀ σ' H', Pv s.length σ' H' → D.nx σ' H') : rForS g tb D σ (.str s) H := by
  refine ⟨s, rfl, fun i m σ H => m = s.length - i ∧ i ≤ s.length ∧ Pv i σ H, ⟨s.length, by simp, Nat.zero_le _, h0⟩, ?_⟩
  rintro i m σ H ⟨rfl, hi, p⟩
  by_cases hlt : i < s.length
  · refine .inr ⟨hlt, Pv (i + 1), fun σ' H' p' => ⟨s.length - (i + 1), by omega, rfl, hlt, p'⟩, fun x H' y => ?_⟩
    obtain ⟨e, c, hc, rfl⟩ := y
    subst e
    exact hs i c σ _ (by simpa using hc) p
  · have e : i = s.length := by omega
    subst e
    exact .inl ⟨Nat.le_refl _, hd σ H p⟩
theorem w_gName {j : Nat} {Q : L2.St → Hp → Prop} (q : Q (σ.set j (some v)) H) : gName j v σ H Q := q
theorem w_pw {P : Prop} (h : P) : P := h
end
end Tw
namespace Tw
open PySem PySem.Spec PyProof.Rows L2
/-! ### data without bools and dicts: == is equality -/
def pln : Nat → PyData → Bool
  | _, .none => true
  | _, .int _ => true
  | _, .str x => PyData.strOk x
  | k + 1, .list ds => ds.all (pln k)
  | k + 1, .tuple ds => ds.all (pln k)
  | _, _ => false
theorem pln_shape : ∀ (k : Nat) (d : PyData), pln k d = true → d.canLay0 = true ∧ d.depth ≤ k := by
  intro k
  induction k with
  | zero =>
    intro d h
    cases d <;> simp [pln] at h <;> simp [PyData.canLay0, PyData.depth, h]
  | succ k ih =>
    have all : ∀ ds : List PyData, ds.all (pln k) = true → PyData.canLayAll0 ds = true ∧ PyData.depthAll ds ≤ k := by
      intro ds
      induction ds with
      | nil => intro _; exact ⟨rfl, Nat.zero_le _⟩
      | cons d ds ihd =>
        intro h
        rw [List.all_cons, Bool.and_eq_true] at h
        obtain ⟨a, b⟩ := ih d h.1
        obtain ⟨a', b'⟩ := ihd h.2
        exact ⟨by simp [PyData.canLayAll0, a, a'], by simp only [PyData.depthAll]; omega⟩
    intro d h
    cases d with
    | list ds =>
      obtain ⟨a, b⟩ := all ds (by simpa [pln] using h)
      exact ⟨by simpa [PyData.canLay0] using a, by simp only [PyData.depth]; omega⟩
    | tuple ds =>
      obtain ⟨a, b⟩ := all ds (by simpa [pln] using h)
      exact ⟨by simpa [PyData.canLay0] using a, by simp only [PyData.depth]; omega⟩
    | none => simp [PyData.canLay0, PyData.depth]
    | int i => simp [PyData.canLay0, PyData.depth]
    | str x => simp [pln] at h; simp [PyData.canLay0, PyData.depth, h]
    | bool b => simp [pln] at h
    | dict kvs => simp [pln] at h
theorem pln_shaped {k : Nat} {d : PyData} (h : pln k d = true) (hk : k ≤ 64) : SeqAt.shaped d = true := by
  obtain ⟨a, b⟩ := pln_shape k d h
  unfold SeqAt.shaped
  rw [a, Bool.true_and, decide_eq_true]
  omega
theorem pln_eqv : ∀ (k l : Nat) (d e : PyData), pln k d = true → pln l e = true → (PyData.eqv d e = true ↔ d = e) := by
  intro k
  induction k with
  | zero =>
    intro l d e h1 h2
    cases d <;> simp [pln] at h1 <;> cases e <;> simp [PyData.eqv] <;> cases l <;> simp [pln] at h2
  | succ k ih =>
    have all : ∀ (l : Nat) (ds es : List PyData), ds.all (pln k) = true → es.all (pln l) = true → (PyData.eqvAll ds es = true ↔ ds = es) := by
      intro l ds
      induction ds with
      | nil => intro es _ _; cases es <;> simp [PyData.eqvAll]
      | cons d ds ihd =>
        intro es h1 h2
        cases es with
        | nil => simp [PyData.eqvAll]
        | cons e es =>
          rw [List.all_cons, Bool.and_eq_true] at h1 h2
          simp only [PyData.eqvAll, Bool.and_eq_true, List.cons.injEq]
          rw [ih l d e h1.1 h2.1, ihd es h1.2 h2.2]
    intro l d e h1 h2
    cases d with
    | list ds =>
      cases e with
      | list es =>
        cases l with
        | zero => simp [pln] at h2
        | succ l =>
          have := all l ds es (by simpa [pln] using h1) (by simpa [pln] using h2)
          simpa [PyData.eqv] using this
      | _ => simp [PyData.eqv]
    | tuple ds =>
      cases e with
      | tuple es =>
        cases l with
        | zero => simp [pln] at h2
        | succ l =>
          have := all l ds es (by simpa [pln] using h1) (by simpa [pln] using h2)
          simpa [PyData.eqv] using this
      | _ => simp [PyData.eqv]
    | none => cases e <;> simp [PyData.eqv]
    | int i => cases e <;> simp [PyData.eqv] <;> (cases l <;> simp [pln] at h2)
    | str x => cases e <;> simp [PyData.eqv]
    | bool b => simp [pln] at h1
    | dict kvs => simp [pln] at h1
theorem pln_ints {k : Nat} (ns : List Int) : pln (k + 1) (.list (ns.map PyData.int)) = true := by
  cases k <;> simp [pln, List.all_eq_true]
theorem pln_intsT {k : Nat} (ns : List Int) : pln (k + 1) (.tuple (ns.map PyData.int)) = true := by
  cases k <;> simp [pln, List.all_eq_true]
section
variable {K : PySem.W.Frag} {H : Hp} {Q : VK} {x y : V} {d e : PyData}
theorem w_eqP (h1 : Dp K H x d) (h2 : Dp K H y e) (p1 : pln 9 d = true) (p2 : pln 9 e = true) (q1 : d = e → Q (.bl true) H) (q2 : d ≠ e → Q (.bl false) H) : rEqD K x y H Q := by
  refine ⟨d, e, h1, h2, pln_shaped p1 (by decide), pln_shaped p2 (by decide), ?_⟩
  have r := pln_eqv _ _ d e p1 p2
  cases he : PyData.eqv d e with
  | true => exact q1 (r.mp he)
  | false => exact q2 (fun z => by rw [r.mpr z] at he; cases he)
theorem w_neP (h1 : Dp K H x d) (h2 : Dp K H y e) (p1 : pln 9 d = true) (p2 : pln 9 e = true) (q1 : d = e → Q (.bl false) H) (q2 : d ≠ e → Q (.bl true) H) : rNeD K x y H Q := by
  refine ⟨d, e, h1, h2, pln_shaped p1 (by decide), pln_shaped p2 (by decide), ?_⟩
  have r := pln_eqv _ _ d e p1 p2
  cases he : PyData.eqv d e with
  | true => exact q1 (r.mp he)
  | false => exact q2 (fun z => by rw [r.mpr z] at he; cases he)
end
/-! ### a dict written out -/
def rDisp (p : Addr) (ps : List (V × V)) (H2 : Hp) (Q : VK) : Prop := H2 p = some (.dK []) ∧ ∃ kvs : List (Key × V), ps = kvs.map (fun kv => (kV kv.1, kv.2)) ∧ kvs.length ≤ 15 ∧ Q (.ref p) (upd H2 p (.dK (mergeK [] kvs)))
theorem w_disp {σ : L2.St} {H : Hp} {Q : VK} {trs : List (TE × TE)} (h : ∀ p H0, H p = none → Same H H0 → H0 p = some (.dK []) → tPairs trs σ H0 fun ps H2 => rDisp p ps H2 Q) : tDisp trs σ H Q := fun p hp => h p _ hp (same_new hp) upd_same
theorem w_pp {σ : L2.St} {H : Hp} {Q : List (V × V) → Hp → Prop} {tk tv : TE} {r : List (TE × TE)} (h : tk σ H fun x H1 => tv σ H1 fun y H2 => tPairs r σ H2 fun ps H3 => Q ((x, y) :: ps) H3) : tPairs ((tk, tv) :: r) σ H Q := h
theorem w_pp0 {σ : L2.St} {H : Hp} {Q : List (V × V) → Hp → Prop} (h : Q [] H) : tPairs [] σ H Q := h
theorem pg_tupK {X : Cx} {K : PySem.W.Frag} {es : List Expr} {k : Nat} {t : TGs} {n : Nat} {pos : Pos} (hc : X.calm = true) (hh : PGs X es t) (h : X.K = K := by rfl)
    (hn : (assignEach es X.env).length = n := by rfl) (hst : (assignEach es X.env).findIdx? (·.1) = none := by rfl) : PG X (.Tuple es k pos) (gTup K n t) := h ▸ pg_tup hc hh hn hst
end Tw
namespace Tw
open PySem PySem.Spec PyProof.Rows L2
/-! ### the law's own drawing: its dict -/
def moKvs (left seed : Int) (c : Addr) (spot : Int) : List (Key × V) := [(.inr "left", .int left), (.inr "seed", .int seed), (.inr "cells", .ref c), (.inr "spot", .int spot)]
theorem mo_len {l s : Int} {c : Addr} {p : Int} : (moKvs l s c p).length < sizeLine := by show 4 < sizeLine; decide
/-- a number of the script, or a little more -/
structure Big (n : Int) : Prop where
  lt : n.natAbs < 2 ^ 1048600
theorem Big.mul {i j : Int} (h : Big i) (hb : -(2 ^ 250) < j ∧ j < 2 ^ 250) : CMulX i j := mulx_ok (a := 1048600) (b := 250) h.lt (by omega) (by decide)
theorem Big.bits {n : Int} (h : Builtin.Int.intBits n ≤ 1048576) : Big n := by
  have h1 : n.natAbs < 2 ^ Builtin.Int.intBits n := by
    by_cases h0 : n = 0
    · subst h0; decide
    · unfold Builtin.Int.intBits
      rw [if_neg (by simpa using h0)]
      exact Nat.lt_log2_self
  exact ⟨Nat.lt_of_lt_of_le h1 (Nat.pow_le_pow_right (by decide) (by omega))⟩
theorem Big.small {n : Int} (h : -(2 ^ 250) < n ∧ n < 2 ^ 250) : Big n := by
  exact ⟨Nat.lt_of_lt_of_le (show n.natAbs < 2 ^ 250 by omega) (Nat.pow_le_pow_right (by decide) (by decide))⟩
/-- the dict of the law's draws, at most b of which were made; its cells at c -/
def Mo (H : Hp) (m c : Addr) (b : Nat) : Prop := ∃ (left seed spot : Int) (ns : List Int),
  H m = some (.dK (moKvs left seed c spot)) ∧ H c = some (.lst (ns.map V.int)) ∧ 0 < ns.length ∧ ns.length ≤ 100 ∧ (∀ n ∈ ns, Big n) ∧ 0 ≤ seed ∧ seed < 2147483647 ∧ 0 ≤ spot ∧ spot ≤ b
theorem k_left_seed : ¬ Str.ofString "left" = Str.ofString "seed" := by decide +kernel
theorem k_left_cells : ¬ Str.ofString "left" = Str.ofString "cells" := by decide +kernel
theorem k_left_spot : ¬ Str.ofString "left" = Str.ofString "spot" := by decide +kernel
theorem k_seed_cells : ¬ Str.ofString "seed" = Str.ofString "cells" := by decide +kernel
theorem k_seed_spot : ¬ Str.ofString "seed" = Str.ofString "spot" := by decide +kernel
theorem k_cells_spot : ¬ Str.ofString "cells" = Str.ofString "spot" := by decide +kernel
theorem mo_left {l s : Int} {c : Addr} {p : Int} : valV (moKvs l s c p) (.inr "left") = some (.int l) := by simp [valV, moKvs]
theorem mo_seed {l s : Int} {c : Addr} {p : Int} : valV (moKvs l s c p) (.inr "seed") = some (.int s) := by simp [valV, moKvs, k_left_seed]
theorem mo_cells {l s : Int} {c : Addr} {p : Int} : valV (moKvs l s c p) (.inr "cells") = some (.ref c) := by simp [valV, moKvs, k_left_cells, k_seed_cells]
theorem mo_spot {l s : Int} {c : Addr} {p : Int} : valV (moKvs l s c p) (.inr "spot") = some (.int p) := by simp [valV, moKvs, k_left_spot, k_seed_spot, k_cells_spot]
theorem mo_put_left {l s : Int} {c : Addr} {p z : Int} : putK (moKvs l s c p) (.inr "left") (.int z) = moKvs z s c p := by
  simp [putK, moKvs, k_left_seed, k_left_cells, k_left_spot, Ne.symm k_left_seed, Ne.symm k_left_cells, Ne.symm k_left_spot]
theorem mo_put_spot {l s : Int} {c : Addr} {p z : Int} : putK (moKvs l s c p) (.inr "spot") (.int z) = moKvs l s c z := by
  simp [putK, moKvs, k_left_spot, k_seed_spot, k_cells_spot]
theorem Mo.mono {H : Hp} {m c : Addr} {a b : Nat} (h : Mo H m c a) (l : a ≤ b) : Mo H m c b := by
  obtain ⟨left, seed, spot, ns, h1, h2, h3, h4, h5, h6, h7, h8, h9⟩ := h
  exact ⟨left, seed, spot, ns, h1, h2, h3, h4, h5, h6, h7, h8, by omega⟩
theorem Mo.same {H H' : Hp} {m c : Addr} {a : Nat} (e : Same H H') (h : Mo H m c a) : Mo H' m c a := by
  obtain ⟨left, seed, spot, ns, h1, h2, h⟩ := h
  exact ⟨left, seed, spot, ns, e _ _ h1, e _ _ h2, h⟩
theorem Mo.ne {H : Hp} {m c : Addr} {a : Nat} {D : Addr} (h : Mo H m c a) (hD : H D = none) : c ≠ D := by
  obtain ⟨left, seed, spot, ns, h1, h2, h⟩ := h
  exact ne_of_none h2 hD
theorem Mo.upd {H : Hp} {m c : Addr} {a : Nat} {D : Addr} {o : HO} {xs : List V} (h : Mo H m c a) (hD : H D = some (.lst xs)) (n : c ≠ D) : Mo (upd H D o) m c a := by
  obtain ⟨left, seed, spot, ns, h1, h2, h⟩ := h
  refine ⟨left, seed, spot, ns, ?_, ?_, h⟩
  · rw [upd_ne (ne_of h1 hD (fun z => nomatch z))]; exact h1
  · rw [upd_ne n]; exact h2
theorem Mo.new {H : Hp} {m c : Addr} {a : Nat} {D : Addr} {o : HO} (h : Mo H m c a) (hD : H D = none) : Mo (L2.upd H D o) m c a := h.same (same_new hD)
/-! ### data without lists -/
mutual
def noL : PyData → Bool
  | .list _ => false
  | .dict _ => false
  | .tuple ds => noLs ds
  | .none => true
  | .bool _ => true
  | .int _ => true
  | .str _ => true
def noLs : List PyData → Bool
  | [] => true
  | d :: ds => noL d && noLs ds
end
mutual
theorem dp_upd {K : PySem.W.Frag} {H : Hp} {D : Addr} {o : HO} {xs0 : List V} (hD : H D = some (.lst xs0)) : ∀ (d : PyData) (v : V), noL d = true → Dp K H v d → Dp K (upd H D o) v d
  | .none, _, _, h => by cases h; exact .non
  | .bool b, _, _, h => by cases h; exact .bl b
  | .int i, _, _, h => by cases h; exact .int i
  | .str x, _, _, h => by cases h; exact .str x
  | .list ds, _, n, h => by simp [noL] at n
  | .tuple ds, _, n, h => by
    cases h with
    | tup hs ha =>
      refine .tup ?_ (dpa_upd hD ds _ (by simpa [noL] using n) ha)
      rcases hs with (hs | ⟨ob, hs⟩) | hs
      · exact .inl (.inl (by rw [upd_ne (ne_of hs hD (fun z => nomatch z))]; exact hs))
      · exact .inl (.inr ⟨ob, by rw [upd_ne (ne_of hs hD (fun z => nomatch z))]; exact hs⟩)
      · exact .inr hs
  | .dict _, _, n, h => by cases h
theorem dpa_upd {K : PySem.W.Frag} {H : Hp} {D : Addr} {o : HO} {xs0 : List V} (hD : H D = some (.lst xs0)) : ∀ (ds : List PyData) (vs : List V), noLs ds = true → DpAll K H vs ds → DpAll K (upd H D o) vs ds
  | [], _, _, h => by cases h; exact .nil
  | d :: ds, _, n, h => by
    simp only [noLs, Bool.and_eq_true] at n
    cases h with
    | cons h1 h2 => exact .cons (dp_upd hD d _ n.1 h1) (dpa_upd hD ds _ n.2 h2)
end
theorem noLs_app : ∀ {ds es : List PyData}, noLs ds = true → noLs es = true → noLs (ds ++ es) = true
  | [], _, _, h => h
  | d :: ds, es, n, h => by
    simp only [noLs, Bool.and_eq_true] at n
    simp only [List.cons_append, noLs, Bool.and_eq_true]
    exact ⟨n.1, noLs_app n.2 h⟩
theorem noLs_one {d : PyData} (h : noL d = true) : noLs [d] = true := by simp [noLs, h]

/-! ### comprehensions -/
section
variable {K : PySem.W.Frag} {σ : L2.St} {H H1 : Hp} {Q : VK} {x : V} {ds : List PyData} {j : Nat} {vs : List Nat} {tt : TT} {te tl : TE} {ta : TA}
/-- what holds between two turns of a comprehension: i turns, the data made so far, the heap -/
structure LcJ (H1 : Hp) (J : Nat → List PyData → Hp → Prop) : Prop where
  start : ∀ D, H1 D = none → J 0 [] (L2.upd H1 D (.lst []))
  keep : ∀ i es H', J i es H' → Keep H1 H'
  upd : ∀ i es H' D xs o, H1 D = none → H' D = some (.lst xs) → J i es H' → J i es (L2.upd H' D o)
def LcP (K : PySem.W.Frag) (J : Nat → List PyData → Hp → Prop) (D : Addr) (i : Nat) (H' : Hp) : Prop :=
  ∃ vs es, H' D = some (.lst vs) ∧ DpAll K H' vs es ∧ noLs es = true ∧ es.length ≤ i ∧ J i es H'
def LcTurn (K : PySem.W.Frag) (J : Nat → List PyData → Hp → Prop) (tt : TT) (te : TE) (σx : L2.St) (i : Nat) (es : List PyData) (H' : Hp) : Prop :=
  ∀ (Yes : VK) (No : Hp → Prop), (∀ z H4 e, Keep H' H4 → noL e = true → Dp K H4 z e → J (i + 1) (es ++ [e]) H4 → Yes z H4) → (∀ H3, Keep H' H3 → J (i + 1) es H3 → No H3) →
    tt σx H' fun b H3 => if b = true then te σx H3 Yes else No H3
theorem lc_turn {J : Nat → List PyData → Hp → Prop} (lj : LcJ H1 J) {D : Addr} (hD : H1 D = none) {i : Nat} (hi : i < 1000000) {H' : Hp} {σx : L2.St} (p : LcP K J D i H') (turn : ∀ es, J i es H' → LcTurn K J tt te σx i es H') :
    tt σx H' fun b H3 => if b = true then te σx H3 fun y H4 => ∃ acc, H4 D = some (.lst acc) ∧ acc.length < sizeLine ∧ LcP K J D (i + 1) (L2.upd H4 D (.lst (acc ++ [y]))) else LcP K J D (i + 1) H3 := by
  obtain ⟨vs, es, p1, p2, p3, p4, p5⟩ := p
  have hs : sizeLine = 16777216 := sizeLine_eq
  refine turn es p5 _ _ (fun z H4 e k n dz j => ?_) (fun H3 k j => ?_)
  · have l := dpa_len p2
    refine ⟨vs, k.l p1, by omega, _, es ++ [e], upd_same, ?_, noLs_app p3 (noLs_one n), by simp; omega, lj.upd _ _ _ _ vs _ hD (k.l p1) j⟩
    exact dpa_app (dpa_upd (k.l p1) _ _ p3 (dpa_keep k p2)) (dpa_one (dp_upd (k.l p1) _ _ n dz))
  · exact ⟨vs, es, k.l p1, dpa_keep k p2, p3, by omega, j⟩
def rLcL (K : PySem.W.Frag) (j : Nat) (tt : TT) (te : TE) (vs : List Nat) (σ : L2.St) (x : V) (H1 : Hp) (Q : VK) : Prop := ∃ a, x = .ref a ∧ (∃ xs, SqL K H1 a xs) ∧ ∀ D, H1 D = none → ∃ W : Nat → Nat → Hp → Prop, (∃ m, W 0 m (L2.upd H1 D (.lst []))) ∧ ∀ i m H, W i m H →
  ((Itl K a).stop i H ∧ Q (.ref D) H) ∨ ((Itl K a).go i H ∧ ∃ Nx : Hp → Prop, (∀ H', Nx H' → ∃ m', m' < m ∧ W (i + 1) m' H') ∧ ∀ x H', (Itl K a).yld i H x H' → gName j x (wipe σ vs) H' fun σ2 H2 => wipe σ2 vs = wipe σ vs ∧ tt σ2 H2 fun b H3 =>
    if b = true then te σ2 H3 fun y H4 => ∃ acc, H4 D = some (.lst acc) ∧ acc.length < sizeLine ∧ Nx (L2.upd H4 D (.lst (acc ++ [y]))) else Nx H3)
theorem w_lcL (h : tl σ H fun x H1 => rLcL K j tt te vs σ x H1 Q) : tLc (iList K tl) (gName j) tt te vs σ H Q := h
theorem lc_list_by (J : Nat → List PyData → Hp → Prop) (lj : LcJ H1 J) (src : Dp K H1 x (.list ds)) (hz : ds.length ≤ 1000000) (hw : ∀ x, wipe ((wipe σ vs).set j (some x)) vs = wipe σ vs)
    (turn : ∀ i d y H' es, ds[i]? = some d → Dp K H' y d → J i es H' → LcTurn K J tt te ((wipe σ vs).set j (some y)) i es H')
    (done : ∀ p H' vs es, H1 p = none → Keep H1 H' → H' p = some (.lst vs) → Dp K H' (.ref p) (.list es) → J ds.length es H' → Q (.ref p) H') : rLcL K j tt te vs σ x H1 Q := by
  obtain ⟨a, xs, rfl, hs, ha⟩ := dp_lst src
  have hl := dpa_len ha
  refine ⟨a, rfl, ⟨xs, hs⟩, fun D hD => lc_list (xs := xs) (LcP K J D) ⟨[], [], upd_same, .nil, rfl, Nat.le_refl _, lj.start D hD⟩ (fun i H' _ p => ?_) (fun i y H' hi p => ⟨hw y, lc_turn lj hD ?_ p fun es q => ?_⟩) fun H' p => ?_⟩
  · obtain ⟨vs, es, p1, p2, p3, p4, p5⟩ := p
    exact (lj.keep _ _ _ p5).seqL hs
  · have := (List.getElem?_eq_some_iff.mp hi).1; omega
  · obtain ⟨d, e1, e2⟩ := dpa_get2 ha hi
    exact turn i d y H' es e1 (dp_keep (lj.keep _ _ _ q) e2) q
  · obtain ⟨vs, es, p1, p2, p3, p4, p5⟩ := p
    rw [hl] at p5
    exact done D H' vs es hD (lj.keep _ _ _ p5) p1 (dp_newL p1 p2) p5
def rLcT (K : PySem.W.Frag) (j : Nat) (tt : TT) (te : TE) (vs : List Nat) (σ : L2.St) (x : V) (H1 : Hp) (Q : VK) : Prop := ∃ a, x = .ref a ∧ (∃ xs, SqT K H1 a xs) ∧ ∀ D, H1 D = none → ∃ W : Nat → Nat → Hp → Prop, (∃ m, W 0 m (L2.upd H1 D (.lst []))) ∧ ∀ i m H, W i m H →
  ((Itt K a).stop i H ∧ Q (.ref D) H) ∨ ((Itt K a).go i H ∧ ∃ Nx : Hp → Prop, (∀ H', Nx H' → ∃ m', m' < m ∧ W (i + 1) m' H') ∧ ∀ x H', (Itt K a).yld i H x H' → gName j x (wipe σ vs) H' fun σ2 H2 => wipe σ2 vs = wipe σ vs ∧ tt σ2 H2 fun b H3 =>
    if b = true then te σ2 H3 fun y H4 => ∃ acc, H4 D = some (.lst acc) ∧ acc.length < sizeLine ∧ Nx (L2.upd H4 D (.lst (acc ++ [y]))) else Nx H3)
theorem w_lcT (h : tl σ H fun x H1 => rLcT K j tt te vs σ x H1 Q) : tLc (iTup K tl) (gName j) tt te vs σ H Q := h
theorem lc_tup_by (J : Nat → List PyData → Hp → Prop) (lj : LcJ H1 J) (src : Dp K H1 x (.tuple ds)) (hz : ds.length ≤ 1000000) (hw : ∀ x, wipe ((wipe σ vs).set j (some x)) vs = wipe σ vs)
    (turn : ∀ i d y H' es, ds[i]? = some d → Dp K H' y d → J i es H' → LcTurn K J tt te ((wipe σ vs).set j (some y)) i es H')
    (done : ∀ p H' vs es, H1 p = none → Keep H1 H' → H' p = some (.lst vs) → Dp K H' (.ref p) (.list es) → J ds.length es H' → Q (.ref p) H') : rLcT K j tt te vs σ x H1 Q := by
  obtain ⟨a, xs, rfl, hs, ha⟩ := dp_tup src
  have hl := dpa_len ha
  refine ⟨a, rfl, ⟨xs, hs⟩, fun D hD => lc_tup (xs := xs) (LcP K J D) ⟨[], [], upd_same, .nil, rfl, Nat.le_refl _, lj.start D hD⟩ (fun i H' _ p => ?_) (fun i y H' hi p => ⟨hw y, lc_turn lj hD ?_ p fun es q => ?_⟩) fun H' p => ?_⟩
  · obtain ⟨vs, es, p1, p2, p3, p4, p5⟩ := p
    exact (lj.keep _ _ _ p5).seqT hs
  · have := (List.getElem?_eq_some_iff.mp hi).1; omega
  · obtain ⟨d, e1, e2⟩ := dpa_get2 ha hi
    exact turn i d y H' es e1 (dp_keep (lj.keep _ _ _ q) e2) q
  · obtain ⟨vs, es, p1, p2, p3, p4, p5⟩ := p
    rw [hl] at p5
    exact done D H' vs es hD (lj.keep _ _ _ p5) p1 (dp_newL p1 p2) p5
def rLcR (j : Nat) (tt : TT) (te : TE) (us : List Nat) (σ : L2.St) (lo : Int) (n : Nat) (H1 : Hp) (Q : VK) : Prop := ∀ D, H1 D = none → ∃ W : Nat → Nat → Hp → Prop, (∃ m, W 0 m (L2.upd H1 D (.lst []))) ∧ ∀ i m H, W i m H →
  ((Itr lo n).stop i H ∧ Q (.ref D) H) ∨ ((Itr lo n).go i H ∧ ∃ Nx : Hp → Prop, (∀ H', Nx H' → ∃ m', m' < m ∧ W (i + 1) m' H') ∧ ∀ x H', (Itr lo n).yld i H x H' → gName j x (wipe σ us) H' fun σ2 H2 => wipe σ2 us = wipe σ us ∧ tt σ2 H2 fun b H3 =>
    if b = true then te σ2 H3 fun y H4 => ∃ acc, H4 D = some (.lst acc) ∧ acc.length < sizeLine ∧ Nx (L2.upd H4 D (.lst (acc ++ [y]))) else Nx H3)
def rLcR1 (j : Nat) (tt : TT) (te : TE) (us : List Nat) (σ : L2.St) (vs : List V) (H1 : Hp) (Q : VK) : Prop := ∃ k : Int, vs = [.int k] ∧ -(2 ^ 62) ≤ k ∧ k < 2 ^ 62 ∧ rLcR j tt te us σ 0 k.toNat H1 Q
def rLcR2 (j : Nat) (tt : TT) (te : TE) (us : List Nat) (σ : L2.St) (vs : List V) (H1 : Hp) (Q : VK) : Prop := ∃ i k : Int, vs = [.int i, .int k] ∧ (-(2 ^ 62) ≤ i ∧ i < 2 ^ 62 ∧ -(2 ^ 62) ≤ k ∧ k < 2 ^ 62) ∧ rLcR j tt te us σ i (k - i).toNat H1 Q
theorem w_lcR1 (h : ta σ H fun ws H1 => rLcR1 j tt te vs σ ws H1 Q) : tLc (iRng1 ta) (gName j) tt te vs σ H Q := h
theorem w_lcR2 (h : ta σ H fun ws H1 => rLcR2 j tt te vs σ ws H1 Q) : tLc (iRng2 ta) (gName j) tt te vs σ H Q := h
theorem lc_rng_by {lo : Int} {n : Nat} (J : Nat → List PyData → Hp → Prop) (lj : LcJ H1 J) (hz : n ≤ 1000000) (hw : ∀ x, wipe ((wipe σ vs).set j (some x)) vs = wipe σ vs)
    (turn : ∀ (i : Nat) H' es, i < n → J i es H' → LcTurn K J tt te ((wipe σ vs).set j (some (.int (lo + (i : Int))))) i es H')
    (done : ∀ p H' vs es, H1 p = none → Keep H1 H' → H' p = some (.lst vs) → Dp K H' (.ref p) (.list es) → J n es H' → Q (.ref p) H') : rLcR j tt te vs σ lo n H1 Q := by
  refine fun D hD => lc_range (lo := lo) (n := n) (LcP K J D) ⟨[], [], upd_same, .nil, rfl, Nat.le_refl _, lj.start D hD⟩ (fun i H' hi p => ⟨hw _, lc_turn lj hD (by omega) p fun es q => turn i H' es hi q⟩) fun H' p => ?_
  obtain ⟨vs, es, p1, p2, p3, p4, p5⟩ := p
  exact done D H' vs es hD (lj.keep _ _ _ p5) p1 (dp_newL p1 p2) p5
theorem lc_rng1_by {k : Int} (J : Nat → List PyData → Hp → Prop) (lj : LcJ H1 J) (hz : 0 ≤ k ∧ k ≤ 1000000) (hw : ∀ x, wipe ((wipe σ vs).set j (some x)) vs = wipe σ vs)
    (turn : ∀ (i : Nat) H' es, (i : Int) < k → J i es H' → LcTurn K J tt te ((wipe σ vs).set j (some (.int (i : Int)))) i es H')
    (done : ∀ p H' vs es, H1 p = none → Keep H1 H' → H' p = some (.lst vs) → Dp K H' (.ref p) (.list es) → J k.toNat es H' → Q (.ref p) H') : rLcR1 j tt te vs σ [.int k] H1 Q := by
  refine ⟨k, rfl, by omega, by omega, lc_rng_by (K := K) J lj (by omega) hw (fun i H' es hi q => ?_) done⟩
  rw [Int.zero_add]
  exact turn i H' es (by omega) q
theorem lc_rng2_by {lo k : Int} (J : Nat → List PyData → Hp → Prop) (lj : LcJ H1 J) (hz : -1000000 ≤ lo ∧ lo ≤ 1000000 ∧ -1000000 ≤ k ∧ k ≤ 1000000 ∧ k - lo ≤ 1000000) (hw : ∀ x, wipe ((wipe σ vs).set j (some x)) vs = wipe σ vs)
    (turn : ∀ (i : Nat) H' es, lo + (i : Int) < k → J i es H' → LcTurn K J tt te ((wipe σ vs).set j (some (.int (lo + (i : Int))))) i es H')
    (done : ∀ p H' vs es, H1 p = none → Keep H1 H' → H' p = some (.lst vs) → Dp K H' (.ref p) (.list es) → J (k - lo).toNat es H' → Q (.ref p) H') : rLcR2 j tt te vs σ [.int lo, .int k] H1 Q :=
  ⟨lo, k, rfl, by omega, lc_rng_by (K := K) J lj (by omega) hw (fun i H' es hi q => turn i H' es (by omega) q) done⟩
theorem w_tYes {Q : Bool → Hp → Prop} (q : Q true H) : tYes σ H Q := q
/-- nothing but new objects: a word about the turns and the data -/
def JP (H1 : Hp) (R : Nat → List PyData → Prop) (i : Nat) (es : List PyData) (H' : Hp) : Prop := Same H1 H' ∧ R i es
theorem JP.ok {R : Nat → List PyData → Prop} (r0 : R 0 []) : LcJ H1 (JP H1 R) where
  start := fun D hD => ⟨same_new hD, r0⟩
  keep := fun _ _ _ h => Keep.of h.1
  upd := fun _ _ _ _ _ _ hD _ h => ⟨same_mut h.1 hD, h.2⟩
/-- .. and draws, at most n a turn -/
def JM (H1 : Hp) (m c : Addr) (b n : Nat) (R : Nat → List PyData → Prop) (i : Nat) (es : List PyData) (H' : Hp) : Prop := Keep H1 H' ∧ Mo H' m c (b + n * i) ∧ R i es
theorem JM.ok {m c : Addr} {b n : Nat} {R : Nat → List PyData → Prop} (hm : Mo H1 m c b) (r0 : R 0 []) : LcJ H1 (JM H1 m c b n R) where
  start := fun D hD => ⟨Keep.of (same_new hD), hm.new hD, r0⟩
  keep := fun _ _ _ h => h.1
  upd := fun _ _ _ _ _ _ hD hx h => ⟨keep_mut h.1 hD, h.2.1.upd hx (hm.ne hD), h.2.2⟩
end
end Tw
namespace Tw
open PySem PySem.Spec PyProof.Rows L2
/-! ### texts as lists of codes -/
def Sg (l : List Nat) : Str := ⟨l.toArray⟩
theorem sg_tl (l : List Nat) : (Sg l).cps.toList = l := by simp [Sg]
theorem sg_len (l : List Nat) : (Sg l).length = l.length := by simp [Sg, Str.length]
theorem sg_app (a b : List Nat) : Sg a ++ Sg b = Sg (a ++ b) := by
  show Str.append (Sg a) (Sg b) = _
  simp [Sg, Str.append]
theorem sg_inj {a b : List Nat} (h : Sg a = Sg b) : a = b := by
  have := congrArg (fun s : Str => s.cps.toList) h
  simpa [Sg] using this
theorem sg_eq {a b : List Nat} : Sg a = Sg b ↔ a = b := ⟨sg_inj, fun h => by rw [h]⟩
theorem sg_one (c : Nat) : (⟨#[c]⟩ : Str) = Sg [c] := rfl
theorem sg_of (s : Str) : ∃ l, s = Sg l := ⟨s.cps.toList, by simp [Sg]⟩
theorem sg_V {a b : List Nat} : (V.str (Sg a) = V.str (Sg b)) ↔ a = b := by
  constructor
  · intro h; exact sg_inj (V.str.inj h)
  · intro h; rw [h]
theorem sg_join (ys : List (List Nat)) : Txt.join (Sg []) (ys.map Sg) = Sg ys.flatten := by
  rw [TL.join_eq]
  induction ys with
  | nil => rfl
  | cons a r ih =>
    cases r with
    | nil => simp [Str.join]
    | cons b r =>
      show Str.append (Str.append (Sg a) (Sg [])) (Str.join (Sg []) (Sg b :: r.map Sg)) = _
      rw [show Sg b :: r.map Sg = (b :: r).map Sg from rfl, ih]
      simp [Sg, Str.append]
theorem sg_empty : Str.ofString "" = Sg [] := by decide +kernel
theorem sg_cut (l : List Nat) (lo hi : Option Int) : (⟨(cutD (Sg l).cps.toList lo hi).toArray⟩ : Str) = Sg (cutD l lo hi) := by simp [Sg]
section
variable {K : PySem.W.Frag} {H : Hp} {Q : VK} {v : V} {lo hi : Option Int}
theorem w_ixSg {l : List Nat} {n : Int} (hz : l.length ≤ 1000000) (h0 : 0 ≤ n) (h1 : n < (l.length : Int)) (q : ∀ c, l[n.toNat]? = some c → Q (.str (Sg [c])) H) : rIxS (.str (Sg l)) (.int n) H Q := by
  have hl : n.toNat < l.length := by omega
  have hs : sizeLine = 16777216 := sizeLine_eq
  exact w_ixS (j := n.toNat) (c := l[n.toNat]) (by rw [sg_len]; omega) (by omega) (by rw [sg_tl]; exact List.getElem?_eq_getElem hl) (q _ (List.getElem?_eq_getElem hl))
theorem w_ixSgLast {l : List Nat} (hz : l.length ≤ 1000000) (h1 : l ≠ []) (q : Q (.str (Sg [l.getLast h1])) H) : rIxS (.str (Sg l)) (.int (-1)) H Q := by
  have hs : sizeLine = 16777216 := sizeLine_eq
  refine ⟨Sg l, -1, l.getLast h1, rfl, rfl, by rw [sg_len]; omega, ?_, q⟩
  rw [sg_tl]
  have e : l = l.dropLast ++ [l.getLast h1] := (List.dropLast_concat_getLast h1).symm
  rw [show atI l (-1) = atI (l.dropLast ++ [l.getLast h1]) (-1) by rw [← e]]
  exact atI_last _ _
theorem w_lenSg {l : List Nat} (h : l.length ≤ 1000000) (q : Q (.int (l.length : Int)) H) : rLen K [.str (Sg l)] H Q := by
  have hs : sizeLine = 16777216 := sizeLine_eq
  refine w_lenS (by rw [sg_len]; omega) ?_
  rw [sg_len]; exact q
theorem w_addSg {a b : List Nat} (h : a.length + b.length ≤ 1000000) (q : Q (.str (Sg (a ++ b))) H) : rAddStr (.str (Sg a)) (.str (Sg b)) H Q := by
  have hs : sizeLine = 16777216 := sizeLine_eq
  refine w_addS (by rw [sg_len, sg_len]; omega) ?_
  rw [sg_app]; exact q
theorem w_slSg {l : List Nat} (h : l.length ≤ 1000000) (q : Q (.str (Sg (cutD l lo hi))) H) : rSlS (.str (Sg l)) lo hi H Q := by
  have hs : sizeLine = 16777216 := sizeLine_eq
  refine w_slS (by rw [sg_len]; omega) ?_
  rw [sg_cut]; exact q
theorem w_eqSg {a b : List Nat} (q1 : a = b → Q (.bl true) H) (q2 : a ≠ b → Q (.bl false) H) : rEq (.str (Sg a)) (.str (Sg b)) H Q := by
  refine ⟨rfl, ?_⟩
  by_cases h : a = b
  · rw [decide_eq_true (sg_V.mpr h)]; exact q1 h
  · rw [decide_eq_false (fun z => h (sg_V.mp z))]; exact q2 h
theorem w_neSg {a b : List Nat} (q1 : a = b → Q (.bl false) H) (q2 : a ≠ b → Q (.bl true) H) : rNe (.str (Sg a)) (.str (Sg b)) H Q := by
  refine ⟨rfl, ?_⟩
  by_cases h : a = b
  · rw [decide_eq_true (sg_V.mpr h)]; exact q1 h
  · rw [decide_eq_false (fun z => h (sg_V.mp z))]; exact q2 h
theorem w_joinSg {ys : List (List Nat)} (h : Dp K H v (.list (ys.map fun y => PyData.str (Sg y)))) (hz : ys.flatten.length ≤ 1000000) (q : Q (.str (Sg ys.flatten)) H) : rJoin K (.str (Sg [])) [v] H Q := by
  refine w_join (ys := ys.map Sg) (by rw [List.map_map]; exact h) ?_ (by rw [sg_join]; exact q)
  rw [List.map_map, sg_len, List.length_nil, Nat.mul_zero, Nat.add_zero]
  have e : (ys.map ((·.length) ∘ Sg)).sum = ys.flatten.length := by
    rw [List.length_flatten]
    congr 1
    first
    | done
    | (apply List.map_congr_left; intro a _; exact sg_len a)
  omega
end
section
variable {K : PySem.W.Frag} {H : Hp} {Q : VK} {v x : V} {ds : List PyData}
theorem cl_isi {X : Cx} {K : PySem.W.Frag} (h : X.K = K := by rfl) : CallR X (.builtin "isinstance") (rIsi K) := h ▸ call_isi
theorem w_isiY {t n : String} (ty : TyX K H x (.type t)) (h : kitB t n = some true) (q : Q (.bl true) H) : rIsi K [x, .ty n] H Q := ⟨x, .ty n, .type t, .type n, true, rfl, .ty n, ty, kit_ty h, q⟩
theorem w_isiN {t n : String} (ty : TyX K H x (.type t)) (h : kitB t n = some false) (q : Q (.bl false) H) : rIsi K [x, .ty n] H Q := ⟨x, .ty n, .type t, .type n, false, rfl, .ty n, ty, kit_ty h, q⟩
theorem ty_tup (h : Dp K H v (.tuple ds)) : TyX K H v (.type "tuple") := by
  obtain ⟨a, xs, rfl, hs, ha⟩ := dp_tup h
  rcases hs with (hs | ⟨o, hs⟩) | ⟨o, its, n, e, c, _⟩
  · exact .base (.tup hs)
  · exact .fTuple hs
  · exact .kTuple e c
theorem ty_lst (h : Dp K H v (.list ds)) : TyX K H v (.type "list") := by
  obtain ⟨a, xs, rfl, hs, ha⟩ := dp_lst h
  rcases hs with (hs | ⟨o, hs⟩) | ⟨o, its, n, e, c, _⟩
  · exact .base (.lst hs)
  · exact .base (.frz hs)
  · exact .kList e c
theorem ty_int {i : Int} : TyX K H (.int i) (.type "int") := .base (.int i)
theorem ty_non : TyX K H .non (.type "NoneType") := .base .non
theorem ty_bl {b : Bool} : TyX K H (.bl b) (.type "bool") := .base (.bl b)
theorem ty_str {s : Str} : TyX K H (.str s) (.type "str") := .base (.str s)
end
end Tw
namespace Tw
open PySem PySem.Spec PyProof.Rows L2
/-! ### ratios in lowest terms -/
def red (p q : Nat) : Nat × Nat := (p / Nat.gcd p q, q / Nat.gcd p q)
theorem red_pos {p q : Nat} (h : 0 < q) : 0 < (red p q).2 := Nat.div_pos (Nat.le_of_dvd h (Nat.gcd_dvd_right p q)) (Nat.gcd_pos_of_pos_right p h)
theorem red_coprime {p q : Nat} (h : 0 < q) : Nat.Coprime (red p q).1 (red p q).2 := Nat.coprime_div_gcd_div_gcd (Nat.gcd_pos_of_pos_right p h)
theorem red_cross {p q : Nat} : (red p q).1 * q = p * (red p q).2 := by
  have h1 := Nat.gcd_dvd_left p q
  have h2 := Nat.gcd_dvd_right p q
  show p / Nat.gcd p q * q = p * (q / Nat.gcd p q)
  rw [← Nat.mul_div_assoc p h2, Nat.div_mul_right_comm h1]
theorem red_unique {a b c d : Nat} (hb : 0 < b) (hd : 0 < d) (h1 : Nat.Coprime a b) (h2 : Nat.Coprime c d) (h : a * d = c * b) : a = c ∧ b = d := by
  have e1 : b ∣ d := h1.symm.dvd_of_dvd_mul_left (by rw [h]; exact Nat.dvd_mul_left b c)
  have e2 : d ∣ b := h2.symm.dvd_of_dvd_mul_left (by rw [← h]; exact Nat.dvd_mul_left d a)
  have e3 := Nat.dvd_antisymm e1 e2
  subst e3
  exact ⟨Nat.eq_of_mul_eq_mul_right hb h, rfl⟩
theorem red_eq {p q p' q' : Nat} (hq : 0 < q) (hq' : 0 < q') (h : p * q' = p' * q) : red p q = red p' q' := by
  have e := red_unique (red_pos (p := p) hq) (red_pos (p := p') hq') (red_coprime hq) (red_coprime hq') (by
    have h1 := red_cross (p := p) (q := q)
    have h2 := red_cross (p := p') (q := q')
    have h3 : (red p q).1 * (red p' q').2 * (q * q') = (red p' q').1 * (red p q).2 * (q * q') := by grind
    exact Nat.eq_of_mul_eq_mul_right (Nat.mul_pos hq hq') h3)
  exact Prod.ext e.1 e.2
theorem red_self {p q : Nat} (h : Nat.Coprime p q) : red p q = (p, q) := by
  unfold red
  rw [show Nat.gcd p q = 1 from h, Nat.div_one, Nat.div_one]
theorem red_of {x : Nat × Nat} {p q : Nat} (hx : Nat.Coprime x.1 x.2) (h0 : 0 < x.2) (hq : 0 < q) (h : x.1 * q = p * x.2) : red p q = x := by
  rw [← red_eq h0 hq h, red_self hx]
theorem red_le {p q : Nat} : (red p q).2 ≤ q := Nat.div_le_self _ _
theorem red_le1 {p q : Nat} : (red p q).1 ≤ p := Nat.div_le_self _ _
theorem red_dvd {p q : Nat} : (red p q).2 ∣ q := Nat.div_dvd_of_dvd (Nat.gcd_dvd_right p q)
theorem red_lt {p q : Nat} (h : p < q) : (red p q).1 < (red p q).2 := Nat.div_lt_div_of_lt_of_dvd (Nat.gcd_dvd_right p q) h
/-! ### places -/
def CN : Nat := 56525307072677432455503587098948920087821904549333509463754043204567040000
theorem CN_pos : 0 < CN := by decide +kernel
theorem CN_lt : CN < 2 ^ 250 := by decide +kernel
theorem CN_dvdAll : ∀ m : Fin 24, ∀ n : Fin 25, 1 ≤ n.val → m.val + n.val ≤ 24 → CN % (2 ^ m.val * (2 ^ n.val - 1)) = 0 := by decide +kernel
theorem CN_dvd {m n : Nat} (hn : 1 ≤ n) (h : m + n ≤ 24) : 2 ^ m * (2 ^ n - 1) ∣ CN := Nat.dvd_of_mod_eq_zero (CN_dvdAll ⟨m, by omega⟩ ⟨n, by omega⟩ hn h)
theorem two_pow_pos (n : Nat) : 0 < 2 ^ n := Nat.pow_pos (by decide)
theorem bot_pos {m n : Nat} (hn : 1 ≤ n) : 0 < 2 ^ m * (2 ^ n - 1) := by
  have h1 : 2 ≤ 2 ^ n := by
    calc 2 = 2 ^ 1 := rfl
      _ ≤ 2 ^ n := Nat.pow_le_pow_right (by decide) hn
  exact Nat.mul_pos (two_pow_pos m) (by omega)
theorem bot_lt {m n : Nat} (h : m + n ≤ 24) : 2 ^ m * (2 ^ n - 1) < 2 ^ 24 := by
  have h0 := two_pow_pos n
  have h1 := two_pow_pos m
  calc 2 ^ m * (2 ^ n - 1) < 2 ^ m * 2 ^ n := Nat.mul_lt_mul_of_pos_left (by omega) h1
    _ = 2 ^ (m + n) := (Nat.pow_add 2 m n).symm
    _ ≤ 2 ^ 24 := Nat.pow_le_pow_right (by decide) h
/-- a place -/
structure Plc (x : Nat × Nat) : Prop where
  lt : x.1 < x.2
  cop : Nat.Coprime x.1 x.2
  bot : ∃ m n, 1 ≤ n ∧ m + n ≤ 24 ∧ x.2 ∣ 2 ^ m * (2 ^ n - 1)
section
variable {x y z a b : Nat × Nat}
theorem Plc.dvd (h : Plc x) : x.2 ∣ CN := by
  obtain ⟨m, n, h1, h2, h3⟩ := h.bot
  exact Nat.dvd_trans h3 (CN_dvd h1 h2)
theorem Plc.pos (h : Plc x) : 0 < x.2 := Nat.lt_of_le_of_lt (Nat.zero_le _) h.lt
theorem Plc.small (h : Plc x) : x.2 < 2 ^ 24 := by
  obtain ⟨m, n, h1, h2, h3⟩ := h.bot
  exact Nat.lt_of_le_of_lt (Nat.le_of_dvd (bot_pos h1) h3) (bot_lt h2)
/-- steps of 1 / CN from zero -/
def sz (x : Nat × Nat) : Nat := x.1 * (CN / x.2)
theorem sz_mul (h : Plc x) : sz x * x.2 = x.1 * CN := by
  unfold sz
  rw [Nat.mul_assoc, Nat.div_mul_cancel h.dvd]
theorem sz_lt (h : Plc x) : sz x < CN := by
  have h1 := sz_mul h
  have h2 : sz x * x.2 < CN * x.2 := by
    rw [h1, Nat.mul_comm CN]
    exact Nat.mul_lt_mul_of_pos_right h.lt CN_pos
  exact Nat.lt_of_mul_lt_mul_right h2
theorem sz_red (h : Plc x) : red (sz x) CN = x := red_of h.cop h.pos CN_pos (sz_mul h).symm
theorem sz_inj (h : Plc x) (h' : Plc y) (e : sz x = sz y) : x = y := by rw [← sz_red h, ← sz_red h', e]
theorem sz_less (h : Plc x) (h' : Plc y) : (x.1 * y.2 < y.1 * x.2 ↔ sz x < sz y) := by
  have h1 := sz_mul h
  have h2 := sz_mul h'
  have p := h.pos
  have p' := h'.pos
  have e1 : x.1 * y.2 * CN = sz x * (x.2 * y.2) := by grind
  have e2 : y.1 * x.2 * CN = sz y * (x.2 * y.2) := by grind
  constructor
  · intro l
    have : x.1 * y.2 * CN < y.1 * x.2 * CN := Nat.mul_lt_mul_of_pos_right l CN_pos
    rw [e1, e2] at this
    exact Nat.lt_of_mul_lt_mul_right this
  · intro l
    have : sz x * (x.2 * y.2) < sz y * (x.2 * y.2) := Nat.mul_lt_mul_of_pos_right l (Nat.mul_pos p p')
    rw [← e1, ← e2] at this
    exact Nat.lt_of_mul_lt_mul_right this
/-- the way up from a to b -/
def wu (a b : Nat × Nat) : Nat := (sz b + (CN - sz a)) % CN
theorem wu_lt : wu a b < CN := Nat.mod_lt _ CN_pos
theorem wu_eq (ha : Plc a) (hb : Plc b) : wu a b = if sz a ≤ sz b then sz b - sz a else sz b + CN - sz a := by
  have h1 := sz_lt ha
  have h2 := sz_lt hb
  unfold wu
  split
  · rw [show sz b + (CN - sz a) = (sz b - sz a) + CN by omega, Nat.add_mod_right, Nat.mod_eq_of_lt (by omega)]
  · rw [Nat.mod_eq_of_lt (by omega)]; omega
theorem wu_int (ha : Plc a) (hb : Plc b) : ((sz b : Int) - sz a) % (CN : Int) = (wu a b : Int) := by
  have h1 := sz_lt ha
  have h2 := sz_lt hb
  rw [wu_eq ha hb]
  split
  · rw [Int.emod_eq_of_lt (by omega) (by omega)]; omega
  · rw [← Int.add_emod_right, Int.emod_eq_of_lt (by omega) (by omega)]; omega
def arcN (a b : Nat × Nat) : Nat × Nat := red (wu a b) CN
/-- the mirrored place -/
def mirN (x : Nat × Nat) : Nat × Nat := (if x.1 = 0 then 0 else x.2 - x.1, x.2)
theorem mir_plc (h : Plc x) : Plc (mirN x) := by
  have h1 := h.lt
  refine ⟨?_, ?_, h.bot⟩
  · show (if x.1 = 0 then 0 else x.2 - x.1) < x.2
    split <;> omega
  · show Nat.Coprime (if x.1 = 0 then 0 else x.2 - x.1) x.2
    have hc := h.cop
    split
    · rename_i e
      rw [e] at hc
      exact hc
    · unfold Nat.Coprime at hc ⊢
      rw [Nat.gcd_comm, Nat.gcd_self_sub_right (Nat.le_of_lt h1), Nat.gcd_comm]
      exact hc
theorem mir_sz (h : Plc x) : sz (mirN x) = if sz x = 0 then 0 else CN - sz x := by
  have h1 := sz_mul h
  have h3 := sz_mul (mir_plc h)
  have hp := h.pos
  have hl := h.lt
  have hs := sz_lt h
  have e2 : (mirN x).2 = x.2 := rfl
  have e1 : (mirN x).1 = if x.1 = 0 then 0 else x.2 - x.1 := rfl
  rw [e2, e1] at h3
  by_cases h0 : x.1 = 0
  · have : sz x = 0 := by unfold sz; rw [h0, Nat.zero_mul]
    rw [if_pos this]
    rw [if_pos h0, Nat.zero_mul] at h3
    rcases Nat.mul_eq_zero.mp h3 with h | h
    · exact h
    · omega
  · have hn : sz x ≠ 0 := by
      intro z
      rw [z, Nat.zero_mul] at h1
      rcases Nat.mul_eq_zero.mp h1.symm with h | h
      · exact h0 h
      · have := CN_pos; omega
    rw [if_neg hn]
    rw [if_neg h0, Nat.sub_mul, ← h1] at h3
    have e : sz (mirN x) * x.2 = (CN - sz x) * x.2 := by rw [h3, Nat.sub_mul, Nat.mul_comm CN]
    exact Nat.eq_of_mul_eq_mul_right hp e
theorem mir_wu (ha : Plc a) (hb : Plc b) : wu (mirN b) (mirN a) = wu a b := by
  have h1 := sz_lt ha
  have h2 := sz_lt hb
  rw [wu_eq (mir_plc hb) (mir_plc ha), wu_eq ha hb, mir_sz ha, mir_sz hb]
  (repeat' split) <;> omega
end
def pd (x : Nat × Nat) : PyData := .tuple [.int x.1, .int x.2]
theorem pd_inj {x y : Nat × Nat} (h : pd x = pd y) : x = y := by
  simp only [pd, PyData.tuple.injEq, List.cons.injEq, PyData.int.injEq, and_true] at h
  exact Prod.ext (by omega) (by omega)
theorem pd_pln {k : Nat} (x : Nat × Nat) : pln (k + 1) (pd x) = true := by
  cases k <;> simp [pd, pln]
theorem pd_noL (x : Nat × Nat) : noL (pd x) = true := rfl
end Tw
namespace Tw
open PySem PySem.Spec PyProof.Rows L2
theorem mir_int {x : Nat × Nat} (h : x.1 < x.2) : (-(x.1 : Int)) % (x.2 : Int) = ((mirN x).1 : Int) := by
  show _ = (((if x.1 = 0 then 0 else x.2 - x.1) : Nat) : Int)
  split
  · rename_i e; rw [e]; simp
  · rw [← Int.add_emod_right, Int.emod_eq_of_lt (by omega) (by omega)]; omega
/-! ### doubling -/
def dblN (x : Nat × Nat) : Nat × Nat := if x.2 % 2 = 0 then (x.1 % (x.2 / 2), x.2 / 2) else (2 * x.1 % x.2, x.2)
theorem odd_of_dvd {b n : Nat} (hn : 1 ≤ n) (h : b ∣ 2 ^ 0 * (2 ^ n - 1)) : b % 2 = 1 := by
  obtain ⟨k, hk⟩ := h
  rw [Nat.pow_zero, Nat.one_mul] at hk
  have h1 : 2 ^ n = 2 * 2 ^ (n - 1) := by rw [← Nat.pow_succ']; congr 1; omega
  have h0 := two_pow_pos (n - 1)
  rcases Nat.mod_two_eq_zero_or_one b with hb | hb
  · have hb2 : b = 2 * (b / 2) := by omega
    rw [hb2, Nat.mul_assoc] at hk
    omega
  · exact hb
theorem dbl_plc {x : Nat × Nat} (h : Plc x) : Plc (dblN x) := by
  obtain ⟨m, n, h1, h2, h3⟩ := h.bot
  have hp := h.pos
  have hl := h.lt
  have hc := h.cop
  unfold dblN
  split
  · rename_i e
    have hx : x.2 = 2 * (x.2 / 2) := by omega
    have hq : 0 < x.2 / 2 := by omega
    have hm : 1 ≤ m := by
      cases m with
      | zero => have := odd_of_dvd h1 h3; omega
      | succ m => omega
    refine ⟨Nat.mod_lt _ hq, ?_, m - 1, n, h1, by omega, ?_⟩
    · show Nat.Coprime (x.1 % (x.2 / 2)) (x.2 / 2)
      have hd : Nat.gcd x.1 (x.2 / 2) ∣ Nat.gcd x.1 x.2 := Nat.dvd_gcd (Nat.gcd_dvd_left _ _) (Nat.dvd_trans (Nat.gcd_dvd_right _ _) ⟨2, by omega⟩)
      rw [show Nat.gcd x.1 x.2 = 1 from hc] at hd
      unfold Nat.Coprime
      rw [← Nat.gcd_rec, Nat.gcd_comm]
      exact Nat.dvd_one.mp hd
    · show x.2 / 2 ∣ _
      have e2 : 2 ^ m = 2 * 2 ^ (m - 1) := by rw [← Nat.pow_succ']; congr 1; omega
      rw [hx, e2, Nat.mul_assoc] at h3
      exact Nat.dvd_of_mul_dvd_mul_left (by decide) h3
  · rename_i e
    refine ⟨Nat.mod_lt _ hp, ?_, m, n, h1, h2, h3⟩
    show Nat.Coprime (2 * x.1 % x.2) x.2
    unfold Nat.Coprime
    rw [← Nat.gcd_rec]
    have h2c : Nat.Coprime x.2 2 := by
      unfold Nat.Coprime
      rw [Nat.gcd_comm, Nat.gcd_rec, show x.2 % 2 = 1 by omega]
      rfl
    exact Nat.Coprime.mul_right h2c hc.symm
/-! ### digits -/
def bv (l : List Nat) : Nat := l.foldl (fun s c => 2 * s + (c - 48)) 0
def Dg (l : List Nat) : Prop := ∀ c ∈ l, c = 48 ∨ c = 49
theorem bv_snoc (l : List Nat) (c : Nat) : bv (l ++ [c]) = 2 * bv l + (c - 48) := by simp [bv, List.foldl_append]
theorem bv_lt : ∀ (l : List Nat), Dg l → bv l < 2 ^ l.length := by
  intro l
  induction hn : l.length generalizing l with
  | zero => intro _; rw [List.length_eq_zero_iff.mp hn]; decide
  | succ n ih =>
    intro h
    have hne : l ≠ [] := fun z => by rw [z] at hn; simp at hn
    have hl : l.dropLast.length = n := by rw [List.length_dropLast]; omega
    have h1 := ih l.dropLast hl (fun c hc => h c (List.dropLast_subset l hc))
    have h2 := h (l.getLast hne) (List.getLast_mem hne)
    rw [← List.dropLast_concat_getLast hne, bv_snoc, Nat.pow_succ]
    omega
def botN (h c : List Nat) : Nat := 2 ^ h.length * (2 ^ c.length - 1)
def binN (h c : List Nat) : Nat × Nat := red ((bv h * (2 ^ c.length - 1) + bv c) % botN h c) (botN h c)
theorem botN_pos {h c : List Nat} (hc : c ≠ []) : 0 < botN h c := bot_pos (List.length_pos_iff.mpr hc)
theorem bin_plc {h c : List Nat} (hc : c ≠ []) (hl : h.length + c.length ≤ 24) : Plc (binN h c) :=
  ⟨red_lt (Nat.mod_lt _ (botN_pos hc)), red_coprime (botN_pos hc), h.length, c.length, List.length_pos_iff.mpr hc, hl, red_dvd⟩
/-! ### what readings ask -/
section
variable {K : PySem.W.Frag} {σ : L2.St} {H : Hp} {Q : VK} {v y : V} {x : Nat × Nat} {p q : Nat}
theorem w_gcdN (h : Q (.int ((Nat.gcd p q : Nat) : Int)) H) : rGcd [.int (p : Int), .int (q : Int)] H Q := ⟨p, q, rfl, by simpa using h⟩
theorem w_ix0 (h : Dp K H v (pd x)) (q : Q (.int (x.1 : Int)) H) : rIxT K v (.int 0) H Q := w_ixT (j := 0) h rfl rfl fun v' hv => by cases hv; exact q
theorem w_ix1 (h : Dp K H v (pd x)) (q : Q (.int (x.2 : Int)) H) : rIxT K v (.int 1) H Q := w_ixT (j := 1) h rfl rfl fun v' hv => by cases hv; exact q
theorem w_gTupP {i j : Nat} {Q : L2.St → Hp → Prop} (h : Dp K H v (pd x)) (q : Q ((σ.set i (some (.int (x.1 : Int)))).set j (some (.int (x.2 : Int)))) H) : gTup K 2 (gCons (gName i) (gCons (gName j) gNil)) v σ H Q :=
  w_gTup2 h fun v1 v2 h1 h2 => by cases h1; cases h2; exact q
def rAbs : List V → Hp → VK → Prop := fun xs H Q => ∃ i, xs = [.int i] ∧ Q (.int (if i < 0 then -i else i)) H
theorem cl_abs {X : Cx} : CallR X (.builtin "abs") rAbs := call_abs
theorem w_absN (h : Q (.int (p : Int)) H) : rAbs [.int (p : Int)] H Q := ⟨p, rfl, by rw [if_neg (by omega)]; exact h⟩
theorem w_absI {i : Int} (h : Q (.int (i.natAbs : Int)) H) : rAbs [.int i] H Q := ⟨i, rfl, by
  rw [show (if i < 0 then -i else i) = (i.natAbs : Int) by split <;> omega]; exact h⟩
def rIntS : List V → Hp → VK → Prop := fun xs H Q => ∃ a n, xs = [.str a] ∧ PySem.intText? a = some n ∧ a.length ≤ 640 ∧ Q (.int n) H
theorem cl_intS {X : Cx} : CallR X (.type "int") rIntS := call_int_str
theorem int_0 : PySem.intText? (Sg [48]) = some 0 := by decide +kernel
theorem int_1 : PySem.intText? (Sg [49]) = some 1 := by decide +kernel
theorem w_intS {c : Nat} (hc : c = 48 ∨ c = 49) (h : Q (.int ((c - 48 : Nat) : Int)) H) : rIntS [.str (Sg [c])] H Q := by
  rcases hc with rfl | rfl
  · exact ⟨Sg [48], 0, rfl, int_0, by decide, h⟩
  · exact ⟨Sg [49], 1, rfl, int_1, by decide, h⟩
theorem op_inDK {X : Cx} {K : PySem.W.Frag} (hu : X.A.units + 65 < cLine) (h : X.K = K := by rfl) : OpR X (compareOp .In) (rInD K) := h ▸ op_inD hu
theorem op_notInDK {X : Cx} {K : PySem.W.Frag} (hu : X.A.units + 65 < cLine) (h : X.K = K := by rfl) : OpR X (compareOp .NotIn) (rNotInD K) := h ▸ op_notInD hu
theorem any_eqv {d : PyData} {ds : List PyData} (hd : pln 8 d = true) (hs : ∀ z ∈ ds, pln 8 z = true) : (ds.any fun z => PyData.eqv z d) = true ↔ d ∈ ds := by
  rw [List.any_eq_true]
  constructor
  · rintro ⟨z, hz, e⟩
    rw [(pln_eqv 8 8 z d (hs z hz) hd).mp e] at hz
    exact hz
  · intro h
    exact ⟨d, h, (pln_eqv 8 8 d d hd hd).mpr rfl⟩
theorem pln_list {k : Nat} {ds : List PyData} (h : ∀ z ∈ ds, pln k z = true) : pln (k + 1) (.list ds) = true := by simpa [pln] using h
theorem pln_tuple {k : Nat} {ds : List PyData} (h : ∀ z ∈ ds, pln k z = true) : pln (k + 1) (.tuple ds) = true := by simpa [pln] using h
theorem w_inP {d : PyData} {ds : List PyData} (h1 : Dp K H v d) (h2 : Dp K H y (.list ds)) (p1 : pln 8 d = true) (p2 : ∀ z ∈ ds, pln 8 z = true) (q1 : d ∈ ds → Q (.bl true) H) (q2 : d ∉ ds → Q (.bl false) H) : rInD K v y H Q := by
  refine ⟨d, ds, h1, h2, pln_shaped p1 (by decide), pln_shaped (pln_list p2) (by decide), ?_⟩
  have r := any_eqv p1 p2
  cases he : (ds.any fun z => PyData.eqv z d) with
  | true => exact q1 (r.mp he)
  | false => exact q2 (fun z => by rw [r.mpr z] at he; cases he)
theorem w_notInP {d : PyData} {ds : List PyData} (h1 : Dp K H v d) (h2 : Dp K H y (.list ds)) (p1 : pln 8 d = true) (p2 : ∀ z ∈ ds, pln 8 z = true) (q1 : d ∈ ds → Q (.bl false) H) (q2 : d ∉ ds → Q (.bl true) H) : rNotInD K v y H Q := by
  refine ⟨d, ds, h1, h2, pln_shaped p1 (by decide), pln_shaped (pln_list p2) (by decide), ?_⟩
  have r := any_eqv p1 p2
  cases he : (ds.any fun z => PyData.eqv z d) with
  | true => exact q1 (r.mp he)
  | false => exact q2 (fun z => by rw [r.mpr z] at he; cases he)
theorem Room65 {k : Nat} {A : Around} (r : Room k A) : A.units + 65 < cLine := by have := r.un; omega
end
/-! ### Euclid's steps -/
structure Eu (a b : Nat) (i a' b' : Nat) : Prop where
  g : Nat.gcd a' b' = Nat.gcd a b
  s : i = 0 → b' = b
  l : 1 ≤ i → b' < a' ∧ a' * b' * 2 ^ (i - 1) < 2 ^ 380 ∨ b' = 0
theorem Eu.start (a b : Nat) : Eu a b 0 a b := ⟨rfl, fun _ => rfl, fun h => by omega⟩
theorem Eu.step {a b i a' b' : Nat} (hb : b < 2 ^ 190) (h : Eu a b i a' b') (h0 : b' ≠ 0) : Eu a b (i + 1) b' (a' % b') := by
  have hlt : a' % b' < b' := Nat.mod_lt _ (by omega)
  refine ⟨?_, fun z => by omega, fun _ => ?_⟩
  · rw [← h.g, Nat.gcd_comm b', ← Nat.gcd_rec, Nat.gcd_comm]
  · left
    refine ⟨hlt, ?_⟩
    rw [Nat.add_sub_cancel]
    by_cases hi : i = 0
    · subst hi
      have e := h.s rfl
      subst e
      rw [Nat.pow_zero, Nat.mul_one]
      calc b' * (a' % b') ≤ b' * b' := Nat.mul_le_mul_left _ (Nat.le_of_lt hlt)
        _ < 2 ^ 190 * 2 ^ 190 := Nat.mul_lt_mul'' hb hb
        _ = 2 ^ 380 := by rw [← Nat.pow_add]
    · rcases h.l (by omega) with ⟨h1, h2⟩ | h1
      · have h3 : 2 * (a' % b') ≤ a' := by
          have := Nat.div_add_mod a' b'
          have : 1 ≤ a' / b' := Nat.div_pos (by omega) (by omega)
          have : b' * 1 ≤ b' * (a' / b') := Nat.mul_le_mul_left _ this
          omega
        have e : 2 ^ i = 2 * 2 ^ (i - 1) := by rw [← Nat.pow_succ']; congr 1; omega
        calc b' * (a' % b') * 2 ^ i = b' * (2 * (a' % b')) * 2 ^ (i - 1) := by rw [e]; grind
          _ ≤ b' * a' * 2 ^ (i - 1) := Nat.mul_le_mul_right _ (Nat.mul_le_mul_left _ h3)
          _ = a' * b' * 2 ^ (i - 1) := by rw [Nat.mul_comm b']
          _ < 2 ^ 380 := h2
      · exact absurd h1 h0
theorem Eu.done {a b i a' b' : Nat} (h : Eu a b i a' b') (hi : 382 ≤ i) : a' = Nat.gcd a b := by
  have : b' = 0 := by
    rcases h.l (by omega) with ⟨h1, h2⟩ | h1
    · by_cases hb : b' = 0
      · exact hb
      · exfalso
        have h3 : 1 ≤ a' * b' := Nat.mul_pos (by omega) (by omega)
        have h4 : 2 ^ 380 ≤ 2 ^ (i - 1) := Nat.pow_le_pow_right (by decide) (by omega)
        have h5 : 1 * 2 ^ (i - 1) ≤ a' * b' * 2 ^ (i - 1) := Nat.mul_le_mul_right _ h3
        omega
    · exact h1
  rw [← h.g, this, Nat.gcd_zero_right]
theorem Eu.zero {a b i a' : Nat} (h : Eu a b i a' 0) : a' = Nat.gcd a b := by rw [← h.g, Nat.gcd_zero_right]
end Tw
namespace Tw
open PySem PySem.Spec PyProof.Rows L2
/-- x lies between a and b, going up from a (by the law's own look) -/
def btw (a x b : Nat × Nat) : Prop := if sz a < sz b then sz a < sz x ∧ sz x < sz b else sz a < sz x ∨ sz x < sz b
instance {a x b : Nat × Nat} : Decidable (btw a x b) := by unfold btw; infer_instance
theorem btw_wu {a x b : Nat × Nat} (ha : Plc a) (hx : Plc x) (hb : Plc b) (h1 : x ≠ a) (h2 : x ≠ b) (h3 : a ≠ b) : btw a x b ↔ (0 < wu a x ∧ wu a x < wu a b) := by
  have s1 := sz_lt ha
  have s2 := sz_lt hx
  have s3 := sz_lt hb
  have n1 : sz x ≠ sz a := fun z => h1 (sz_inj hx ha z)
  have n2 : sz x ≠ sz b := fun z => h2 (sz_inj hx hb z)
  have n3 : sz a ≠ sz b := fun z => h3 (sz_inj ha hb z)
  rw [wu_eq ha hx, wu_eq ha hb]
  unfold btw
  (repeat' split) <;> omega
theorem wu_self {a : Nat × Nat} (ha : Plc a) : wu a a = 0 := by rw [wu_eq ha ha]; simp
theorem arc_top {a b : Nat × Nat} (ha : Plc a) (hb : Plc b) : ∃ n : Nat, (if 0 ≤ (b.1 : Int) * a.2 - (a.1 : Int) * b.2 then (b.1 : Int) * a.2 - (a.1 : Int) * b.2 else (b.1 : Int) * a.2 - (a.1 : Int) * b.2 + (a.2 : Int) * b.2) = (n : Int) ∧ n * CN = wu a b * (a.2 * b.2) := by
  have e1 := sz_mul ha
  have e2 := sz_mul hb
  have p1 := ha.lt
  have p2 := hb.lt
  have hl : (a.1 * b.2 ≤ b.1 * a.2 ↔ sz a ≤ sz b) := by
    have := sz_less hb ha
    omega
  have u1 : b.1 * a.2 * CN = sz b * (a.2 * b.2) := by grind
  have u2 : a.1 * b.2 * CN = sz a * (a.2 * b.2) := by grind
  have hab : a.1 * b.2 ≤ a.2 * b.2 := Nat.mul_le_mul_right _ (Nat.le_of_lt p1)
  have c1 : (b.1 : Int) * a.2 = ((b.1 * a.2 : Nat) : Int) := rfl
  have c2 : (a.1 : Int) * b.2 = ((a.1 * b.2 : Nat) : Int) := rfl
  have c3 : (a.2 : Int) * b.2 = ((a.2 * b.2 : Nat) : Int) := rfl
  rw [c1, c2, c3, wu_eq ha hb]
  have s1 := sz_lt ha
  by_cases h : sz a ≤ sz b
  · have h' := hl.mpr h
    refine ⟨b.1 * a.2 - a.1 * b.2, by rw [if_pos (by omega)]; omega, ?_⟩
    rw [if_pos h, Nat.sub_mul, Nat.sub_mul, u1, u2]
  · have h' : ¬ a.1 * b.2 ≤ b.1 * a.2 := fun z => h (hl.mp z)
    refine ⟨b.1 * a.2 + a.2 * b.2 - a.1 * b.2, by rw [if_neg (by omega)]; omega, ?_⟩
    rw [if_neg h, Nat.sub_mul, Nat.add_mul, u1, u2, Nat.sub_mul, Nat.add_mul, Nat.mul_comm CN]
/-- sums of arcs -/
theorem red_add {n k : Nat} {x y : Nat × Nat} (hx : x = red n CN) (hy : y = red k CN) : red (x.1 * y.2 + y.1 * x.2) (x.2 * y.2) = red (n + k) CN := by
  have h1 := red_cross (p := n) (q := CN)
  have h2 := red_cross (p := k) (q := CN)
  have p1 := red_pos (p := n) CN_pos
  have p2 := red_pos (p := k) CN_pos
  rw [← hx] at h1 p1
  rw [← hy] at h2 p2
  refine red_eq (Nat.mul_pos p1 p2) CN_pos ?_
  grind
theorem red_one : red CN CN = (1, 1) := by
  unfold red; rw [Nat.gcd_self, Nat.div_self CN_pos]
theorem red_two : red (2 * CN) CN = (2, 1) := by
  unfold red
  rw [Nat.gcd_comm, Nat.gcd_mul_left_right, Nat.div_self CN_pos, Nat.mul_div_cancel _ CN_pos]
theorem red_ne {n k : Nat} (h : red n CN = red k CN) : n = k := by
  have h1 := red_cross (p := n) (q := CN)
  have h2 := red_cross (p := k) (q := CN)
  have p1 := red_pos (p := n) CN_pos
  rw [h] at h1
  rw [h] at p1
  have := h1.symm.trans h2
  exact Nat.eq_of_mul_eq_mul_right p1 this
theorem arc_bd {a b : Nat × Nat} (ha : Plc a) (hb : Plc b) : 0 < (arcN a b).2 ∧ (arcN a b).2 < 2 ^ 48 ∧ (arcN a b).1 < 2 ^ 48 := by
  have p1 := ha.small
  have p3 := hb.small
  have hd : a.2 * b.2 < 2 ^ 48 := by
    calc a.2 * b.2 < 2 ^ 24 * 2 ^ 24 := Nat.mul_lt_mul'' p1 p3
      _ = 2 ^ 48 := by rw [← Nat.pow_add]
  have hpos : 0 < a.2 * b.2 := Nat.mul_pos ha.pos hb.pos
  obtain ⟨n, _, hn⟩ := arc_top ha hb
  have e : arcN a b = red n (a.2 * b.2) := (red_eq hpos CN_pos hn).symm
  have h1 := red_le (p := n) (q := a.2 * b.2)
  have h2 := red_pos (p := n) hpos
  have h3 : (arcN a b).1 < (arcN a b).2 := red_lt wu_lt
  rw [← e] at h1 h2
  omega
theorem wu_back {a b : Nat × Nat} (ha : Plc a) (hb : Plc b) (h : a ≠ b) : wu a b + wu b a = CN := by
  have s1 := sz_lt ha
  have s3 := sz_lt hb
  have n3 : sz a ≠ sz b := fun z => h (sz_inj ha hb z)
  rw [wu_eq ha hb, wu_eq hb ha]
  (repeat' split) <;> omega
theorem arc_mir {a b : Nat × Nat} (ha : Plc a) (hb : Plc b) : arcN (mirN b) (mirN a) = arcN a b := by unfold arcN; rw [mir_wu ha hb]
theorem sum_bd {a x b : Nat × Nat} (ha : Plc a) (hx : Plc x) (hb : Plc b) :
    0 < (red ((arcN a x).1 * (arcN x b).2 + (arcN x b).1 * (arcN a x).2) ((arcN a x).2 * (arcN x b).2)).2 ∧ (red ((arcN a x).1 * (arcN x b).2 + (arcN x b).1 * (arcN a x).2) ((arcN a x).2 * (arcN x b).2)).2 < 2 ^ 96 ∧
    (red ((arcN a x).1 * (arcN x b).2 + (arcN x b).1 * (arcN a x).2) ((arcN a x).2 * (arcN x b).2)).1 < 2 ^ 97 := by
  have b1 := arc_bd ha hx
  have b2 := arc_bd hx hb
  have hq : (arcN a x).2 * (arcN x b).2 < 2 ^ 96 := by
    calc (arcN a x).2 * (arcN x b).2 < 2 ^ 48 * 2 ^ 48 := Nat.mul_lt_mul'' b1.2.1 b2.2.1
      _ = 2 ^ 96 := by rw [← Nat.pow_add]
  have h1 : (arcN a x).1 * (arcN x b).2 < 2 ^ 96 := by
    calc (arcN a x).1 * (arcN x b).2 < 2 ^ 48 * 2 ^ 48 := Nat.mul_lt_mul'' b1.2.2 b2.2.1
      _ = 2 ^ 96 := by rw [← Nat.pow_add]
  have h2 : (arcN x b).1 * (arcN a x).2 < 2 ^ 96 := by
    calc (arcN x b).1 * (arcN a x).2 < 2 ^ 48 * 2 ^ 48 := Nat.mul_lt_mul'' b2.2.2 b1.2.1
      _ = 2 ^ 96 := by rw [← Nat.pow_add]
  exact ⟨red_pos (Nat.mul_pos b1.1 b2.1), Nat.lt_of_le_of_lt red_le hq, Nat.lt_of_le_of_lt red_le1 (by omega)⟩
end Tw
namespace Tw
open PySem PySem.Spec PyProof.Rows L2
/-! ### a text's first occurrence from a place on -/
section
open PySem.StrLaws PySem.Builtin PySem.Builtin.Str
theorem occ_full (s sub : Str) (hi : Nat) : ∀ (l : List Nat) (st : Array Nat × Nat), st.fst.size = 1 → (forIn l st (occBody s sub hi 1)).run.fst = st.fst
  | [], st, h => rfl
  | a :: l, st, h => by
    rw [List.forIn_cons]
    unfold occBody
    rw [if_neg (fun z => by have := z.1.1.1; omega)]
    exact occ_full s sub hi l _ h
theorem occ_first (s sub : Str) (hi p : Nat) : ∀ (l1 l2 : List Nat) (free : Nat), (∀ i ∈ l1, ¬ (i + sub.length ≤ hi ∧ subAt s sub i = true)) → free ≤ p → p + sub.length ≤ hi → subAt s sub p = true →
    (forIn (l1 ++ p :: l2) ((#[] : Array Nat), free) (occBody s sub hi 1)).run.fst = #[p]
  | [], l2, free, _, hf, h1, h2 => by
    rw [List.nil_append, List.forIn_cons]
    unfold occBody
    rw [if_pos ⟨⟨⟨by simp, hf⟩, h1⟩, h2⟩]
    exact occ_full s sub hi l2 _ (by simp)
  | a :: l1, l2, free, h, hf, h1, h2 => by
    rw [List.cons_append, List.forIn_cons]
    unfold occBody
    rw [if_neg (fun z => h a List.mem_cons_self ⟨z.1.2, z.2⟩)]
    exact occ_first s sub hi p l1 l2 free (fun i hi' => h i (List.mem_cons_of_mem _ hi')) hf h1 h2
theorem find3_first {x y : Str} {p : Nat} (hp : 1 ≤ p) (h1 : p + y.length ≤ x.length) (h2 : subAt x y p = true) (h3 : ∀ i, 1 ≤ i → i < p → subAt x y i = false) : Txt.find3 x y 1 = (p : Int) := by
  have e : occurrences x y (fromIndex x.length 1) x.length 1 = [p] := by
    rw [show fromIndex x.length 1 = 1 from rfl, occ_eq]
    have es : List.range' 1 (x.length + 1 - 1) = List.range' 1 (p - 1) ++ p :: List.range' (p + 1) (x.length - p) := by
      rw [show x.length + 1 - 1 = (p - 1) + (x.length - p + 1) by omega, ← List.range'_append_1, show 1 + (p - 1) = p by omega]
      rfl
    rw [es, occ_first x y x.length p _ _ 1 (fun i hi hc => ?_) hp h1 h2]
    obtain ⟨i1, i2⟩ := List.mem_range'_1.mp hi
    rw [h3 i i1 (by omega)] at hc
    exact absurd hc.2 Bool.false_ne_true
  unfold Txt.find3
  rw [e]
end
/-! ### endless rows -/
def cz (c : List Nat) (z : Int) : Nat := c.getD (z % (c.length : Int)).toNat 0
def rz (h c : List Nat) (k : Int) : Nat := if k < h.length then h.getD k.toNat 0 else cz c (k - h.length)
def Per (c : List Nat) (p : Int) : Prop := ∀ z, cz c (z + p) = cz c z
theorem per_len (c : List Nat) : Per c c.length := fun z => by unfold cz; rw [Int.add_emod_right]
theorem Per.add {c : List Nat} {p q : Int} (a : Per c p) (b : Per c q) : Per c (p + q) := fun z => by rw [← Int.add_assoc, b, a]
theorem Per.neg {c : List Nat} {p : Int} (a : Per c p) : Per c (-p) := fun z => by
  have := a (z + -p)
  rw [show z + -p + p = z by omega] at this
  exact this.symm
theorem Per.mul {c : List Nat} {p : Int} (a : Per c p) : ∀ n : Nat, Per c (p * n)
  | 0 => fun z => by simp
  | n + 1 => by
    have := (Per.mul a n).add a
    rw [show p * ((n + 1 : Nat) : Int) = p * n + p by rw [Int.natCast_add, Int.mul_add]; simp]
    exact this
theorem Per.mulz {c : List Nat} {p : Int} (a : Per c p) (k : Int) : Per c (p * k) := by
  rcases Int.natAbs_eq k with e | e
  · rw [e]; exact a.mul _
  · rw [e, Int.mul_neg]; exact (a.mul _).neg
theorem Per.emod {c : List Nat} {p q : Int} (a : Per c p) (b : Per c q) : Per c (q % p) := by
  rw [Int.emod_def]
  have := b.add (a.mulz (q / p)).neg
  rw [← Int.sub_eq_add_neg] at this
  exact this
/-- the least period -/
def MinP (c : List Nat) (p : Nat) : Prop := 0 < p ∧ Per c p ∧ ∀ q : Nat, 0 < q → q < p → ¬ Per c q
theorem MinP.dvd {c : List Nat} {p n : Nat} (h : MinP c p) (hn : Per c n) : p ∣ n := by
  have h1 := h.2.1.emod hn
  by_cases h0 : n % p = 0
  · exact Nat.dvd_of_mod_eq_zero h0
  · refine absurd ?_ (h.2.2 (n % p) (by omega) (Nat.mod_lt _ h.1))
    rw [Int.natCast_emod]
    exact h1
theorem minP_exists (c : List Nat) (hc : c ≠ []) : ∃ p, MinP c p := by
  have hl : 0 < c.length := List.length_pos_iff.mpr hc
  have key : ∀ n : Nat, ∀ q : Nat, q ≤ n → 0 < q → Per c q → ∃ p, MinP c p := by
    intro n
    induction n with
    | zero => intro q h1 h2; omega
    | succ n ih =>
      intro q h1 h2 h3
      by_cases hm : ∃ r : Nat, 0 < r ∧ r < q ∧ Per c r
      · obtain ⟨r, r1, r2, r3⟩ := hm
        exact ih r (by omega) r1 r3
      · exact ⟨q, h2, h3, fun r r1 r2 r3 => hm ⟨r, r1, r2, r3⟩⟩
  exact key c.length c.length (Nat.le_refl _) hl (per_len c)
theorem cz_nat {c : List Nat} {i : Nat} (h : i < c.length) : cz c i = c[i] := by
  unfold cz
  rw [Int.emod_eq_of_lt (by omega) (by omega), Int.toNat_natCast, List.getD_eq_getElem?_getD, List.getElem?_eq_getElem h]
  rfl
theorem cz_last {c : List Nat} (h : c ≠ []) : cz c (-1) = c.getLast h := by
  have hl : 0 < c.length := List.length_pos_iff.mpr h
  have := per_len c (-1)
  rw [← this, show (-1 : Int) + c.length = ((c.length - 1 : Nat) : Int) by omega, cz_nat (by omega), List.getLast_eq_getElem]
theorem cz_ext {c d : List Nat} (hl : c.length = d.length) (h : ∀ i : Nat, i < c.length → cz c i = cz d i) : c = d := by
  refine List.ext_getElem hl fun i h1 h2 => ?_
  have := h i h1
  rw [cz_nat h1, cz_nat h2] at this
  exact this
/-- a row in its least form -/
structure LF (h c : List Nat) : Prop where
  ne : c ≠ []
  min : MinP c c.length
  last : ∀ e : h ≠ [], h.getLast e ≠ cz c (-1)
theorem rz_lt {h c : List Nat} {i : Nat} (hi : i < h.length) : rz h c i = h[i] := by
  unfold rz
  rw [if_pos (by omega), Int.toNat_natCast, List.getD_eq_getElem?_getD, List.getElem?_eq_getElem hi]
  rfl
theorem rz_ge {h c : List Nat} {k : Int} (hk : (h.length : Int) ≤ k) : rz h c k = cz c (k - h.length) := by
  unfold rz
  rw [if_neg (by omega)]
/-- two sequences that repeat and agree from a place on agree -/
theorem agree {c d : List Nat} (hc : c ≠ []) (hd : d ≠ []) {s : Int} (h : ∀ z : Int, 0 ≤ z → cz c (z + s) = cz d z) (z : Int) : cz c (z + s) = cz d z := by
  have lc : 0 < c.length := List.length_pos_iff.mpr hc
  have ld : 0 < d.length := List.length_pos_iff.mpr hd
  have p1 := (per_len c).mul (d.length * z.natAbs) (z + s)
  have p2 := (per_len d).mul (c.length * z.natAbs) z
  have e : (c.length : Int) * ((d.length * z.natAbs : Nat) : Int) = (d.length : Int) * ((c.length * z.natAbs : Nat) : Int) := by
    rw [Int.natCast_mul, Int.natCast_mul, ← Int.mul_assoc, ← Int.mul_assoc, Int.mul_comm (c.length : Int)]
  have hz : (z.natAbs : Int) ≤ (d.length : Int) * ((c.length * z.natAbs : Nat) : Int) := by
    have : 1 * z.natAbs ≤ (d.length * c.length) * z.natAbs := Nat.mul_le_mul_right _ (Nat.mul_pos ld lc)
    rw [Nat.one_mul, Nat.mul_assoc] at this
    exact_mod_cast this
  rw [← p1, ← p2, e, ← h _ (by omega)]
  congr 1
  omega
theorem LF.unique_le {h c h' c' : List Nat} (a : LF h c) (b : LF h' c') (hle : h.length ≤ h'.length) (e : ∀ k : Nat, rz h c k = rz h' c' k) : h = h' ∧ c = c' := by
  have ag := agree (s := (h'.length : Int) - h.length) a.ne b.ne (fun z hz => by
    have := e (z + h'.length).toNat
    rw [rz_ge (by omega), rz_ge (by omega)] at this
    rw [show (((z + (h'.length : Int)).toNat : Nat) : Int) = z + h'.length by omega] at this
    rw [show z + (h'.length : Int) - h'.length = z by omega] at this
    rw [← this]
    congr 1
    omega)
  have per_iff : ∀ p : Int, Per c p ↔ Per c' p := by
    intro p
    constructor
    · intro hp z
      rw [← ag, ← ag, show z + p + ((h'.length : Int) - h.length) = (z + ((h'.length : Int) - h.length)) + p by omega, hp]
    · intro hp z
      have h1 := ag (z + p - ((h'.length : Int) - h.length))
      have h2 := ag (z - ((h'.length : Int) - h.length))
      rw [show z + p - ((h'.length : Int) - h.length) + ((h'.length : Int) - h.length) = z + p by omega] at h1
      rw [show z - ((h'.length : Int) - h.length) + ((h'.length : Int) - h.length) = z by omega] at h2
      rw [h1, h2, show z + p - ((h'.length : Int) - h.length) = (z - ((h'.length : Int) - h.length)) + p by omega, hp]
  have hlen : c.length = c'.length := by
    have d1 := a.min.dvd ((per_iff _).mpr (per_len c'))
    have d2 := b.min.dvd ((per_iff _).mp (per_len c))
    exact Nat.dvd_antisymm d1 d2
  have hh : h.length = h'.length := by
    by_cases z : h.length = h'.length
    · exact z
    · exfalso
      have hne : h' ≠ [] := fun q => by rw [q] at hle z; simp at hle; simp [hle] at z
      have l := b.last hne
      apply l
      have hp : 0 < h'.length := List.length_pos_iff.mpr hne
      have := e (h'.length - 1)
      rw [rz_lt (show h'.length - 1 < h'.length by omega), rz_ge (by omega)] at this
      rw [List.getLast_eq_getElem, ← this, ← ag]
      congr 1
      omega
  refine ⟨List.ext_getElem hh fun i h1 h2 => ?_, cz_ext hlen fun i _ => ?_⟩
  · have := e i
    rw [rz_lt h1, rz_lt h2] at this
    exact this
  · have := ag i
    rw [show (i : Int) + ((h'.length : Int) - h.length) = i by omega] at this
    exact this
theorem LF.unique {h c h' c' : List Nat} (a : LF h c) (b : LF h' c') (e : ∀ k : Nat, rz h c k = rz h' c' k) : h = h' ∧ c = c' := by
  rcases Nat.le_total h.length h'.length with l | l
  · exact a.unique_le b l e
  · obtain ⟨x, y⟩ := b.unique_le a l fun k => (e k).symm
    exact ⟨x.symm, y.symm⟩
/-- rows that agree long enough agree for ever -/
theorem rz_agree {h c h' c' : List Nat} {N : Nat} (hc : c ≠ []) (hc' : c' ≠ []) (h1 : h.length ≤ N) (h2 : h'.length ≤ N) (e : ∀ k : Nat, k < N + c.length + c'.length → rz h c k = rz h' c' k) : ∀ k : Nat, rz h c k = rz h' c' k := by
  have l1 : 0 < c.length := List.length_pos_iff.mpr hc
  have l2 : 0 < c'.length := List.length_pos_iff.mpr hc'
  have s1 : ∀ k : Nat, N + c.length ≤ k → rz h c k = rz h c (k - c.length : Nat) := fun k hk => by
    rw [rz_ge (by omega), rz_ge (by omega), ← per_len c (((k - c.length : Nat) : Int) - h.length)]
    congr 1; omega
  have s2 : ∀ k : Nat, N + c'.length ≤ k → rz h' c' k = rz h' c' (k - c'.length : Nat) := fun k hk => by
    rw [rz_ge (by omega), rz_ge (by omega), ← per_len c' (((k - c'.length : Nat) : Int) - h'.length)]
    congr 1; omega
  have all : ∀ n : Nat, ∀ k : Nat, k < n → rz h c k = rz h' c' k := by
    intro n
    induction n with
    | zero => intro k hk; omega
    | succ n ih =>
      intro k hk
      by_cases hs : k < N + c.length + c'.length
      · exact e k hs
      · rw [s1 k (by omega), ih (k - c.length) (by omega), s2 (k - c.length) (by omega), ← ih (k - c.length - c'.length) (by omega), s2 k (by omega), ← ih (k - c'.length) (by omega), s1 (k - c'.length) (by omega)]
        congr 1; omega
  intro k
  exact all (k + 1) k (by omega)
end Tw
namespace Tw
open PySem PySem.Spec PyProof.Rows L2
/-- a text written n times -/
def rMulS : R2 := fun x y H Q => ∃ (l : List Nat) (n : Int), x = .str (Sg l) ∧ y = .int n ∧ 0 ≤ n ∧ n ≤ 1000 ∧ l.length ≤ 1000 ∧ Q (.str (Sg (List.replicate n.toNat l).flatten)) H
theorem rep_fold (x : Array Nat) : ∀ (n : Nat) (a : Array Nat), ((List.replicate n x).foldl (· ++ ·) a).toList = a.toList ++ (List.replicate n x.toList).flatten
  | 0, a => by simp
  | n + 1, a => by
    rw [List.replicate_succ, List.foldl_cons, rep_fold x n, List.replicate_succ, List.flatten_cons]
    simp
theorem op_mulStr {X : Cx} : OpR X (binaryOp .Mult) rMulS := by
  intro pins s σ H x y v u Q I rx ry h
  obtain ⟨l, n, rfl, rfl, h0, h1, hl, q⟩ := h
  obtain ⟨t, rfl⟩ := rx
  obtain ⟨t', rfl⟩ := ry
  have hlen : (Sg l).length = l.length := sg_len l
  have hz : sizeLine = 16777216 := sizeLine_eq
  have hprod : l.length * n.toNat ≤ 1000 * 1000 := Nat.mul_le_mul hl (by omega)
  refine PySem.P.mul_str (by simp; omega) (fun hn _ => ?_) (fun _ _ => ?_) ?_
  · rw [hlen]
    have : (1000 : Int) ≤ (2 ^ 63 - 1) / n := by
      rw [Int.le_ediv_iff_mul_le (by omega)]
      omega
    omega
  · rw [hlen]
    unfold Builtin.Str.tooLong
    rw [decide_eq_false_iff_not]
    omega
  · split
    · rename_i hn
      have hn0 : n = 0 := by omega
      subst hn0
      exact ⟨by decide, .str (Sg []), H, I.tok _, ⟨_, rfl⟩, q⟩
    · rename_i hn
      split
      · rename_i hc
        have e : (List.replicate n.toNat l).flatten = l := by
          rw [Bool.or_eq_true, beq_iff_eq, beq_iff_eq, hlen] at hc
          rcases hc with hc | hc
          · subst hc; simp
          · have : l = [] := List.length_eq_zero_iff.mp hc
            subst this; simp
        rw [e] at q
        exact ⟨.str (Sg l), H, I, ⟨_, rfl⟩, q⟩
      · have e : (⟨(List.replicate n.toNat (Sg l).cps).foldl (· ++ ·) #[]⟩ : Str) = Sg (List.replicate n.toNat l).flatten := by
          have := rep_fold (Sg l).cps n.toNat #[]
          rw [sg_tl] at this
          show (⟨_⟩ : Str) = ⟨_⟩
          congr 1
          apply Array.toList_inj.mp
          rw [this]
          simp
        rw [e]
        refine ⟨?_, .str _, H, I.tok _, ⟨_, rfl⟩, q⟩
        rw [sg_len, List.length_flatten, List.map_replicate, List.sum_replicate_nat, Nat.mul_comm]
        omega
theorem w_mulS {l : List Nat} {n : Int} {H : Hp} {Q : VK} (h : 0 ≤ n ∧ n ≤ 1000) (hl : l.length ≤ 1000) (q : Q (.str (Sg (List.replicate n.toNat l).flatten)) H) : rMulS (.str (Sg l)) (.int n) H Q := ⟨l, n, rfl, rfl, h.1, h.2, hl, q⟩
end Tw
namespace Tw
open PySem PySem.Spec PyProof.Rows L2
theorem cz_ix {c : List Nat} {p : Nat} (hp : Per c p) (h0 : 0 < p) (hl : p ≤ c.length) (z : Int) : c[(z % (p : Int)).toNat]? = some (cz c z) := by
  have r0 := Int.emod_nonneg z (b := (p : Int)) (by omega)
  have r1 := Int.emod_lt_of_pos z (b := (p : Int)) (by omega)
  have e : cz c z = cz c (z % p) := by
    have := hp.mulz (z / p) (z % p)
    rw [← this]
    congr 1
    have := Int.emod_add_mul_ediv z p
    omega
  rw [e]
  obtain ⟨r, hr⟩ : ∃ r : Nat, z % (p : Int) = r := ⟨(z % (p : Int)).toNat, by omega⟩
  rw [hr, Int.toNat_natCast, cz_nat (by omega)]
  exact List.getElem?_eq_getElem (by omega)
theorem MinP.le {c : List Nat} {p : Nat} (h : MinP c p) (hc : c ≠ []) : p ≤ c.length := Nat.le_of_dvd (List.length_pos_iff.mpr hc) (h.dvd (per_len c))
theorem per_of {c : List Nat} (hc : c ≠ []) {i : Nat} (h : ∀ j : Nat, j < c.length → cz c (j + i) = cz c j) : Per c i := by
  have hl : 0 < c.length := List.length_pos_iff.mpr hc
  intro z
  have r0 := Int.emod_nonneg z (b := (c.length : Int)) (by omega)
  have r1 := Int.emod_lt_of_pos z (b := (c.length : Int)) (by omega)
  have e := Int.emod_add_mul_ediv z c.length
  have p1 := (per_len c).mulz (z / c.length) (z % c.length + i)
  have p2 := (per_len c).mulz (z / c.length) (z % c.length)
  rw [show z % (c.length : Int) + i + c.length * (z / c.length) = z + i by omega] at p1
  rw [e] at p2
  rw [p1, p2]
  obtain ⟨r, hr⟩ : ∃ r : Nat, z % (c.length : Int) = r := ⟨(z % (c.length : Int)).toNat, by omega⟩
  rw [hr]
  exact h r (by omega)
theorem dbl_ix {c : List Nat} {i : Nat} (h : i < c.length + c.length) : (c ++ c)[i]? = some (cz c i) := by
  by_cases hi : i < c.length
  · rw [List.getElem?_append_left hi, List.getElem?_eq_getElem hi, cz_nat hi]
  · rw [List.getElem?_append_right (by omega), List.getElem?_eq_getElem (by omega)]
    have := per_len c ((i - c.length : Nat) : Int)
    rw [show ((i - c.length : Nat) : Int) + c.length = i by omega, cz_nat (i := i - c.length) (by omega)] at this
    rw [this]
theorem subAt_per {c : List Nat} (hc : c ≠ []) {i : Nat} (hi : i ≤ c.length) : Builtin.Str.subAt (Sg (c ++ c)) (Sg c) i = true ↔ Per c i := by
  rw [PySem.StrLaws.subAt_eq, sg_tl, sg_tl, sg_len, beq_iff_eq]
  constructor
  · intro h
    refine per_of hc fun j hj => ?_
    have h1 : (((c ++ c).drop i).take c.length)[j]? = c[j]? := by rw [h]
    rw [List.getElem?_take_of_lt hj, List.getElem?_drop, dbl_ix (by omega), List.getElem?_eq_getElem hj] at h1
    have h2 := Option.some.inj h1
    rw [cz_nat hj, ← h2]
    congr 1
    omega
  · intro h
    refine List.ext_getElem? fun j => ?_
    by_cases hj : j < c.length
    · rw [List.getElem?_take_of_lt hj, List.getElem?_drop, dbl_ix (by omega), List.getElem?_eq_getElem hj]
      congr 1
      have := h j
      rw [cz_nat hj] at this
      rw [← this]
      congr 1
      omega
    · rw [List.getElem?_eq_none (by rw [List.length_take]; omega), List.getElem?_eq_none (by omega)]
theorem find_again {c : List Nat} (hc : c ≠ []) {p : Nat} (h : MinP c p) : Txt.find3 (Sg (c ++ c)) (Sg c) 1 = (p : Int) := by
  have hl := h.le hc
  refine find3_first h.1 (by rw [sg_len, sg_len, List.length_append]; omega) ((subAt_per hc hl).mpr h.2.1) fun i h1 h2 => ?_
  rw [← Bool.not_eq_true]
  intro z
  exact h.2.2 i h1 h2 ((subAt_per hc (by omega)).mp z)
/-- begun s marks later -/
theorem rot_cz {c : List Nat} {p s : Nat} (hp : Per c p) (hs : s < p) (hl : p ≤ c.length) : ((c.take p).drop s ++ c.take s).length = p ∧ ∀ z, cz ((c.take p).drop s ++ c.take s) z = cz c (z + s) := by
  have len : ((c.take p).drop s ++ c.take s).length = p := by simp only [List.length_append, List.length_drop, List.length_take]; omega
  refine ⟨len, fun z => ?_⟩
  have r0 := Int.emod_nonneg z (b := (p : Int)) (by omega)
  have r1 := Int.emod_lt_of_pos z (b := (p : Int)) (by omega)
  have e : cz c (z + s) = cz c (z % p + s) := by
    have := hp.mulz (z / p) (z % p + s)
    rw [← this]
    congr 1
    have := Int.emod_add_mul_ediv z p
    omega
  rw [e]
  unfold cz
  rw [len]
  obtain ⟨r, hr⟩ : ∃ r : Nat, z % (p : Int) = r := ⟨(z % (p : Int)).toNat, by omega⟩
  rw [hr, Int.toNat_natCast, List.getD_eq_getElem?_getD, List.getD_eq_getElem?_getD]
  by_cases h : r < p - s
  · rw [List.getElem?_append_left (by simp only [List.length_drop, List.length_take]; omega), List.getElem?_drop, List.getElem?_take_of_lt (by omega), Int.emod_eq_of_lt (by omega) (by omega)]
    congr 2
    omega
  · rw [List.getElem?_append_right (by simp only [List.length_drop, List.length_take]; omega), List.getElem?_take_of_lt (by simp only [List.length_drop, List.length_take]; omega)]
    have q := hp ((r + s - p : Nat) : Int)
    rw [show ((r + s - p : Nat) : Int) + p = (r : Int) + s by omega] at q
    unfold cz at q
    rw [List.getD_eq_getElem?_getD, List.getD_eq_getElem?_getD] at q
    rw [q, Int.emod_eq_of_lt (by omega) (by omega), Int.toNat_natCast]
    congr 2
    simp only [List.length_drop, List.length_take]
    omega
theorem minP_shift {c d : List Nat} {s : Int} {p : Nat} (h : ∀ z, cz d z = cz c (z + s)) (m : MinP c p) : MinP d p := by
  have key : ∀ q : Int, Per c q ↔ Per d q := by
    intro q
    constructor
    · intro hq z
      rw [h, h, show z + q + s = (z + s) + q by omega, hq]
    · intro hq z
      have := hq (z - s)
      rw [h, h] at this
      rw [show z - s + q + s = z + q by omega, show z - s + s = z by omega] at this
      exact this
  exact ⟨m.1, (key _).mp m.2.1, fun q h1 h2 h3 => m.2.2 q h1 h2 ((key _).mpr h3)⟩
/-- the head cut, the cycle begun at its end -/
theorem cut_row {h c c' : List Nat} {k p : Nat} (hk : k ≤ h.length) (hp : Per c p) (hr : ∀ z, cz c' z = cz c (z + (((k : Int) - h.length) % (p : Int)))) (hh : ∀ j : Nat, k ≤ j → ∀ x, h[j]? = some x → x = cz c ((j : Int) - h.length)) (n : Nat) : rz (h.take k) c' n = rz h c n := by
  have e : ∀ z, cz c' z = cz c (z + k - h.length) := by
    intro z
    rw [hr]
    have := hp.mulz (((k : Int) - h.length) / p) (z + (((k : Int) - h.length) % (p : Int)))
    rw [← this]
    congr 1
    have := Int.emod_add_mul_ediv ((k : Int) - h.length) p
    omega
  have hl : (h.take k).length = k := by rw [List.length_take]; omega
  by_cases h1 : n < k
  · rw [rz_lt (by omega), rz_lt (by omega), List.getElem_take]
  · rw [rz_ge (by rw [hl]; omega), hl, e]
    by_cases h2 : n < h.length
    · rw [rz_lt h2]
      have := hh n (by omega) _ (List.getElem?_eq_getElem h2)
      rw [this]
      congr 1
      omega
    · rw [rz_ge (by omega)]
      congr 1
      omega
theorem rep_get {x : List Nat} (hx : 0 < x.length) : ∀ (k j : Nat), j < k * x.length → ((List.replicate k x).flatten)[j]? = x[j % x.length]?
  | 0, j, h => by omega
  | k + 1, j, h => by
    rw [List.replicate_succ, List.flatten_cons]
    by_cases hj : j < x.length
    · rw [List.getElem?_append_left hj, Nat.mod_eq_of_lt hj]
    · rw [List.getElem?_append_right (by omega), rep_get hx k (j - x.length) (by rw [Nat.succ_mul] at h; omega)]
      congr 1
      rw [← Nat.mod_eq_sub_mod (by omega)]
theorem rep_iff {c : List Nat} {s : Nat} (h0 : 0 < s) (hs : s ≤ c.length) (hd : s ∣ c.length) : c = (List.replicate (c.length / s) (c.take s)).flatten ↔ Per c s := by
  have hl : (c.take s).length = s := by rw [List.length_take]; omega
  have hn : c.length / s * s = c.length := Nat.div_mul_cancel hd
  have hc : c ≠ [] := fun z => by rw [z] at hs; simp at hs; omega
  constructor
  · intro e
    have g : ∀ j : Nat, j < c.length → c[j]? = c[j % s]? := by
      intro j hj
      have h1 : c[j]? = ((List.replicate (c.length / s) (c.take s)).flatten)[j]? := by rw [← e]
      rw [h1, rep_get (by omega) _ _ (by rw [hl, hn]; exact hj), hl, List.getElem?_take_of_lt (Nat.mod_lt _ h0)]
    refine per_of hc fun j hj => ?_
    have all : ∀ i : Nat, cz c i = c.getD (i % s) 0 := by
      intro i
      unfold cz
      rw [← Int.natCast_emod, Int.toNat_natCast, List.getD_eq_getElem?_getD, List.getD_eq_getElem?_getD, g _ (Nat.mod_lt _ (by omega)), Nat.mod_mod_of_dvd _ hd]
    have h1 := all (j + s)
    have h2 := all j
    rw [Nat.add_mod_right] at h1
    rw [show ((j + s : Nat) : Int) = (j : Int) + s by omega] at h1
    rw [h1, h2]
  · intro hp
    refine List.ext_getElem? fun j => ?_
    by_cases hj : j < c.length
    · rw [rep_get (by omega) _ _ (by rw [hl, hn]; exact hj), hl, List.getElem?_take_of_lt (Nat.mod_lt _ h0)]
      have h1 := cz_ix hp h0 hs j
      rw [← Int.natCast_emod, Int.toNat_natCast] at h1
      rw [h1, cz_nat hj, List.getElem?_eq_getElem hj]
    · rw [List.getElem?_eq_none (by omega), List.getElem?_eq_none (by rw [List.length_flatten, List.map_replicate, List.sum_replicate_nat, hl, hn]; omega)]
theorem take_cz {c : List Nat} {p : Nat} (hp : Per c p) (h0 : 0 < p) (hl : p ≤ c.length) : (c.take p).length = p ∧ ∀ z, cz (c.take p) z = cz c z := by
  have := rot_cz (s := 0) hp h0 hl
  simp only [List.drop_zero, List.take_zero, List.append_nil] at this
  refine ⟨this.1, fun z => ?_⟩
  rw [this.2]
  congr 1
  omega
/-- one mark from the head's end into the cycle -/
theorem back_cz {c : List Nat} (hc : c ≠ []) : (c.getLast hc :: c.dropLast).length = c.length ∧ ∀ z, cz (c.getLast hc :: c.dropLast) z = cz c (z - 1) := by
  have hl : 0 < c.length := List.length_pos_iff.mpr hc
  have len : (c.getLast hc :: c.dropLast).length = c.length := by simp; omega
  refine ⟨len, fun z => ?_⟩
  have r0 := Int.emod_nonneg z (b := (c.length : Int)) (by omega)
  have r1 := Int.emod_lt_of_pos z (b := (c.length : Int)) (by omega)
  have e : cz c (z - 1) = cz c (z % c.length - 1) := by
    have := (per_len c).mulz (z / c.length) (z % c.length - 1)
    rw [← this]
    congr 1
    have := Int.emod_add_mul_ediv z c.length
    omega
  rw [e]
  unfold cz
  rw [len]
  obtain ⟨r, hr⟩ : ∃ r : Nat, z % (c.length : Int) = r := ⟨(z % (c.length : Int)).toNat, by omega⟩
  rw [hr, Int.toNat_natCast]
  cases r with
  | zero =>
    have := cz_last hc
    unfold cz at this
    rw [show ((0 : Nat) : Int) - 1 = -1 by omega, this]
    rfl
  | succ r =>
    rw [show ((r + 1 : Nat) : Int) - 1 = r by omega, Int.emod_eq_of_lt (by omega) (by omega), Int.toNat_natCast, List.getD_eq_getElem?_getD, List.getD_eq_getElem?_getD, List.getElem?_cons_succ, List.getElem?_dropLast, if_pos (by omega)]
theorem back_row {h c : List Nat} (hh : h ≠ []) (hc : c ≠ []) (e : h.getLast hh = c.getLast hc) (n : Nat) : rz h.dropLast (c.getLast hc :: c.dropLast) n = rz h c n := by
  have hl : 0 < h.length := List.length_pos_iff.mpr hh
  have hd : h.dropLast.length = h.length - 1 := List.length_dropLast
  by_cases h1 : n < h.length - 1
  · rw [rz_lt (by omega), rz_lt (by omega), List.getElem_dropLast]
  · rw [rz_ge (by omega), (back_cz hc).2, hd]
    by_cases h2 : n < h.length
    · have hn : n = h.length - 1 := by omega
      subst hn
      rw [rz_lt (by omega), ← List.getLast_eq_getElem hh, e, ← cz_last hc]
      congr 1
      omega
    · rw [rz_ge (by omega)]
      congr 1
      omega
/-- without its first mark -/
theorem shift_row {h c : List Nat} (n : Nat) : (∀ x t, h = x :: t → rz t c n = rz h c ((n + 1 : Nat) : Int)) ∧ (h = [] → ∀ d : List Nat, (∀ z, cz d z = cz c (z + 1)) → rz [] d n = rz h c ((n + 1 : Nat) : Int)) := by
  refine ⟨?_, ?_⟩
  · rintro x t rfl
    by_cases h1 : n < t.length
    · rw [rz_lt h1, rz_lt (by simp; omega), List.getElem_cons_succ]
    · rw [rz_ge (by omega), rz_ge (by simp; omega)]
      congr 1
      simp only [List.length_cons]
      omega
  · rintro rfl d hd
    rw [rz_ge (by simp only [List.length_nil]; omega), rz_ge (by simp only [List.length_nil]; omega), hd]
    congr 1
def rowD (h c : List Nat) : PyData := .tuple [.str (Sg h), .str (Sg c)]
def Mk (l : List Nat) : Prop := ∀ x ∈ l, x < 1000
theorem strOk_sg {l : List Nat} (h : Mk l) : PyData.strOk (Sg l) = true := by
  unfold PyData.strOk
  rw [← Array.all_toList, sg_tl, List.all_eq_true]
  intro x hx
  have := h x hx
  exact decide_eq_true (by omega)
theorem rowD_pln {k : Nat} {h c : List Nat} (a : Mk h) (b : Mk c) : pln (k + 1) (rowD h c) = true := by
  cases k <;> simp [rowD, pln, strOk_sg a, strOk_sg b]
theorem rowD_inj {h c h' c' : List Nat} (e : rowD h c = rowD h' c') : h = h' ∧ c = c' := by
  simp only [rowD, PyData.tuple.injEq, List.cons.injEq, PyData.str.injEq, and_true] at e
  exact ⟨sg_inj e.1, sg_inj e.2⟩
section
variable {K : PySem.W.Frag} {σ : L2.St} {H : Hp} {Q : VK} {v : V} {ta : TE} {h c : List Nat}
def rTruS (x : V) (H : Hp) (Q : Bool → Hp → Prop) : Prop := ∃ l : List Nat, x = .str (Sg l) ∧ l.length ≤ 1000000 ∧ Q (decide (l ≠ [])) H
theorem w_truS {Q : Bool → Hp → Prop} (q : ta σ H fun x H' => rTruS x H' Q) (m : ∀ (P P' : VK), (∀ v H', P v H' → P' v H') → ta σ H P → ta σ H P') : tTru K ta σ H Q := by
  refine m _ _ (fun v H' z => ?_) q
  obtain ⟨l, rfl, hl, z⟩ := z
  have hs : sizeLine = 16777216 := sizeLine_eq
  refine ⟨decide (l ≠ []), ⟨by rw [sg_len]; omega, ?_⟩, z⟩
  rw [sg_len]
  cases l with
  | nil => rfl
  | cons a l => simp; omega
theorem var_mono {i : Nat} (P P' : VK) (h : ∀ v H', P v H' → P' v H') (q : tVar i σ H P) : tVar i σ H P' := by
  obtain ⟨v, e, z⟩ := q
  exact ⟨v, e, h _ _ z⟩
theorem w_truV {Q : Bool → Hp → Prop} {i : Nat} {l : List Nat} (e : σ[i]? = some (some (.str (Sg l)))) (hl : l.length ≤ 1000000) (q : Q (decide (l ≠ [])) H) : tTru K (tVar i) σ H Q :=
  w_truS ⟨_, e, l, rfl, hl, q⟩ fun P P' a b => var_mono P P' a b
theorem w_row0 (d : Dp K H v (rowD h c)) (q : Q (.str (Sg h)) H) : rIxT K v (.int 0) H Q := w_ixT (j := 0) d rfl rfl fun v' hv => by cases hv; exact q
theorem w_row1 (d : Dp K H v (rowD h c)) (q : Q (.str (Sg c)) H) : rIxT K v (.int 1) H Q := w_ixT (j := 1) d rfl rfl fun v' hv => by cases hv; exact q
theorem w_gTupR {i j : Nat} {Q : L2.St → Hp → Prop} (d : Dp K H v (rowD h c)) (q : Q ((σ.set i (some (.str (Sg h)))).set j (some (.str (Sg c)))) H) : gTup K 2 (gCons (gName i) (gCons (gName j) gNil)) v σ H Q :=
  w_gTup2 d fun v1 v2 h1 h2 => by cases h1; cases h2; exact q
def rFind3 : V → List V → Hp → VK → Prop := fun x xs H Q => ∃ (a b : Str) (i : Int), x = .str a ∧ xs = [.str b, .int i] ∧ Q (.int (Txt.find3 a b i)) H
theorem mt_find3D {X : Cx} : MtR X "str.find" rFind3 := mt_find3
theorem w_find3 {a b : Str} {i : Int} (q : Q (.int (Txt.find3 a b i)) H) : rFind3 (.str a) [.str b, .int i] H Q := ⟨a, b, i, rfl, rfl, q⟩
end
end Tw
namespace Tw
theorem rep_len (c : List Nat) (n : Nat) : (List.replicate n c).flatten.length = n * c.length := by rw [List.length_flatten, List.map_replicate, List.sum_replicate_nat]
theorem rep_mk {c : List Nat} (mc : Mk c) (n : Nat) : Mk (List.replicate n c).flatten := fun x hx => by
  obtain ⟨l, hl1, hl2⟩ := List.mem_flatten.mp hx
  rw [(List.mem_replicate.mp hl1).2] at hl2
  exact mc x hl2
end Tw
namespace Tw
open PySem PySem.Spec PyProof.Rows L2
section
variable {K : PySem.W.Frag} {H : Hp} {Q : VK} {x y : V} {d e : PyData}
theorem w_eqPb (h1 : Dp K H x d) (h2 : Dp K H y e) (p1 : pln 9 d = true) (p2 : pln 9 e = true) (q : ∀ b, (b = true ↔ d = e) → Q (.bl b) H) : rEqD K x y H Q :=
  w_eqP h1 h2 p1 p2 (fun z => q true ⟨fun _ => z, fun _ => rfl⟩) (fun z => q false ⟨fun h => absurd h Bool.false_ne_true, fun h => absurd h z⟩)
end
theorem pln_intsL (ns : List Int) : pln 9 (.list (ns.map PyData.int)) = true := pln_ints ns
theorem line_ix {h c : List Nat} (hc : c ≠ []) (n j : Nat) (hj : j < h.length + n * c.length) : (h ++ (List.replicate n c).flatten)[j]? = some (rz h c j) := by
  have hl : 0 < c.length := List.length_pos_iff.mpr hc
  by_cases h1 : j < h.length
  · rw [List.getElem?_append_left h1, rz_lt h1, List.getElem?_eq_getElem h1]
  · rw [List.getElem?_append_right (by omega), rep_get hl _ _ (by omega), rz_ge (by omega), show ((j : Int) - h.length) = ((j - h.length : Nat) : Int) by omega]
    have hm := Nat.mod_lt (j - h.length) hl
    unfold cz
    rw [← Int.natCast_emod, Int.toNat_natCast, List.getD_eq_getElem?_getD, List.getElem?_eq_getElem hm]
    rfl
theorem rest_rz {h c : List Nat} (hc : c ≠ []) {k : Nat} (hk : k ≤ h.length + c.length) (n : Nat) : rz (((h ++ (List.replicate 12 c).flatten).take (h.length + c.length * 3)).drop (k + 1)) c n = rz h c ((n + k + 1 : Nat) : Int) := by
  have hl : 0 < c.length := List.length_pos_iff.mpr hc
  have len : (((h ++ (List.replicate 12 c).flatten).take (h.length + c.length * 3)).drop (k + 1)).length = h.length + c.length * 3 - (k + 1) := by
    rw [List.length_drop, List.length_take, List.length_append, rep_len]
    omega
  by_cases h1 : n < h.length + c.length * 3 - (k + 1)
  · rw [rz_lt (by omega)]
    have e := line_ix hc 12 (n + k + 1) (h := h) (by omega)
    have g : (((h ++ (List.replicate 12 c).flatten).take (h.length + c.length * 3)).drop (k + 1))[n]? = some (rz h c ((n + k + 1 : Nat) : Int)) := by
      rw [List.getElem?_drop, List.getElem?_take_of_lt (by omega), show k + 1 + n = n + k + 1 by omega, e]
    exact (List.getElem?_eq_some_iff.mp g).2
  · rw [rz_ge (by omega), rz_ge (by omega), len]
    have p := (per_len c).mul 3 ((n : Int) - ((h.length + c.length * 3 - (k + 1) : Nat) : Int))
    rw [← p]
    congr 1
    omega
end Tw
namespace Tw
open PySem PySem.Spec PyProof.Rows L2
/-- a value (i, (p, q)) -/
def IsRow (h : Heap) (v : Value) (k : Int × Int × Int) : Prop :=
  ∃ a o t b n, v = .ref a ∧ h.get? a = some o ∧ o.cls = .type "tuple" ∧ o.data = .seq #[.int k.1 t, .ref b] n ∧ Srt.IsPair h (.ref b) k.2.1 k.2.2
theorem IsRow.keeps {h h' : Heap} {v : Value} {k : Int × Int × Int} (r : IsRow h v k) (e : ∀ b o, h.get? b = some o → o.cls = .type "tuple" → h'.get? b = some o) : IsRow h' v k := by
  obtain ⟨a, o, t, b, n, rfl, h1, h2, h3, h4⟩ := r
  exact ⟨a, o, t, b, n, rfl, e _ _ h1 h2, h2, h3, h4.keeps e⟩
theorem row_firsts {h : Heap} : ∀ {vs : List Value}, (∀ v ∈ vs, ∃ k, IsRow h v k) → ∃ fs, W.KatTups h vs fs ∧ fs.length = vs.length ∧ ∀ f ∈ fs, ∃ x t, f = Value.int x t
  | [], _ => ⟨[], .nil, rfl, fun _ z => nomatch z⟩
  | v :: vs, hv => by
    obtain ⟨fs, h1, h2, h3⟩ := row_firsts (vs := vs) fun u hu => hv u (List.mem_cons_of_mem _ hu)
    obtain ⟨k, a, o, t, b, n, rfl, g1, g2, g3, g4⟩ := hv v List.mem_cons_self
    refine ⟨.int k.1 t :: fs, ⟨⟨a, o, _, n, rfl, g1, g2, g3, rfl⟩, h1⟩, by simp [h2], fun f hf => ?_⟩
    rcases List.mem_cons.mp hf with rfl | hf
    · exact ⟨_, _, rfl⟩
    · exact h3 f hf
theorem isInt_me (x : Int) (t : Tok) : Value.isInt x (.int x t) = true := by simp [Value.isInt]
theorem pair_key {P : Program} {w : World} {h : Heap} {b : Addr} {x y : Int} (r : Srt.IsPair h (.ref b) x y) : IsTupleKey (intKind P w) h [x, y] b := by
  obtain ⟨a, o, t, u, n, e, h1, h2, h3⟩ := r
  cases e
  exact ⟨o, _, n, h1, h2, h3, .cons (v := .int x t) (isInt_me x t) (.cons (v := .int y u) (isInt_me y u) .nil)⟩
theorem row_cmp {prog : Program} {w : World} {A : Around} {s : Shared} {vs : List Value} {k : Value → Int × Int × Int} (hu : A.units < cLine) (h : ∀ v ∈ vs, IsRow s.heap v (k v)) (det : ∀ v ∈ vs, ∀ u ∈ vs, (k v).1 = (k u).1 → (k v).2 = (k u).2) :
    SrtO.Cmp prog w A s (PyProof.Rows.tuples' true) (fun p => p.fst ∈ vs) (SrtO.lt2 fun v u => decide ((k v).1 < (k u).1)) := by
  intro p q hp hq
  obtain ⟨a, o, t, b, n, e1, h1, h2, h3, h4⟩ := h _ hp
  obtain ⟨a', o', t', b', n', e1', h1', h2', h3', h4'⟩ := h _ hq
  have hd := det _ hp _ hq
  show wpAny _ _ (PyProof.Rows.keyLt' _ p.fst q.fst) _ _ _
  unfold SrtO.lt2
  dsimp only
  generalize k p.fst = kp at *
  generalize k q.fst = kq at *
  rw [e1, e1']
  refine PySem.W.kat_lt h1 h3 h1' h3' (PySem.W.kat_cons ?_)
  refine (intKind prog w).eqBool (a := kp.1) (b := kq.1) (isInt_me kp.1 t) (isInt_me kq.1 t') ?_
  unfold PySem.W.KatGo
  by_cases hk : kp.1 = kq.1
  · rw [if_pos (decide_eq_true hk)]
    refine PySem.W.kat_cons ?_
    have h5 := hd hk
    refine wpAny_eqBool_tuple (knd := intKind prog w) hu (pair_key h4) (pair_key h4') ?_
    unfold PySem.W.KatGo
    rw [h5, if_pos (decide_eq_true rfl)]
    exact ⟨rfl, by rw [hk]; simp⟩
  · rw [if_neg (by simpa using hk)]
    exact TS.oneLt_ints _ ⟨rfl, rfl⟩
theorem ltk_swo {α : Type} (k : α → Int) : SrtO.Swo fun v u => decide (k v < k u) := by
  refine ⟨fun x y h => ?_, fun x y z h1 h2 => ?_⟩
  · rw [decide_eq_true_eq] at h
    rw [decide_eq_false_iff_not]
    omega
  · rw [decide_eq_false_iff_not] at *
    omega
theorem rows_sortable {prog : Program} {w : World} {A : Around} {s : Shared} {a : Addr} {vs : List Value} {k : Value → Int × Int × Int} (hu : A.units < cLine) (h0 : 0 < vs.length) (h : ∀ v ∈ vs, IsRow s.heap v (k v)) (det : ∀ v ∈ vs, ∀ u ∈ vs, (k v).1 = (k u).1 → (k v).2 = (k u).2)
    (ha : ∀ o, s.heap.get? a = some o → o.cls ≠ .type "tuple") : SrtO.SortableO prog w A s a vs fun v u => decide ((k v).1 < (k u).1) := by
  intro h' keep
  have hr : ∀ v ∈ vs, IsRow h' v (k v) := fun v hv => (h v hv).keeps fun b o e1 e2 => keep b o (fun z => by subst z; exact ha o e1 e2) e1
  obtain ⟨fs, f1, f2, f3⟩ := row_firsts (h := h') (vs := vs) fun v hv => ⟨_, hr v hv⟩
  refine ⟨PyProof.Rows.tuples' true, fun Q E q => ?_, row_cmp hu hr det⟩
  refine PySem.W.kat_kind (T := .type "int") f1 (by omega) (fun v hv => ?_) (by decide +kernel) ?_
  · obtain ⟨x, t, rfl⟩ := f3 v hv
    exact PySem.W.Looks.now
  · rw [show (Value.type "int" != Value.type "tuple") = true by decide +kernel]
    exact q
theorem sorted_rows {prog : Program} {w : World} {A : Around} {E : Value → Shared → Prop} {s : Shared} {l : Addr} {vs : List Value} {k : Value → Int × Int × Int} {Q : Value → Shared → Prop} (hu : A.in1.in1.units < cLine) (hl : s.heap.IsList l vs.toArray) (hz : vs.length ≤ sizeLine)
    (h : ∀ v ∈ vs, IsRow s.heap v (k v)) (det : ∀ v ∈ vs, ∀ u ∈ vs, (k v).1 = (k u).1 → (k v).2 = (k u).2)
    (q : ∀ (h' : Heap) (d : Addr) (out : List Value), out.Perm vs → out.Pairwise (fun v u => (k v).1 ≤ (k u).1) → (∀ b o, s.heap.get? b = some o → h'.get? b = some o) → s.heap.objs.size ≤ d → (∃ n, h'.get? d = some (PyProof.Rows.seqObj "list" out.toArray n)) →
      Q (.ref d) { heap := h', gens := s.gens, drawn := s.drawn, toks := s.toks, os := s.os }) :
    wpAny (model prog w) A (call (.builtin "sorted") [.ref l]) Q E s := by
  refine SrtO.sorted_ord (ltk_swo fun v => (k v).1) hl hz (fun h2 h1 a g1 g2 => ?_) fun out o1 o2 => ?_
  · refine rows_sortable hu (by omega) (fun v hv => (h v hv).keeps fun b o e1 _ => (g2 b o e1).2) det fun o e => ?_
    rw [g1] at e
    cases e
    intro z
    exact absurd (Value.type.inj z) (by decide)
  · refine q _ _ out o2.perm ?_ (fun b o e => PyProof.Rows.sortedAll_old e) (Nat.le_succ _) (PyProof.Rows.sortedAll_at _ _ _)
    refine List.Pairwise.imp (fun {x y} z => ?_) o1
    rw [decide_eq_false_iff_not] at z
    omega
end Tw
namespace Tw
open PySem PySem.Spec PyProof.Rows L2
def rowP (e : Int × Int × Int) : PyData := .tuple [.int e.1, .tuple [.int e.2.1, .int e.2.2]]
theorem pairP {X : Cx} {pins : List (Addr × Obj)} {σ : L2.St} {H : Hp} {s : Shared} {v : V} {p q : Int} (I : L2.Inv X pins σ H s) (d : Dp X.K H v (.tuple [.int p, .int q])) : ∃ b, v = .ref b ∧ Srt.IsPair s.heap (.ref b) p q := by
  obtain ⟨b, xs, rfl, hs, ha⟩ := dp_tup d
  obtain ⟨its, hv, ⟨o, h1, h2, n, h3⟩, _⟩ := I.tuple hs
  cases ha with
  | cons a1 a2 =>
    cases a2 with
    | cons a2 a3 =>
      cases a3
      cases a1; cases a2
      cases hv with
      | cons v1 v2 =>
        cases v2 with
        | cons v2 v3 =>
          cases v3
          obtain ⟨t, rfl⟩ := v1
          obtain ⟨u, rfl⟩ := v2
          exact ⟨b, rfl, b, o, t, u, n, rfl, h1, h2, h3⟩
theorem rowI {X : Cx} {pins : List (Addr × Obj)} {σ : L2.St} {H : Hp} {s : Shared} {v : V} {u : Value} {e : Int × Int × Int} (I : L2.Inv X pins σ H s) (r : RelV v u) (d : Dp X.K H v (rowP e)) : IsRow s.heap u e ∧ ∃ a, v = .ref a := by
  obtain ⟨a, xs, rfl, hs, ha⟩ := dp_tup d
  obtain ⟨its, hv, ⟨o, h1, h2, n, h3⟩, _⟩ := I.tuple hs
  cases r
  cases ha with
  | cons a1 a2 =>
    cases a2 with
    | cons a2 a3 =>
      cases a3
      cases a1
      obtain ⟨b, rfl, hp⟩ := pairP I a2
      cases hv with
      | cons v1 v2 =>
        cases v2 with
        | cons v2 v3 =>
          cases v3
          obtain ⟨t, rfl⟩ := v1
          cases v2
          exact ⟨⟨a, o, t, b, n, rfl, h1, h2, h3, hp⟩, a, rfl⟩
theorem row_one {h : Heap} {v : Value} {e f : Int × Int × Int} (a : IsRow h v e) (b : IsRow h v f) : e = f := by
  obtain ⟨a1, o1, t1, b1, n1, rfl, g1, _, g2, x1, y1, _, _, _, q1, q2, _, q3⟩ := a
  obtain ⟨a2, o2, t2, b2, n2, h0, k1, _, k2, x2, y2, _, _, _, r1, r2, _, r3⟩ := b
  cases h0
  rw [g1] at k1
  cases k1
  rw [g2] at k2
  simp only [Data.seq.injEq, Array.mk.injEq, List.cons.injEq, Value.int.injEq, Value.ref.injEq, and_true] at k2
  obtain ⟨⟨⟨i1, _⟩, i2⟩, _⟩ := k2
  subst i2
  cases q1; cases r1
  rw [q2] at r2
  cases r2
  rw [q3] at r3
  simp only [Data.seq.injEq, Array.mk.injEq, List.cons.injEq, Value.int.injEq, and_true] at r3
  obtain ⟨⟨⟨j1, _⟩, ⟨j2, _⟩⟩, _⟩ := r3
  exact Prod.ext i1 (Prod.ext j1 j2)
open Classical in
noncomputable def rowK (h : Heap) (v : Value) : Int × Int × Int := if z : ∃ e, IsRow h v e then z.choose else (0, 0, 0)
theorem rowK_eq {h : Heap} {v : Value} {e : Int × Int × Int} (r : IsRow h v e) : rowK h v = e := by
  unfold rowK
  rw [dif_pos ⟨e, r⟩]
  exact row_one (Exists.choose_spec (⟨e, r⟩ : ∃ e, IsRow h v e)) r
theorem rowsI {X : Cx} {pins : List (Addr × Obj)} {σ : L2.St} {H : Hp} {s : Shared} (I : L2.Inv X pins σ H s) : ∀ {xs : List V} {its : List Value} {es : List (Int × Int × Int)}, Vals xs its → DpAll X.K H xs (es.map rowP) →
    es = its.map (rowK s.heap) ∧ ∀ u ∈ its, IsRow s.heap u (rowK s.heap u) ∧ RelV (backV u) u ∧ Dp X.K H (backV u) (rowP (rowK s.heap u))
  | [], _, es, hv, hd => by
    cases hv
    cases es with
    | nil => exact ⟨rfl, fun _ z => nomatch z⟩
    | cons e es => cases hd
  | x :: xs, _, es, hv, hd => by
    cases hv with
    | cons r hv =>
      cases es with
      | nil => cases hd
      | cons e es =>
        cases hd with
        | cons d hd =>
          obtain ⟨i1, i2⟩ := rowsI I hv hd
          obtain ⟨j1, a, rfl⟩ := rowI I r d
          have j2 := rowK_eq j1
          refine ⟨by rw [List.map_cons, j2, ← i1], fun u hu => ?_⟩
          rcases List.mem_cons.mp hu with rfl | hu
          · cases r
            rw [j2]
            exact ⟨j1, rfl, d⟩
          · exact i2 u hu
def rSortR (K : PySem.W.Frag) : List V → Hp → VK → Prop := fun vs H Q => ∃ (a : Addr) (es : List (Int × Int × Int)), vs = [.ref a] ∧ Dp K H (.ref a) (.list (es.map rowP)) ∧ (∀ e ∈ es, ∀ f ∈ es, e.1 = f.1 → e.2 = f.2) ∧
  ∀ (es' : List (Int × Int × Int)) (p : Addr) H', es'.Perm es → es'.Pairwise (fun e f => e.1 ≤ f.1) → H p = none → Same H H' → Dp K H' (.ref p) (.list (es'.map rowP)) → Q (.ref p) H'
theorem cr_sortR {X : Cx} {K : PySem.W.Frag} (hu : X.A.units + 64 < cLine) (hK : X.K = K := by rfl) : CallR X (.builtin "sorted") (rSortR K) := by
  subst hK
  intro pins s σ H xs us Q I hv h
  obtain ⟨a, es, rfl, hd, det, q⟩ := h
  obtain ⟨u, rfl, ru⟩ := vals1 hv
  cases ru
  obtain ⟨a', ys, e0, hs, ha⟩ := dp_lst hd
  cases e0
  obtain ⟨its, hy, hp, hz⟩ := I.list hs
  have hl := hy.length
  obtain ⟨r1, r2⟩ := rowsI I hy ha
  refine sorted_rows (k := rowK s.heap) (by show X.A.units + 1 + 1 < cLine; omega) (PlainL.isList hp) (by omega) (fun v hv => (r2 v hv).1) (fun v hv u hu e => ?_) fun h' d out o1 o2 o3 o4 o5 => ?_
  · exact det _ (by rw [r1]; exact List.mem_map_of_mem hv) _ (by rw [r1]; exact List.mem_map_of_mem hu) e
  · have hn : H d = none := I.hok.fresh o4
    have hvs : ∀ l : List Value, (∀ u ∈ l, u ∈ its) → Vals (l.map backV) l ∧ DpAll X.K H (l.map backV) ((l.map (rowK s.heap)).map rowP) := by
      intro l
      induction l with
      | nil => exact fun _ => ⟨.nil, .nil⟩
      | cons u l ih =>
        intro hl
        obtain ⟨i1, i2⟩ := ih fun v hv => hl v (List.mem_cons_of_mem _ hv)
        obtain ⟨_, j1, j2⟩ := r2 u (hl u List.mem_cons_self)
        exact ⟨.cons j1 i1, .cons j2 i2⟩
    obtain ⟨v1, v2⟩ := hvs out fun u hu => (o1.mem_iff).mp hu
    have lo : out.length = its.length := o1.length_eq
    obtain ⟨n, o5⟩ := o5
    have same : Same H (upd H d (.lst (out.map backV))) := same_new hn
    refine ⟨.ref d, upd H d (.lst (out.map backV)), I.laid o3 o4 ⟨by rw [List.length_map]; omega, out, n, v1, o5⟩, rfl, q (out.map (rowK s.heap)) d _ (by rw [r1]; exact o1.map _) (List.pairwise_map.mpr o2) hn same ?_⟩
    exact .lst (SqL.of upd_same) (dpa_same same v2)
end Tw
namespace Tw
open PySem PySem.Spec PyProof.Rows L2
/-- a place with its numerator over W -/
def key3 (W : Nat) (x : Nat × Nat) : Int × Int × Int := (((x.1 * (W / x.2) : Nat) : Int), (x.1 : Int), (x.2 : Int))
theorem key_pd (W : Nat) (x : Nat × Nat) : rowP (key3 W x) = .tuple [.int ((x.1 * (W / x.2) : Nat) : Int), pd x] := rfl
theorem key_inj {W : Nat} {x y : Nat × Nat} (hW : 0 < W) (hx : Plc x) (hy : Plc y) (dx : x.2 ∣ W) (dy : y.2 ∣ W) (e : x.1 * (W / x.2) = y.1 * (W / y.2)) : x = y := by
  have h1 : x.1 * (W / x.2) * x.2 = x.1 * W := by rw [Nat.mul_assoc, Nat.div_mul_cancel dx]
  have h2 : y.1 * (W / y.2) * y.2 = y.1 * W := by rw [Nat.mul_assoc, Nat.div_mul_cancel dy]
  have r1 := red_of hx.cop hx.pos hW h1.symm
  have r2 := red_of hy.cop hy.pos hW h2.symm
  rw [← r1, ← r2, e]
theorem key_sz {W : Nat} {x : Nat × Nat} (hW : 0 < W) (hC : W ∣ CN) (dx : x.2 ∣ W) : sz x = x.1 * (W / x.2) * (CN / W) := by
  unfold sz
  obtain ⟨m, hm⟩ := hC
  obtain ⟨n, hn⟩ := dx
  have hx : 0 < x.2 := by
    rcases Nat.eq_zero_or_pos x.2 with z | z
    · rw [z] at hn; omega
    · exact z
  rw [hm, Nat.mul_div_cancel_left _ hW, hn, Nat.mul_assoc, Nat.mul_div_cancel_left _ hx, Nat.mul_div_cancel_left _ hx, Nat.mul_assoc]
theorem sorted_back {W : Nat} {xs : List (Nat × Nat)} {es : List (Int × Int × Int)} (h : es.Perm (xs.map (key3 W))) : ∃ ys : List (Nat × Nat), ys.Perm xs ∧ es = ys.map (key3 W) := by
  let g : Int × Int × Int → Nat × Nat := fun e => (e.2.1.toNat, e.2.2.toNat)
  have hg : ∀ x, g (key3 W x) = x := fun x => by simp [g, key3]
  refine ⟨es.map g, ?_, ?_⟩
  · have := h.map g
    rw [List.map_map] at this
    rwa [show g ∘ key3 W = id from funext hg, List.map_id] at this
  · rw [List.map_map]
    symm
    refine (List.map_congr_left fun e he => ?_).trans (List.map_id _)
    obtain ⟨x, _, rfl⟩ := List.mem_map.mp (h.mem_iff.mp he)
    show key3 W (g (key3 W x)) = key3 W x
    rw [hg]
theorem lcm_step {W b : Nat} (hW : 0 < W) (hb : 0 < b) (h1 : W ∣ CN) (h2 : b ∣ CN) : 0 < W / Nat.gcd W b * b ∧ W / Nat.gcd W b * b ∣ CN ∧ W ∣ W / Nat.gcd W b * b ∧ b ∣ W / Nat.gcd W b * b := by
  have e : W / Nat.gcd W b * b = Nat.lcm W b := by
    unfold Nat.lcm
    obtain ⟨m, hm⟩ := Nat.gcd_dvd_left W b
    have hg : 0 < Nat.gcd W b := Nat.gcd_pos_of_pos_left _ hW
    generalize Nat.gcd W b = g at *
    rw [hm, Nat.mul_div_cancel_left _ hg, Nat.mul_assoc, Nat.mul_div_cancel_left _ hg]
  rw [e]
  exact ⟨Nat.lcm_pos hW hb, Nat.lcm_dvd h1 h2, Nat.dvd_lcm_left _ _, Nat.dvd_lcm_right _ _⟩
end Tw
namespace Tw
open PySem PySem.Spec PyProof.Rows L2
theorem pe_ownInit {X : Cx} {e : Expr} {es : List Expr} {ta : TA} {p1 p2 pos : Pos} {pl : Sem Bool} {x : Str} {D : Addr} (hg : Gl X x) (hm : X.mg x = some (.ref D))
    (sp : PySem.W.specialIn X.K (.ref D) "__getattribute__" = some (some (.builtin "type.__getattribute__"))) (tp : PySem.W.typeIn X.K (.ref D) = some (.type "type")) (rd : PySem.W.readsIn X.K D (.type "type") = true)
    (fc : PySem.W.findCls X.K (.ref D) (.type "type") "__init__" = some (.val (.builtin "ValueError.__init__"))) (ha : PA X (e :: es) ta) (hd : (x == ("__debug__" : Str)) = false := by rfl)
    (he : eval (.Call (.Attribute (.Name x p1) "__init__" p2) (e :: es) [] pos) X.env = (do
      let ov ← eval (.Name x p1) X.env
      standAt p2.atName
      let (f, first) ← holding [ov] (getMethod ov "__init__" pl)
      callWith pos f first (backTo pos (starEach (e :: es) X.env)) (backToKw pos (keywordEach [] X.env))) := by rfl)
    (h1 : starEach (e :: es) X.env = (false, eval e X.env) :: starEach es X.env := by rfl) (h2 : (backTo pos (starEach es X.env)).any (·.1) = false := by rfl) :
    PE X (.Call (.Attribute (.Name x p1) "__init__" p2) (e :: es) [] pos) (tVeI X.K ta) where
  run := fun pins s σ H Q I h => by
    obtain ⟨m, fr⟩ := I.fr
    have kin := I.ok.mod.kin
    refine PySem.W.methodCall_KW (ld_glob I hg hm ?_ hd) he
    refine PySem.W.method_of_cls fr kin sp (PySem.W.cls_val fr kin tp rd fc (by rfl) ?_)
    refine callWith_method1 (thn (ha.run pos pins _ σ H _ (I.tok _) h) fun us s' z => ?_) h1 h2
    obtain ⟨vs, H', I', rv, a, C, ws, rfl, hl, ox, hx, q⟩ := z
    cases rv with
    | cons r1 r2 =>
      cases r1
      refine oinit_ok ox I' hx ?_ fun s2 I2 => ⟨.non, H', I2, rfl, q⟩
      have := r2.length
      rw [sizeLine_eq]
      omega
/-- a call of a def that may raise, where it doesn't -/
theorem passF {P : Program} {w : World} {X : Cx} : Passes (CX P w) X (fun _ _ _ => False) := by
  intro pins σ H s e s' I h
  obtain ⟨_, _, _, _, _, _, _, _, _, _, _, _, h⟩ := h
  exact h.elim
/-- what the top says of an own class of errors at C -/
structure ExK (K : PySem.W.Frag) (C : Addr) : Prop where
  o : OexC K C
  f : XfC K C
/-- .. of one whose __init__ is called by name -/
structure ExB (K : PySem.W.Frag) (D : Addr) : Prop where
  sp : PySem.W.specialIn K (.ref D) "__getattribute__" = some (some (.builtin "type.__getattribute__"))
  tp : PySem.W.typeIn K (.ref D) = some (.type "type")
  rd : PySem.W.readsIn K D (.type "type") = true
  fc : PySem.W.findCls K (.ref D) (.type "type") "__init__" = some (.val (.builtin "ValueError.__init__"))
section
variable {K : PySem.W.Frag} {σ : L2.St} {H : Hp} {Q : VK} {D : Ends}
theorem w_vei {ta : TA} (h : ta σ H fun vs H1 => ∃ a C ws, vs = V.ref a :: ws ∧ ws.length ≤ 1000 ∧ OexC K C ∧ H1 a = some (exo a C none) ∧ Q V.non H1) : tVeI K ta σ H Q := h
theorem w_ost {f : Str} {to te : TE} (h : te σ H fun y H1 => to σ H1 fun x H2 => ∃ a C, x = V.ref a ∧ OexC K C ∧ PySem.W.findIn K (Value.ref C) f = some none ∧
      ((H2 a = some (exo a C none) ∧ ∀ dx : Addr, H2 dx = none → dx ≠ a → D.nx σ (upd (upd H2 dx (exd dx [(f, y)])) a (exo a C (some dx)))) ∨
        ∃ dx fs, H2 a = some (exo a C (some dx)) ∧ H2 dx = some (exd dx fs) ∧ fs.length ≤ 900 ∧ D.nx σ (upd H2 dx (exd dx ((f, y) :: fs))))) : tOst K f to te D σ H := h
theorem w_js {t : TE} {ts : List TE} {acc : Str} {Q : Str → Hp → Prop} (h : t σ H fun x H1 => ∃ y : Str, x = .str y ∧ (acc ++ y).length ≤ sizeLine ∧ tJs ts (acc ++ y) σ H1 Q) : tJs (t :: ts) acc σ H Q := h
theorem w_jsN {acc : Str} {Q : Str → Hp → Prop} (h : Q acc H) : tJs [] acc σ H Q := h
theorem w_fmt {te : TE} (h : te σ H fun x H1 => (∃ y, x = V.str y ∧ y.length ≤ sizeLine ∧ Q (V.str y) H1) ∨ ∃ i, x = V.int i ∧ i.natAbs.log2 < 1920 ∧ Q (V.str (Str.ofString (toString i))) H1) : tFmt te σ H Q := h
end
theorem exm_ofS {K : PySem.W.Frag} {C S : Addr} {b : Bool} (h1 : PySem.W.subIn K (.ref S) (.type "BaseException") = some true) (h2 : PySem.W.isClsIn K S = true) (h3 : PySem.W.typeIn K (.ref S) = some (.type "type")) (h4 : PySem.W.subIn K (.ref C) (.ref S) = some b) :
    PySem.W.exmOne K (.ref C) (.ref S) = some b := by
  have e1 : (PySem.W.subIn K (.ref S) (.type "BaseException") == some true) = true := by rw [h1] <;> rfl
  have e2 : ((PySem.W.clsIn K S).isSome && PySem.W.typeIn K (.ref S) == some (.type "type")) = true := by
    have h2' : (PySem.W.clsIn K S).isSome = true := h2
    rw [h2', h3] <;> rfl
  show (if (PySem.W.subIn K (.ref S) (.type "BaseException") == some true) = true then (if ((PySem.W.clsIn K S).isSome && PySem.W.typeIn K (.ref S) == some (.type "type")) = true then PySem.W.subIn K (.ref C) (.ref S) else none) else none) = some b
  rw [if_pos e1, if_pos e2]
  exact h4
theorem str_app (a b : Str) : (a ++ b).length = a.length + b.length := by
  show (a.cps ++ b.cps).size = _
  exact Array.size_append
theorem log2_ok {n : Int} (h0 : 0 ≤ n) (h1 : n < 1000000) : n.natAbs.log2 < 1920 := by
  by_cases z : n.natAbs = 0
  · rw [z]; decide
  · rw [Nat.log2_lt z]
    exact Nat.lt_of_lt_of_le (show n.natAbs < 2 ^ 20 by omega) (Nat.pow_le_pow_right (by decide) (by decide))
theorem strI_len {n : Int} (h0 : 0 ≤ n) (h1 : n < 1000000) : (Str.ofString (toString n)).length ≤ 6 := toString_length_le h0 (by decide) (by omega)
section
variable {K : PySem.W.Frag} {σ : L2.St} {H : Hp} {D : Ends} {C : Addr}
theorem w_mko {sp : Sp} {dvs : List V} {ta : TA} {Q : XK} (h : ta σ H fun vs H1 => vs.length ≤ 1000 ∧ ∀ a : Addr, H1 a = none → sp (V.ref a :: (vs ++ dvs)) (upd H1 a (exo a C none))
      (fun v H2 => v = V.non ∧ ∃ d fs, H2 a = some (exo a C (some d)) ∧ H2 d = some (exd d fs) ∧ H1 d = none ∧ Q (Value.ref C) (some d) (upd (del H2 a) d (HO.xd fs))) fun _ _ _ => False) : tMkO C sp dvs ta σ H Q := h
/-- the error's dict beside what stood -/
theorem raise_same {H : Hp} {a dx : Addr} {o1 o2 o3 o4 : HO} (ha : H a = none) (hd : H dx = none) : Same H (upd (del (upd (upd (upd H a o1) dx o2) a o3) a) dx o4) := fun b o e => by
  have h1 : b ≠ a := fun z => by rw [z, ha] at e; cases e
  have h2 : b ≠ dx := fun z => by rw [z, hd] at e; cases e
  rw [upd_ne h2, del_ne h1, upd_ne h1, upd_ne h2, upd_ne h1]
  exact e
end
section
variable {K : PySem.W.Frag} {σ : L2.St} {H : Hp} {Q : VK}
theorem w_callS {sp : Sp} {E : L2.St → XK} {ta : TA} (h : ta σ H fun vs H1 => sp vs H1 Q (E σ)) : tCallS sp E ta σ H Q := h
theorem w_xf {a C : Addr} {cls : Value} {d : Option Addr} {f : Str} {te : TE} (h : te σ H fun x H1 => x = V.ref a ∧ cls = Value.ref C ∧ ∃ dd fs v, d = some dd ∧ H1 dd = some (HO.xd fs) ∧ List.lookup f fs = some v ∧ Q v H1) : tXf a cls d C f te σ H Q := h
end
end Tw
namespace Tw
open PySem PySem.Spec PyProof.Rows L2
/-- an error that was kept: its class, its dict -/
def keO (a : Addr) (cls : Value) (d : Option Addr) : HO := .ext fun h => ∃ oe vs, h.get? a = some oe ∧ Zc cls d oe ∧ oe.data = .fields vs
section
variable {X : Cx} {pins : List (Addr × Obj)} {σ : L2.St} {H : Hp} {s : Shared} {a : Addr} {oe : Obj} {cls : Value} {d : Option Addr}
/-- a pinned error becomes a tracked one -/
theorem keep_err (I : Inv X ((a, oe) :: pins) σ H s) (z : Zc cls d oe) (hd : ∃ vs, oe.data = .fields vs) (n0 : X.s_0.heap.get? a = none) (np : ∀ p ∈ X.pn ++ pins, p.1 ≠ a) :
    Inv X pins σ (upd H a (keO a cls d)) s := by
  obtain ⟨vs, hv⟩ := hd
  obtain ⟨p1, p2, p3, p4, p5⟩ := I.pin (a, oe) (by simp)
  have sub : ∀ p ∈ X.pn ++ pins, p ∈ X.pn ++ (a, oe) :: pins := fun p hp => by
    rcases List.mem_append.mp hp with q | q
    · exact List.mem_append_left _ q
    · exact List.mem_append_right _ (List.mem_cons_of_mem _ q)
  have ne : ∀ {b u}, H b = some u → b ≠ a := fun e => ne_of_none e p2
  constructor
  case ok => exact I.ok
  case os => exact I.os
  case bare => exact I.bare
  case base =>
    have B := I.base
    constructor
    case keep => exact B.keep
    case slot => exact B.slot
    case there => exact B.there
    case free =>
      intro b o e n hx
      rw [upd_ne (fun q => by rw [q, n0] at e; cases e)]
      exact B.free b o e n hx
    case tups => intro b xs e; have q := B.tups b xs e; rw [upd_ne (ne q)]; exact q
    case frzs => intro b o u e; have q := B.frzs b o u e; rw [upd_ne (ne q)]; exact q
    case tbls => intro b ps e; obtain ⟨m, q⟩ := B.tbls b ps e; exact ⟨m, by rw [upd_ne (ne q)]; exact q⟩
  case loc => exact I.loc
  case cell => exact I.cell
  case free => rw [upd_ne (Ne.symm p3)]; exact I.free
  case freeC =>
    intro x c e
    have hc : c ≠ a := fun q => by
      obtain ⟨v, o, ho, hcell⟩ := I.cell x c e
      rw [q, p1] at ho
      cases ho
      exact p5 v hcell
    rw [upd_ne hc]
    exact I.freeC x c e
  case pin =>
    intro p hp
    obtain ⟨q1, q2, q3⟩ := I.pin p (sub p hp)
    exact ⟨q1, by rw [upd_ne (np p hp)]; exact q2, q3⟩
  case hok =>
    intro b u e
    by_cases hb : b = a
    · subst hb
      rw [upd_same] at e
      cases e
      exact ⟨⟨oe, vs, p1, z, hv⟩, ⟨oe, p1⟩, fun h1 h2 ⟨o, v, a1, a2, a3⟩ st => ⟨o, v, st _ a1, a2, a3⟩⟩
    · rw [upd_ne hb] at e
      exact (I.hok b u e).stay (fun _ _ _ q => q) (fun c q => by rw [upd_ne (ne q)]; exact q) fun c xs q => by rw [upd_ne (ne q)]; exact q
  case len => exact I.len
/-- out of the suite, the error still pinned -/
theorem unsuite_pin (I : Inv (X.suite a ((a, oe) :: (X.pn ++ pins))) [] σ H s) (ok : X.Ok) : Inv X ((a, oe) :: pins) σ H s :=
  { ok := ok, os := I.os, bare := I.bare, base := I.base, loc := I.loc, cell := I.cell, free := I.free, freeC := I.freeC, hok := I.hok, len := I.len,
    pin := fun p hp => I.pin p (by
      refine List.mem_append_left _ ?_
      rcases List.mem_append.mp hp with q | q
      · exact List.mem_cons_of_mem _ (List.mem_append_left _ q)
      · rcases List.mem_cons.mp q with q | q
        · rw [q]; exact List.mem_cons_self
        · exact List.mem_cons_of_mem _ (List.mem_append_right _ q)) }
end
/-- what a clause that keeps its error wishes of an exception of the body -/
def wKe (K : PySem.W.Frag) (c : Value) (i : Nat) (ts : Addr → Value → Option Addr → TS) (Wout : WX) (D : Ends) : WX := fun cls d σ H =>
  ∃ b, PySem.W.exmOne K cls c = some b ∧ (b = true → ∀ a, H a = none → ts a cls d { nx := fun σ' H' => D.nx (σ'.set i none) (upd H' a (keO a cls d)), rt := D.rt, bk := fun σ' H' => D.bk (σ'.set i none) H', ct := fun σ' H' => D.ct (σ'.set i none) H' } (σ.set i (some (.ref a))) H) ∧
    (b = false → Wout cls d σ H)
section
variable {X : Cx} {x n : Str} {c : Value} {i : Nat} {body suite : List Stmt} {b₀ : Stmt} {np pos pos' : Pos} {tb : WX → TS} {ts : Addr → Value → Option Addr → TS} {Wout : WX}
/-- try: body / except x as n: suite, where n's object is tracked from then on -/
theorem ps_try_keep (hs : X.stack = X.env :: X.outer) (hf : X.env.frame = some X.env.locals) (hex : X.ex = []) (hN : X.N.Nodup) (hi : X.N[i]? = some n) (hln : X.env.kindOf n = some .local) (hc : Names X x c) (tk : Takes X Wout)
    (hb : ∀ (W : WX) (pn : List (Addr × Obj)) (xe : Value → Shared → Prop), Takes (X.tr pn xe) W → PassesOwn (model X.prog X.w) X.A X.env xe → PSs (X.tr pn xe) body (tb W))
    (hsu : ∀ (a : Addr) (oe : Obj) (cls : Value) (d : Option Addr) (pn : List (Addr × Obj)), Zc cls d oe → (∃ vs, oe.data = .fields vs) → PSs (X.suite a ((a, oe) :: pn)) (b₀ :: suite) (ts a cls d)) :
    PS X (.Try body [.ExceptHandler (some (.Name x np)) (some n) (b₀ :: suite) pos'] [] [] pos) (fun D σ H => tb (wKe X.K c i ts Wout D) D σ H) := by
  constructor
  intro pins s σ H D I h
  have ok := I.ok
  have frm : X.A.frames = some (X.env :: X.outer) := ok.frames.trans (by rw [hs])
  refine wpAny_Try_except ?_
  have run := (hb (wKe X.K c i ts Wout D) (X.pn ++ pins)
    (fun e s₁ => wpAny (model X.prog X.w) X.A (noteFrame e X.env) (fun _ s₂ => wpAny (model X.prog X.w) X.A (setFlight e none) (fun _ s₃ => wpAny (model X.prog X.w) X.A (handleBy e X.env [.ExceptHandler (some (.Name x np)) (some n) (b₀ :: suite) pos']) (SP X pins D) X.xe s₃) X.xe s₂) X.xe s₁)
    (fun u s' w => ?_) PassesOwn.looking).run [] s σ H D (I.toTry _) h
  · refine wpAny_mono run (fun f s1 q => ?_) fun e s1 q => q
    cases f with
    | next => obtain ⟨σ', H', J, q⟩ := q; exact wpAny_execs_nil ⟨σ', H', J.ofTry ok, q⟩
    | ret u => obtain ⟨v, σ', H', J, r, q⟩ := q; exact ⟨v, σ', H', J.ofTry ok, r, q⟩
    | brk => obtain ⟨σ', H', J, q⟩ := q; exact ⟨σ', H', J.ofTry ok, q⟩
    | cont => obtain ⟨σ', H', J, q⟩ := q; exact ⟨σ', H', J.ofTry ok, q⟩
  · -- an exception of the body
    obtain ⟨a, B, sI, pins', σ', H', cls, d, rfl, J', nb, up, sky, na, os, ag, b, hb1, yes, no⟩ := w
    have J : Inv X pins σ' H' sI := J'.ofTry ok
    show wpAny (model X.prog X.w) X.A (noteFrame (.ref a) X.env) _ _ _
    have sky2 : Sky B (X.env :: X.outer) a (Zc cls d) X.env.locals s'.heap := hs ▸ sky
    refine Sky.land Zc.steady frm hf sky2 fun h3 fl up3 => ?_
    have J3 : Inv X pins σ' H' { s' with heap := h3 } := J.landed nb fl.1 (up.trans up3) os ag
    obtain ⟨o3, v3, ge3, ze3, fe3⟩ := fl.there
    have nfr : a ∉ frs (X.env :: X.outer) := fun hm => by
      obtain ⟨_, o', e', hnf⟩ := fl.2.2.1.mem hm
      rw [ge3] at e'
      cases e'
      exact hnf _ fe3
    have nL : a ≠ X.env.locals := fun q => nfr (List.mem_filterMap.mpr ⟨X.env, List.mem_cons_self, by rw [hf, q]⟩)
    have nF : a ∉ X.fs := fun hm => by
      obtain ⟨e, he, q⟩ := List.mem_filterMap.mp hm
      exact nfr (List.mem_filterMap.mpr ⟨e, List.mem_cons_of_mem _ he, q⟩)
    -- it is new
    have nI : sI.heap.get? a = none := by
      cases q : sI.heap.get? a with
      | none => rfl
      | some o =>
        have r := nb a o q (by rw [hs]; exact nfr)
        rw [fl.2.1] at r
        cases r
    have newA : X.s_0.heap.get? a = none := by
      cases q : X.s_0.heap.get? a with
      | none => rfl
      | some o =>
        obtain ⟨o', r⟩ := J.base.there a o q (by rw [hex]; simp)
        rw [nI] at r
        cases r
    have nP : ∀ p ∈ X.pn ++ pins, p.1 ≠ a := fun p hp q => by
      have r := (J.pin p hp).1
      rw [q, nI] at r
      cases r
    have S3 := J3.suite ge3 fe3 na nL nF
    refine wpAny_handleBy_cons (codeAny_handlers_test ?_) (by intro q; cases q)
    have LT : PySem.W.Looks (model X.prog X.w) h3 (typeOf (.ref a)) cls := fun A Q E s k q => wpAny_typeOf_ref (k _ _ ge3) (by rw [ze3.1]; exact q)
    have LM := PySem.W.exm_one (M := model X.prog X.w) (J3.kIn) LT hb1
    have named : ∀ {Q : Value → Shared → Prop} {E : Value → Shared → Prop}, Q c { s' with heap := h3 } → wpAny (model X.prog X.w) (X.A.mark (some (.ref a))) (eval (.Name x np) X.env) Q E { s' with heap := h3 } := by
      intro Q E q
      obtain ⟨hg, hdbg, hm⟩ := hc
      rcases hm with hm | ⟨hm, hv, hnn⟩
      · exact ld_glob (X := X.suite a ((a, o3) :: (X.pn ++ pins))) S3 hg hm q hdbg
      · exact ld_blt (X := X.suite a ((a, o3) :: (X.pn ++ pins))) S3 hg hm hv q hnn hdbg
    refine named (LM.here ?_)
    cases b with
    | false =>
      show wpAny _ X.A (handleBy (.ref a) X.env []) _ _ _
      refine wpAny_handleBy_nil ?_
      obtain ⟨k1, k2, k3, o5, vs, T, oT, ts', he, hz, hd, h1, hr⟩ := id fl
      unfold PySem.passOn
      refine wpAny_bind (wpAny_field he hd h1 ?_)
      rw [if_neg (show ¬ ((Value.ref T == Value.none) = true) from by simp)]
      have fin : wpAny (model X.prog X.w) X.A (setFlight (.ref a) X.env.frame) (fun _ s4 => wpAny (model X.prog X.w) X.A (throw (.ref a) : Sem Flow) (SP X pins D) X.xe s4) X.xe { s' with heap := h3 } := by
        rw [hf]
        exact HandSPX.setFlight_upZ fl fun h4 hh4 up4 => wpAny_throw (tk _ _ ⟨a, B, sI, pins, σ', H', cls, d, rfl, J, nb, (up.trans up3).trans up4, .inr (.inr (by rw [hs]; exact hh4)), na, os, ag, no rfl⟩)
      first
        | exact wpAny_bind (wpAny_pure (wpAny_bind fin))
        | exact wpAny_bind fin
    | true =>
      refine codeAny_handlers_suite_as (HandSPX.lands_againZ fl fun h4 fl4 up4 => ?_)
      have J4 : Inv X pins σ' H' { s' with heap := h4 } := J.landed nb fl4.1 ((up.trans up3).trans up4) os ag
      obtain ⟨o4, v4, ge4, ze4, fe4⟩ := fl4.there
      refine store_ok (X := X.suite a ((a, o4) :: (X.pn ++ pins))) (v := .ref a) (J4.suite ge4 fe4 na nL nF) hN hi (.inl hln) rfl (fun s5 S5 => ?_) (.inr hln)
      refine wpAny_mono ((hsu a o4 cls d (X.pn ++ pins) ze4 ⟨_, fe4⟩).run [] s5 _ H' _ S5 (yes rfl a na)) (fun f s6 q => ?_) (fun _ _ z => z.elim)
      have done : ∀ {σ6 : L2.St} {H6 : Hp} {Q : Shared → Prop}, Inv (X.suite a ((a, o4) :: (X.pn ++ pins))) [] σ6 H6 s6 → (∀ s7, Inv X ((a, o4) :: pins) (σ6.set i none) H6 s7 → Q s7) →
          wpAny (model X.prog X.w) X.A (do bindName X.env n .none; unbindBehindTheSuite X.env n pos') (fun _ s7 => Q s7) X.xe s6 := fun S6 k => gone_ok (unsuite_pin S6 ok) hN hi hln k
      have less : ∀ {σ6 : L2.St} {H6 : Hp} {s7 : Shared}, Inv X ((a, o4) :: pins) σ6 H6 s7 → Inv X pins σ6 H6 s7 := fun J7 =>
        { ok := J7.ok, os := J7.os, bare := J7.bare, base := J7.base, loc := J7.loc, cell := J7.cell, free := J7.free, freeC := J7.freeC, hok := J7.hok, len := J7.len,
          pin := fun p hp => J7.pin p (by
            rcases List.mem_append.mp hp with q | q
            · exact List.mem_append_left _ q
            · exact List.mem_append_right _ (List.mem_cons_of_mem _ q)) }
      cases f with
      | next => obtain ⟨σ6, H6, S6, q6⟩ := q; exact done S6 fun s7 J7 => ⟨_, _, keep_err J7 ze4 ⟨_, fe4⟩ newA nP, q6⟩
      | ret u => obtain ⟨v6, σ6, H6, S6, r6, q6⟩ := q; exact done S6 fun s7 J7 => ⟨_, _, _, less J7, r6, q6⟩
      | brk => obtain ⟨σ6, H6, S6, q6⟩ := q; exact done S6 fun s7 J7 => ⟨_, _, less J7, q6⟩
      | cont => obtain ⟨σ6, H6, S6, q6⟩ := q; exact done S6 fun s7 J7 => ⟨_, _, less J7, q6⟩
end
section
variable {prog : Program} {w : World} {A : Around} {E : Value → Shared → Prop} {s : Shared} {K : PySem.W.Frag} {x D : Addr} {ox : Obj} {od : Option Obj}
/-- e.__class__ of an error of an own class, with a dict of its own or without -/
theorem err_class {Q : Option Value → Shared → Prop} (C : ExcC K D) (X : K.In s.heap) (I : PySem.W.InstAt s.heap x ox D od) (h : Q (some (.ref D)) { s with toks := s.toks + 1 }) :
    wpAny (model prog w) A (getAttr? (.ref x) "__class__") Q E s := by
  have hcl : (PySem.W.clsIn K D).isSome = true := by obtain ⟨cd, hc, _⟩ := PySem.W.any_some C.hd; rw [hc]; rfl
  have found : PySem.W.findObj K D od "__class__" = some (.bind (.builtin "getset_descriptor.__get__") (.builtin "object.__class__")) := by
    obtain ⟨cd, hc⟩ := Option.isSome_iff_exists.mp hcl
    unfold PySem.W.findObj
    rw [hc, Option.bind_some, C.ha, Option.bind_some]
    simp [C.hn, C.ht]
  obtain ⟨hp, g, d, t, os⟩ := s
  have ofType := I.type (M := model prog w)
  have ofGet := PySem.W.looks_findIn (M := model prog w) X C.hg
  have ofHook := PySem.W.looks_findIn (M := model prog w) X C.hk
  have ofClass := PySem.W.looks_find (M := model prog w) X I found
  have isExc : PySem.W.Looks (model prog w) hp (isInstance (.ref x) (.type "BaseException")) true := ofType.andThen (PySem.W.looks_subIn X C.hs)
  have n1 : (Value.builtin "BaseException.__getattribute__" == Value.builtin "object.__getattribute__") = false := by decide +kernel
  have n2 : (onTheHeap (Value.ref D) && Value.builtin "BaseException.__getattribute__" == Value.builtin "object.__getattribute__") = false := by rw [n1]; rfl
  have n3 : (false && onTheHeap (Value.builtin "BaseException.__getattribute__")) = false := rfl
  unfold getAttr? getAttrBy? getAttrBy
  refine wpAny_bind (wpAny_mkText (wpAny_bind (wpAny_attempt (wpAny_holding (wpAny_bind (ofType.at (wpAny_bind (ofGet.at ?_))))))))
  show wpAny _ _ (if (onTheHeap (Value.ref D) && Value.builtin "BaseException.__getattribute__" == Value.builtin "object.__getattribute__") = true then _ else _) _ _ _
  rw [n2, if_neg Bool.false_ne_true]
  unfold getAttrByItsOwn hookBefore
  refine wpAny_bind ?_
  rw [if_pos (show onTheHeap (Value.ref D) = true from rfl)]
  refine ofHook.at (wpAny_bind (wpAny_attempt (wpAny_holding ?_)))
  unfold callGetattribute
  rw [n3, if_neg Bool.false_ne_true]
  unfold boundAndCalled
  rw [PySem.F.excAttr_ValueError.ga.bind (.ref x)]
  refine wpAny_bind (wpAny_pure ?_)
  show wpAny _ _ (call (.builtin "BaseException.__getattribute__") [.ref x, .str "__class__" t]) _ _ _
  refine wpAny_call (codeAny_call_builtin PySem.F.excAttr_ValueError.ga.plain PySem.F.entry_bexc_ga ?_)
  refine @PySem.W.check_slot (model prog w) _ _ ⟨hp, g, d, t + 1, os⟩ "BaseException.__getattribute__" "BaseException" "__getattribute__" (.ref x) [.str "__class__" t] [] _ (by decide +kernel) (by decide +kernel) isExc (PySem.F.args_bexc_ga (.ref x) (.str "__class__" t)) ?_
  unfold Builtin.«object.__getattribute__»
  refine wpAny_bind (wpAny_of_eq (a := ((Value.ref x : Value), [Value.str "__class__" t])) (by first | rfl | (simp only [slotArgs]; rfl)) ?_)
  refine wpAny_bind (wpAny_pure (wpAny_bind (ofType.at (wpAny_bind (ofClass.at ?_)))))
  show wpAny _ _ (holding [Value.builtin "object.__class__"] (call (.builtin "getset_descriptor.__get__") [.builtin "object.__class__", .ref x, .ref D]) >>= ret) _ _ _
  refine wpAny_bind (wpAny_holding (wpAny_call (PySem.W.class_get (s := ⟨hp, g, d, t + 1, os⟩) (ox := ox) (od := od) X I C.hm ?_)))
  refine wpAny_pure ?_
  show wpAny _ _ (handedOut (.ref D)) _ _ _
  rw [PySem.W.handedOut_of (v := .ref D) rfl]
  first
    | exact wpAny_pure (wpAny_pure h)
    | exact wpAny_pure h
    | exact wpAny_pure (wpAny_bind (wpAny_pure (wpAny_pure h)))
theorem err_kit (C : ExcC K D) : PySem.W.KitX K (.ref x) (.ref D) (fun h => ∃ ox od, PySem.W.InstAt h x ox D od) := by
  have cls : ∃ c' d' cd' sl', K.lookup D = some ⟨c', d', .cls cd', sl'⟩ := by
    obtain ⟨cd, hc, _⟩ := PySem.W.any_some C.hd
    unfold PySem.W.clsIn at hc
    split at hc
    · rename_i c' d' cd' sl' ho; exact ⟨c', d', cd', sl', ho⟩
    · cases hc
  obtain ⟨c', d', cd', sl', ho⟩ := cls
  constructor
  case ty => intro M h X ⟨ox, od, I⟩; exact I.type
  case it =>
    intro M h X _ A' Q' E' s' k q
    unfold isType loadHead
    exact wpAny_bind (wpAny_loadPart (k _ _ (X _ _ ho)) (wpAny_pure q))
  case ne =>
    intro h tp dd its n sl X htp
    refine Bool.eq_false_iff.mpr fun q => ?_
    have e : D = tp := Value.ref.inj (beq_iff_eq.mp q)
    subst e
    have r := (X _ _ ho).symm.trans htp
    cases r
  case ca => intro prog w A E Q s X ⟨ox, od, I⟩ k; exact err_class C X I k
end
/-- the dict of a kept error is known -/
def dictAt (H : Hp) (d : Option Addr) : Prop := ∀ dd, d = some dd → ∃ fs, H dd = some (.xd fs)
/-- isinstance(e, c), e a kept error -/
def rIsK (K : PySem.W.Frag) : List V → Hp → VK → Prop := fun xs H Q => ∃ (a D : Addr) (c : V) (cv : Value) (d : Option Addr) (b : Bool), xs = [.ref a, c] ∧ H a = some (keO a (.ref D) d) ∧ dictAt H d ∧ ExcC K D ∧ (∀ u, RelV c u → u = cv) ∧ PySem.W.kitOne K (.ref D) cv = some b ∧ Q (.bl b) H
theorem kept_get {P : Program} {w : World} {H : Hp} {h : Heap} {a D : Addr} {d : Option Addr} (ok : HOk P w H h) (ea : H a = some (keO a (.ref D) d)) (hd : dictAt H d) : ∃ ox od, PySem.W.InstAt h a ox D od ∧ ∀ dd fs, d = some dd → H dd = some (.xd fs) → ∃ o mA, od = some o ∧ h.Ns1 dd mA ∧ h.get? dd = some o ∧ ∀ f, RelO (fs.lookup f) (mA f) := by
  obtain ⟨⟨oe, vs, g, z, fe⟩, _⟩ := ok a _ ea
  have no : PySem.W.notCls oe = true := by unfold PySem.W.notCls; rw [fe]
  cases d with
  | none => exact ⟨oe, none, ⟨g, z.1, no, by rw [z.2]; trivial⟩, fun dd fs e => by cases e⟩
  | some dd =>
    obtain ⟨fs, e⟩ := hd dd rfl
    obtain ⟨mA, hns, hr⟩ := ok dd _ e
    obtain ⟨o, ho, hl⟩ := lookIn_ns hns
    refine ⟨oe, some o, ⟨g, z.1, no, by rw [z.2]; exact ho⟩, fun d2 f2 e2 q => ?_⟩
    cases e2
    rw [e] at q
    cases q
    exact ⟨o, mA, rfl, hns, ho, hr⟩
theorem cl_isK {X : Cx} {K : PySem.W.Frag} (hk : X.K = K := by rfl) : CallR X (.builtin "isinstance") (rIsK K) := by
  subst hk
  intro pins s σ H xs us Q I r h
  obtain ⟨a, D, c, cv, d, b, rfl, ea, hd, C, hcv, e, q⟩ := h
  cases r with
  | cons rx rr =>
    cases rr with
    | cons rt rr =>
      cases rr
      cases rx
      have ec := hcv _ rt
      subst ec
      obtain ⟨ox, od, J, _⟩ := kept_get I.hok ea hd
      exact PySem.W.kia_one (err_kit C) I.kIn ⟨ox, od, J⟩ e (fun z => nomatch z) fun tk => ⟨.bl b, H, I.kept (t' := tk) fun _ _ z => z, rfl, q⟩
/-- e.f of a kept error -/
def tKf (K : PySem.W.Frag) (f : Str) (te : TE) : TE := fun σ H Q => te σ H fun x H1 => ∃ (a D dd : Addr) (fs : List (Str × V)) (v : V), x = .ref a ∧ H1 a = some (keO a (.ref D) (some dd)) ∧ H1 dd = some (.xd fs) ∧ XfC K D ∧ PySem.W.findIn K (.ref D) f = some none ∧ fs.lookup f = some v ∧ Q v H1
theorem pe_kf {X : Cx} {K : PySem.W.Frag} {e : Expr} {te : TE} {pos : Pos} {n : Str} (he : PE X e te) (hk : X.K = K := by rfl) (hb : attributeBase e n X.env (eval e X.env) = eval e X.env := by rfl) : PE X (.Attribute e n pos) (tKf K n te) := by
  subst hk
  refine ⟨fun pins s σ H Q I h => ?_⟩
  refine attr_of hb (thn (he.run pins s σ H _ I h) fun u s1 hh => ?_)
  obtain ⟨x, H1, I1, rx, a, D, dd, fs, v, rfl, ea, ed, T, hno, l, q⟩ := hh
  obtain rfl : u = Value.ref a := rx
  obtain ⟨ox, od, J, r⟩ := kept_get I1.hok ea (fun d2 e2 => ⟨fs, by cases e2; exact ed⟩)
  obtain ⟨o, mA, rfl, hns, ho, hr⟩ := r dd fs rfl ed
  obtain ⟨o2, ho2, hl⟩ := lookIn_ns hns
  rw [ho] at ho2
  cases ho2
  obtain ⟨u, hu, ru⟩ := RelO.some_of (v := v) (o := mA n) (by rw [← l]; exact hr n)
  exact HandSPX.exc_get I1.kIn J T.ga T.gg T.exC (PySem.W.findObj_own T.hdC hno rfl (by rw [hl, hu])) (handed_of ru) ⟨v, H1, I1.tok _, ru, q⟩
/-- isinstance(e, c) and isinstance(e, (c1, c2)) of the error that a suite holds -/
def isWhat (K : PySem.W.Frag) (D : Addr) (c : V) (H : Hp) (b : Bool) : Prop :=
  (∃ cv : Value, (∀ u, RelV c u → u = cv) ∧ PySem.W.kitOne K (.ref D) cv = some b) ∨ ∃ (p : Addr) (C1 C2 : Addr) (b1 b2 : Bool), c = .ref p ∧ H p = some (.tup [.ref C1, .ref C2]) ∧ PySem.W.kitOne K (.ref D) (.ref C1) = some b1 ∧ PySem.W.kitOne K (.ref D) (.ref C2) = some b2 ∧ b = (b1 || b2)
theorem isWhat_run {P : Program} {w : World} {K : PySem.W.Frag} {H : Hp} {s : Shared} {a D : Addr} {c : V} {cv : Value} {b : Bool} {A : Around} {Q : Value → Shared → Prop} {E : Value → Shared → Prop} (C : ExcC K D) (kin : K.In s.heap) (ok : HOk P w H s.heap) (J : ∃ ox od, PySem.W.InstAt s.heap a ox D od)
    (r : RelV c cv) (h : isWhat K D c H b) (q : ∀ tk, Q (.bool b) { s with toks := tk }) : wpAny (model P w) A (call (.builtin "isinstance") [.ref a, cv]) Q E s := by
  rcases h with ⟨u, hu, e⟩ | ⟨p, C1, C2, b1, b2, rfl, hp, e1, e2, rfl⟩
  · have e0 := hu _ r
    subst e0
    exact PySem.W.kia_one (err_kit C) kin J e (fun z => nomatch z) q
  · obtain rfl : cv = Value.ref p := r
    obtain ⟨_, its, rv, ob, ho, hc, hd⟩ := ok p _ hp
    cases rv with
    | cons r1 rr =>
      cases rr with
      | cons r2 rr =>
        cases rr
        cases r1
        cases r2
        obtain ⟨c0, d0, da, sl⟩ := ob
        obtain ⟨n, hd⟩ := hd
        dsimp only at hc hd
        subst hc hd
        refine PySem.W.kia_tup (err_kit C) kin J ho (b := (b1 || b2)) ?_ (fun z => nomatch z) q
        unfold PySem.W.kitAny
        rw [e1]
        cases b1 with
        | true => rfl
        | false =>
          show PySem.W.kitAny K (.ref D) [.ref C2] = _
          unfold PySem.W.kitAny
          rw [e2]
          cases b2 <;> rfl
def rIsS (K : PySem.W.Frag) (cls : Value) (d : Option Addr) (a : Addr) : List V → Hp → VK → Prop := fun xs H Q => ∃ (D : Addr) (c : V) (b : Bool), cls = .ref D ∧ dictAt H d ∧ ExcC K D ∧ xs = [.ref a, c] ∧ isWhat K D c H b ∧ Q (.bl b) H
theorem cl_isS {X : Cx} {K : PySem.W.Frag} {a : Addr} {oe : Obj} {pn : List (Addr × Obj)} {cls : Value} {d : Option Addr} (hz : Zc cls d oe) (hf : ∃ vs, oe.data = .fields vs) (hk : X.K = K := by rfl) : CallR (X.suite a ((a, oe) :: pn)) (.builtin "isinstance") (rIsS K cls d a) := by
  subst hk
  intro pins s σ H xs us Q I r h
  obtain ⟨D, c, b, rfl, hd, C, rfl, hw, q⟩ := h
  cases r with
  | cons rx rr =>
    cases rr with
    | cons rt rr =>
      cases rr
      cases rx
      obtain ⟨hget, _⟩ := I.pin (a, oe) (List.mem_append.mpr (.inl List.mem_cons_self))
      obtain ⟨vs, hv⟩ := hf
      have no : PySem.W.notCls oe = true := by unfold PySem.W.notCls; rw [hv]
      have J : ∃ ox od, PySem.W.InstAt s.heap a ox D od := by
        cases d with
        | none => exact ⟨oe, none, hget, hz.1, no, by rw [hz.2]; trivial⟩
        | some dd =>
          obtain ⟨fs, e⟩ := hd dd rfl
          obtain ⟨mA, hns, hr⟩ := I.hok dd _ e
          obtain ⟨o, ho, hl⟩ := lookIn_ns hns
          exact ⟨oe, some o, hget, hz.1, no, by rw [hz.2]; exact ho⟩
      exact isWhat_run C I.kIn I.hok J rt hw fun tk => ⟨.bl b, H, I.kept (t' := tk) fun _ _ z => z, rfl, q⟩
/-- a class of the text as a value -/
theorem pe_cls {X : Cx} {x : Str} {pos : Pos} {a : Addr} (hg : Gl X x) (hm : X.mg x = some (.ref a)) (hd : (x == ("__debug__" : Str)) = false := by decide) : PE X (.Name x pos) (tC (.ref a)) := pe_glob hg hm rfl hd
theorem isWhat_one {K : PySem.W.Frag} {D C : Addr} {H : Hp} {b : Bool} (e : PySem.W.kitOne K (.ref D) (.ref C) = some b) : isWhat K D (.ref C) H b := .inl ⟨.ref C, fun u r => r, e⟩
theorem isWhat_ty {K : PySem.W.Frag} {D : Addr} {n : String} {H : Hp} {b : Bool} (e : PySem.W.kitOne K (.ref D) (.type n) = some b) : isWhat K D (.ty n) H b := .inl ⟨.type n, fun u r => r, e⟩
theorem isWhat_two {K : PySem.W.Frag} {D C1 C2 p : Addr} {H : Hp} {b1 b2 : Bool} (hp : H p = some (.tup [.ref C1, .ref C2])) (e1 : PySem.W.kitOne K (.ref D) (.ref C1) = some b1) (e2 : PySem.W.kitOne K (.ref D) (.ref C2) = some b2) : isWhat K D (.ref p) H (b1 || b2) :=
  .inr ⟨p, C1, C2, b1, b2, rfl, hp, e1, e2, rfl⟩
theorem kit_of {K : PySem.W.Frag} {D C : Addr} {b : Bool} (hc : PySem.W.isClsIn K C = true) (ht : PySem.W.typeIn K (.ref C) = some (.type "type")) (hs : PySem.W.subIn K (.ref D) (.ref C) = some b) (hr : D = C → b = true) : PySem.W.kitOne K (.ref D) (.ref C) = some b := by
  unfold PySem.W.kitOne
  by_cases e : D = C
  · subst e
    rw [if_pos (by simp), hr rfl]
  · rw [if_neg (fun z => e (Value.ref.inj (beq_iff_eq.mp z)))]
    have hc' : (PySem.W.clsIn K C).isSome = true := hc
    unfold PySem.W.kitCls
    dsimp only
    rw [if_pos (by rw [hc', ht] <;> rfl)]
    exact hs
theorem kit_ty {K : PySem.W.Frag} {D : Addr} {n : String} {b : Bool} (hm : PySem.W.kitMeta n = true) (hs : PySem.W.subIn K (.ref D) (.type n) = some b) : PySem.W.kitOne K (.ref D) (.type n) = some b := by
  unfold PySem.W.kitOne
  rw [if_neg (fun z => by have := beq_iff_eq.mp z; cases this)]
  unfold PySem.W.kitCls
  dsimp only
  rw [if_pos hm]
  exact hs
def rKf (K : PySem.W.Frag) (f : Str) (x : V) (H1 : Hp) (Q : VK) : Prop := ∃ (a D dd : Addr) (fs : List (Str × V)) (v : V), x = .ref a ∧ H1 a = some (keO a (.ref D) (some dd)) ∧ H1 dd = some (.xd fs) ∧ XfC K D ∧ PySem.W.findIn K (.ref D) f = some none ∧ fs.lookup f = some v ∧ Q v H1
theorem w_kf {K : PySem.W.Frag} {σ : L2.St} {H : Hp} {Q : VK} {f : Str} {te : TE} (h : te σ H fun x H1 => rKf K f x H1 Q) : tKf K f te σ H Q := h
/-- an error that was just kept -/
theorem kept_new {H : Hp} {e D d : Addr} {fs : List (Str × V)} (he : H e = none) (hd : H d = some (.xd fs)) : let H2 := upd H e (keO e (.ref D) (some d)); H2 e = some (keO e (.ref D) (some d)) ∧ Same H H2 ∧ H2 d = some (.xd fs) ∧ dictAt H2 (some d) := by
  have e2 : Same H (upd H e (keO e (.ref D) (some d))) := same_new he
  exact ⟨upd_same, e2, e2 _ _ hd, fun dd z => by cases z; exact ⟨_, e2 _ _ hd⟩⟩
theorem kept_new0 {H : Hp} {e D : Addr} (he : H e = none) : let H2 := upd H e (keO e (.ref D) none); H2 e = some (keO e (.ref D) none) ∧ Same H H2 ∧ dictAt H2 none := ⟨upd_same, same_new he, fun dd z => nomatch z⟩
end Tw
namespace Tw
open PySem PySem.Spec PyProof.Rows L2 LamX
/-! ### heaps: all but dicts and tables stays -/
def KeepN (H H' : Hp) : Prop := ∀ b o, (∀ kvs, o ≠ .dK kvs) → (∀ ps, o ≠ .tbl ps) → H b = some o → H' b = some o
theorem KeepN.refl (H : Hp) : KeepN H H := fun _ _ _ _ h => h
theorem KeepN.trans {H H1 H2 : Hp} (a : KeepN H H1) (b : KeepN H1 H2) : KeepN H H2 := fun c o n m h => b c o n m (a c o n m h)
theorem KeepN.of {H H' : Hp} (e : Keep H H') : KeepN H H' := fun b o n _ h => e b o n h
theorem KeepN.ofS {H H' : Hp} (e : Same H H') : KeepN H H' := fun b o _ _ h => e b o h
theorem KeepN.ofE {H H' : Hp} (e : ExtN H H') : KeepN H H' := fun b o _ m h => e b o h m
theorem KeepN.rd {H H' : Hp} {a : Addr} {u : HO} (e : KeepN H H') (n : ∀ kvs, u ≠ .dK kvs) (m : ∀ ps, u ≠ .tbl ps) (h : Rd H a u) : Rd H' a u := by
  rcases h with h | ⟨o, h⟩
  · exact .inl (e a _ n m h)
  · exact .inr ⟨o, e a _ (fun kvs z => nomatch z) (fun ps z => nomatch z) h⟩
theorem KeepN.seqL {K : PySem.W.Frag} {H H' : Hp} {a : Addr} {xs : List V} (e : KeepN H H') (h : SqL K H a xs) : SqL K H' a xs := by
  rcases h with h | h
  · exact .inl (e.rd (fun _ z => nomatch z) (fun _ z => nomatch z) h)
  · exact .inr h
theorem KeepN.seqT {K : PySem.W.Frag} {H H' : Hp} {a : Addr} {xs : List V} (e : KeepN H H') (h : SqT K H a xs) : SqT K H' a xs := by
  rcases h with h | h
  · exact .inl (e.rd (fun _ z => nomatch z) (fun _ z => nomatch z) h)
  · exact .inr h
mutual
theorem Dpn {K : PySem.W.Frag} {H H' : Hp} (e : KeepN H H') : ∀ (d : PyData) (v : V), Dp K H v d → Dp K H' v d
  | .none, _, h => by cases h; exact .non
  | .bool b, _, h => by cases h; exact .bl b
  | .int i, _, h => by cases h; exact .int i
  | .str x, _, h => by cases h; exact .str x
  | .list ds, _, h => by
    cases h with
    | lst hs ha => exact .lst (e.seqL hs) (DpnAll e ds _ ha)
  | .tuple ds, _, h => by
    cases h with
    | tup hs ha => exact .tup (e.seqT hs) (DpnAll e ds _ ha)
  | .dict _, _, h => by cases h
theorem DpnAll {K : PySem.W.Frag} {H H' : Hp} (e : KeepN H H') : ∀ (ds : List PyData) (vs : List V), DpAll K H vs ds → DpAll K H' vs ds
  | [], _, h => by cases h; exact .nil
  | d :: ds, _, h => by
    cases h with
    | cons h1 h2 => exact .cons (Dpn e d _ h1) (DpnAll e ds _ h2)
end
theorem dp_keepN {K : PySem.W.Frag} {H H' : Hp} {v : V} {d : PyData} (e : KeepN H H') (h : Dp K H v d) : Dp K H' v d := Dpn e d v h
theorem Mo.extN {H H' : Hp} {m c : Addr} {a : Nat} (e : ExtN H H') (h : Mo H m c a) : Mo H' m c a := by
  obtain ⟨left, seed, spot, ns, h1, h2, h⟩ := h
  exact ⟨left, seed, spot, ns, e _ _ h1 (fun _ z => nomatch z), e _ _ h2 (fun _ z => nomatch z), h⟩
theorem tabs_keep {T : List (Addr × Str)} {H H' : Hp} (t : Tabs T H) (e : Keep H H') : Tabs T H' := fun p hp => by
  obtain ⟨ps, h1, h2, h3⟩ := t p hp
  refine ⟨ps, e _ _ (fun _ z => nomatch z) h1, h2, fun pos cv hc => ?_⟩
  obtain ⟨c, e1, e2⟩ := h3 pos cv hc
  exact ⟨c, e1, e _ _ (fun kvs z => by unfold CodeO at z; cases z) e2⟩
theorem tabs_same {T : List (Addr × Str)} {H H' : Hp} (t : Tabs T H) (e : Same H H') : Tabs T H' := t.ext e
/-! ### the call within the try -/
theorem takes_len {X : Cx} {W : WX} (tk : Takes X W) : Takes X (fun cls d σ H => σ.length = X.N.length → W cls d σ H) := fun u s' x => by
  obtain ⟨a, B, sI, pins, σ, H, cls, d, e, I, nb, up, sky, na, os, ag, w⟩ := x
  exact tk u s' ⟨a, B, sI, pins, σ, H, cls, d, e, I, nb, up, sky, na, os, ag, w I.len⟩
/-- the reading of a() where a is the lambda that was handed: f its object, tl its own reading, n the slots of the def -/
def tGot (f c' : Addr) (q : Str) (n : Nat) (tl : XK → Hp → VK → Prop) (W : WX) : TE := fun σ H Q =>
  ∃ Ech : XK, (∀ cls d σ' H', σ'.length = n → Ech cls d H' → W cls d σ' H') ∧ σ[0]? = some (some (.ref f)) ∧ H c' = some (CodeO c' q) ∧ tl Ech H Q
theorem pe_got {Z : Cx} {a q : Str} {f c' : Addr} {n : Nat} {tl : XK → Hp → VK → Prop} {W : WX} {pn : List (Addr × Obj)} {xe : Value → Shared → Prop} {p1 p2 : Pos}
    (act : ∀ (W : WX) (pn : List (Addr × Obj)) (xe : Value → Shared → Prop) (E : XK) (p1 p2 : Pos), Takes (Z.tr pn xe) W → (∀ cls d σ' H', E cls d H' → W cls d σ' H') → PE (Z.tr pn xe) (.Call (.Name a p1) [] [] p2) (fun σZ HZ Q => σZ[0]? = some (some (.ref f)) ∧ HZ c' = some (CodeO c' q) ∧ tl E HZ Q))
    (tk : Takes (Z.tr pn xe) W) (hn : Z.N.length = n := by rfl) : PE (Z.tr pn xe) (.Call (.Name a p1) [] [] p2) (tGot f c' q n tl W) := by
  refine ⟨fun pins s σ H Q I h => ?_⟩
  obtain ⟨Ech, hW, h1, h2, h3⟩ := h
  exact (act (fun cls d σ' H' => σ'.length = n → W cls d σ' H') pn xe Ech p1 p2 (by subst hn; exact takes_len tk) (fun cls d σ' H' e hl => hW cls d σ' H' hl e)).run pins s σ H Q I ⟨h1, h2, h3⟩
def rGot (f c' : Addr) (q : Str) (n : Nat) (tl : XK → Hp → VK → Prop) (W : WX) (σ : L2.St) (H : Hp) (Q : VK) : Prop := tGot f c' q n tl W σ H Q
/-- the def's code object is known: its body as a term of rules -/
theorem okC {P : Program} {w : World} {K : PySem.W.Frag} {mg : Str → Option Value} {base : Heap} {x qual : Str} {st : Stmt} {f c : Addr} {fd : FuncData} {N ps : List Str} {k : Nat} {sp : Sp} (F : Fun K x qual st f fd) (hc : fd.code = .ref c) (S : FnScope N ps (defScope st)) (len : ∀ vs H Q E, sp vs H Q E → vs.length = ps.length)
    (hbody : ∀ (A : Around) (outer : List Env) (s : Shared) (H : Hp) (vs : List V) (Q : VK) (E : XK), Room k (A.deeper (envOfC qual (defScope st) s.heap.objs.size f (.ref c))) → sp vs H Q E →
      ∃ t, PSs (cxOf CX0 P w K mg base N qual (defScope st) f (.ref c) A outer s H E).nox (defBody st) t ∧ t { nx := fun _ H' => Q .non H', rt := Q } (L2.start N vs) H) : FnOk P w K mg base CX0 (k + 1) f fd ps sp := by
  obtain ⟨oc, od, kV, doc, pm, an, cdv, ct, osl, rfl, lk, hcd⟩ := F.ex
  obtain rfl : cdv = .ref c := hc
  refine fn_of lk hcd S len fun A outer s H vs Q E hr hsp => ?_
  obtain ⟨t, h, q⟩ := hbody A outer s H vs Q E hr hsp
  exact ⟨t, h.nox, q⟩
section
variable {X : Cx}
/-- g(lambda: body), the table of code objects at P -/
theorem pe_lam {TT : (XK → Hp → VK → Prop) → Hp → VK → Prop} {x a : Str} {g c P : Addr} {k : Nat} {st : Stmt} {fd : FuncData} {Ng : List Str} {params : Arguments} {body : Expr} {scope : Scope} {t : XK → TE} {p lpos pos : Pos} (hg : Gl X x) (hm : X.mg x = some (.ref g)) (F : Fun X.K x x st g fd)
    (hb : Binds X.K fd [a] []) (Sg : FnScope Ng [a] (defScope st)) (hNg : Ng[0]? = some a) (hva : Vis (defScope st) a) (hG : ∀ cdg, GivesTo X Ng x (defScope st) g cdg (defBody st) a (X.env.qual ++ "<lambda>") TT) (TB : TabB X.base X.mg c P) (hcode : X.env.code = .ref c) (hr : Room (k + 2) X.A)
    (L : LamS X.env.scope scope) (hdef : defaultsOf params X.env = ([], [])) (hbind : ∀ (q : Str) (cl : List (Str × Addr)) (pm cv ctv : Value), bindArgs (PySem.W.kla_fn "<lambda>" q params body scope cl pm cv ctv) ⟨[], []⟩ = pure [])
    (hbody : ∀ (A : Around) (outer : List Env) (s : Shared) (H : Hp) (E : XK) (f c' : Addr), Room k (A.deeper (lamEnv X scope s.heap.objs.size f c')) → PE (lamCx X A outer s H E scope f c') body (t E))
    (hdb : (x == ("__debug__" : Str)) = false := by decide) (hd : (a == ("__debug__" : Str)) = false := by decide) (hcd : (a == ("__classdict__" : Str)) = false := by decide) :
    PE X (.Call (.Name x p) [.Lambda params body scope lpos] [] pos) (tLam [(P, X.env.qual ++ "<lambda>")] TT t) := by
  obtain ⟨oc, od, kV, doc, pm, an, cdv, ct, osl, rfl, lk, hcg⟩ := F.ex
  exact pe_lamcall hg hm F.kp lk hcg hb Sg hNg hva (hG _) TB hcode (List.mem_singleton.mpr rfl) (fun p hp hq => by rw [List.mem_singleton.mp hp]) hr L hdef hbind hbody hdb hd hcd
end
section
variable {K : PySem.W.Frag} {σ : L2.St} {H : Hp} {Q : VK} {D : Ends} {x : V} {g : TG} {tb : TS} {ds : List PyData}
theorem w_lam {T : List (Addr × Str)} {TT : (XK → Hp → VK → Prop) → Hp → VK → Prop} {t : XK → TE} (hT : Tabs T H) (h : ∀ H1, ExtN H H1 → Tabs T H1 → TT (fun E H' Q' => t E σ H' Q') H1 Q) : tLam T TT t σ H Q := ⟨hT, h⟩
/-- a list walked, tables and dicts may change -/
theorem forL_byN (Pv : Nat → L2.St → Hp → Prop) (src : Dp K H x (.list ds)) (h0 : Pv 0 σ H) (hk : ∀ i σ' H', i ≤ ds.length → Pv i σ' H' → KeepN H H')
    (hs : ∀ i d y σ' H', ds[i]? = some d → Dp K H' y d → Pv i σ' H' → g y σ' H' fun σ2 H2 => tb { D with nx := Pv (i + 1), ct := Pv (i + 1), bk := D.nx } σ2 H2) (hd : ∀ σ' H', Pv ds.length σ' H' → D.nx σ' H') : rForL K g tb D σ x H := by
  obtain ⟨a, xs, rfl, hq, ha⟩ := dp_lst src
  have hl := dpa_len ha
  refine ⟨a, rfl, ⟨xs, hq⟩, for_list (xs := xs) Pv h0 (fun i σ' H' hi p => (hk i σ' H' (by omega) p).seqL hq) (fun i y σ' H' hi p => ?_) (fun σ' H' p => hd σ' H' (by rw [← hl]; exact p))⟩
  obtain ⟨d, e1, e2⟩ := dpa_get2 ha hi
  exact hs i d y σ' H' e1 (dp_keepN (hk i σ' H' (by have := (List.getElem?_eq_some_iff.mp e1).1; omega) p) e2) p
end
theorem KeepN.mut {H H1 H2 : Hp} {p : Addr} {o : HO} (e : KeepN H H1) (n : H1 p = none) (e2 : KeepN H1 H2) : KeepN H (upd H2 p o) := fun b u a1 a2 h => by
  have h1 := e b u a1 a2 h
  rw [upd_ne (ne_of_none h1 n)]
  exact e2 b u a1 a2 h1
end Tw
namespace Tw
open PySem PySem.Spec PyProof.Rows L2
def rInT (K : PySem.W.Frag) : R2 := fun x y H Q => ∃ d ds, Dp K H x d ∧ Dp K H y (.tuple ds) ∧ SeqAt.shaped d = true ∧ SeqAt.shaped (.tuple ds) = true ∧ Q (.bl (ds.any fun z => PyData.eqv z d)) H
def rNotInT (K : PySem.W.Frag) : R2 := fun x y H Q => ∃ d ds, Dp K H x d ∧ Dp K H y (.tuple ds) ∧ SeqAt.shaped d = true ∧ SeqAt.shaped (.tuple ds) = true ∧ Q (.bl (!(ds.any fun z => PyData.eqv z d))) H
theorem op_inT {X : Cx} {K : PySem.W.Frag} (hu : X.A.units + 65 < cLine) (hK : X.K = K := by rfl) : OpR X (compareOp .In) (rInT K) := by
  subst hK
  intro pins s σ H x y v u Q I rx ry h
  obtain ⟨d, ds, h1, h2, h3, h4, q⟩ := h
  obtain ⟨as, r1⟩ := L2.Dp.reads I d x v h1 rx
  obtain ⟨bs, r2⟩ := L2.Dp.reads I _ y u h2 ry
  refine SeqAt.in_tuple_reads r2 r1 (SeqAt.canLay_of_shaped h4) (SeqAt.canLay_of_shaped h3) (room_in_shaped h3 hu) ?_
  exact ⟨.bl _, H, I, rfl, q⟩
theorem op_notInT {X : Cx} {K : PySem.W.Frag} (hu : X.A.units + 65 < cLine) (hK : X.K = K := by rfl) : OpR X (compareOp .NotIn) (rNotInT K) := by
  subst hK
  intro pins s σ H x y v u Q I rx ry h
  obtain ⟨d, ds, h1, h2, h3, h4, q⟩ := h
  obtain ⟨as, r1⟩ := L2.Dp.reads I d x v h1 rx
  obtain ⟨bs, r2⟩ := L2.Dp.reads I _ y u h2 ry
  refine SeqAt.notIn_tuple_reads r2 r1 (SeqAt.canLay_of_shaped h4) (SeqAt.canLay_of_shaped h3) (room_in_shaped h3 hu) ?_
  exact ⟨.bl _, H, I, rfl, q⟩
section
variable {K : PySem.W.Frag} {H : Hp} {Q : VK} {x y : V} {d : PyData} {ds : List PyData}
/-- x in y, y a tuple of data without bools -/
theorem w_inT (h1 : Dp K H x d) (h2 : Dp K H y (.tuple ds)) (p1 : pln 8 d = true) (p2 : pln 9 (.tuple ds) = true) (q1 : d ∈ ds → Q (.bl true) H) (q2 : d ∉ ds → Q (.bl false) H) : rInT K x y H Q := by
  have hs : ∀ z ∈ ds, pln 8 z = true := List.all_eq_true.mp p2
  have e := any_eqv p1 hs
  refine ⟨d, ds, h1, h2, pln_shaped p1 (by decide), pln_shaped p2 (by decide), ?_⟩
  cases hc : ds.any fun z => PyData.eqv z d with
  | true => exact q1 (e.mp hc)
  | false => exact q2 fun z => by rw [e.mpr z] at hc; cases hc
theorem w_notInT (h1 : Dp K H x d) (h2 : Dp K H y (.tuple ds)) (p1 : pln 8 d = true) (p2 : pln 9 (.tuple ds) = true) (q1 : d ∈ ds → Q (.bl false) H) (q2 : d ∉ ds → Q (.bl true) H) : rNotInT K x y H Q := by
  have hs : ∀ z ∈ ds, pln 8 z = true := List.all_eq_true.mp p2
  have e := any_eqv p1 hs
  refine ⟨d, ds, h1, h2, pln_shaped p1 (by decide), pln_shaped p2 (by decide), ?_⟩
  cases hc : ds.any fun z => PyData.eqv z d with
  | true => exact q1 (e.mp hc)
  | false => exact q2 fun z => by rw [e.mpr z] at hc; cases hc
end
end Tw
namespace Tw
open PySem PySem.Spec PyProof.Rows L2
/-! ### more rules: any, all, two fors in a comprehension -/
section
variable {X : Cx} {K : PySem.W.Frag}
def rAnyK (K : PySem.W.Frag) : List V → Hp → VK → Prop := fun vs H Q => ∃ a, ∃ bs : List Bool, vs = [.ref a] ∧ SqL K H a (bs.map V.bl) ∧ Q (.bl (bs.any id)) H
theorem cl_any (hc : X.calm = true) (h : X.K = K := by rfl) : CallR X (.builtin "any") (rAnyK K) := h ▸ cr_any hc
def rAllK (K : PySem.W.Frag) : List V → Hp → VK → Prop := fun vs H Q => ∃ a, ∃ bs : List Bool, vs = [.ref a] ∧ SqL K H a (bs.map V.bl) ∧ Q (.bl (bs.all id)) H
theorem cl_all (hc : X.calm = true) (h : X.K = K := by rfl) : CallR X (.builtin "all") (rAllK K) := h ▸ cr_all hc
def rSumK (K : PySem.W.Frag) : List V → Hp → VK → Prop := fun vs H Q => ∃ a, ∃ ns : List Int, vs = [.ref a] ∧ SqL K H a (ns.map V.int) ∧ Q (.int ns.sum) H
theorem cl_sum (hc : X.calm = true) (h : X.K = K := by rfl) : CallR X (.builtin "sum") (rSumK K) := h ▸ cr_sum hc
end
section
variable {K : PySem.W.Frag} {σ : L2.St} {H H1 : Hp} {Q : VK} {x v : V} {ds : List PyData} {j j1 : Nat} {vs vs1 : List Nat} {tl ts te : TE}
theorem dpa_bools : ∀ (ns : List Bool), DpAll K H (ns.map V.bl) (ns.map PyData.bool)
  | [] => .nil
  | n :: ns => .cons (.bl n) (dpa_bools ns)
theorem dpa_bools_inv : ∀ {vs : List V} {ns : List Bool}, DpAll K H vs (ns.map PyData.bool) → vs = ns.map V.bl
  | _, [], h => by cases h; rfl
  | _, n :: ns, h => by
    cases h with
    | cons h1 h2 => cases h1; rw [dpa_bools_inv h2]; rfl
theorem w_any {bs : List Bool} (h : Dp K H v (.list (bs.map PyData.bool))) (q : Q (.bl (bs.any id)) H) : rAnyK K [v] H Q := by
  obtain ⟨a, xs, rfl, hs, ha⟩ := dp_lst h
  rw [dpa_bools_inv ha] at hs
  exact ⟨a, bs, rfl, hs, q⟩
theorem w_all {bs : List Bool} (h : Dp K H v (.list (bs.map PyData.bool))) (q : Q (.bl (bs.all id)) H) : rAllK K [v] H Q := by
  obtain ⟨a, xs, rfl, hs, ha⟩ := dp_lst h
  rw [dpa_bools_inv ha] at hs
  exact ⟨a, bs, rfl, hs, q⟩
theorem w_sum {ns : List Int} (h : Dp K H v (.list (ns.map PyData.int))) (q : Q (.int ns.sum) H) : rSumK K [v] H Q := by
  obtain ⟨a, xs, rfl, hs, ha⟩ := dp_lst h
  rw [dpa_ints_inv ha] at hs
  exact ⟨a, ns, rfl, hs, q⟩
/-- [e for x in a list for c in a text] -/
def rLc2 (K : PySem.W.Frag) (j j1 : Nat) (ts te : TE) (vs vs1 : List Nat) (σ : L2.St) (x : V) (H1 : Hp) (Q : VK) : Prop :=
  tLc2 (iList K (tC x)) (gName j) tYes (iStr ts) (gName j1) tYes te vs vs1 σ H1 Q
theorem w_lc2 (h : tl σ H fun x H1 => rLc2 K j j1 ts te vs vs1 σ x H1 Q) : tLc2 (iList K tl) (gName j) tYes (iStr ts) (gName j1) tYes te vs vs1 σ H Q := h
/-- a comprehension's turn over data: what one turn makes -/
theorem lc2_by (f : PyData → Nat → PyData) (cs : List Nat) (src : Dp K H1 x (.list ds)) (hz : ds.length * cs.length ≤ 1000000)
    (hf : ∀ d ∈ ds, ∀ c ∈ cs, noL (f d c) = true)
    (hw : ∀ x, wipe ((wipe σ vs).set j (some x)) vs = wipe σ vs) (hw1 : ∀ x y, wipe ((wipe ((wipe σ vs).set j (some x)) vs1).set j1 (some y)) vs1 = wipe ((wipe σ vs).set j (some x)) vs1)
    (text : ∀ y d H', d ∈ ds → Dp K H' y d → ∀ R : VK, R (.str (Sg cs)) H' → ts ((wipe σ vs).set j (some y)) H' R)
    (turn : ∀ y d c H', d ∈ ds → c ∈ cs → Dp K H' y d → ∀ R : VK, (∀ z H4, Same H' H4 → Dp K H4 z (f d c) → R z H4) → te ((wipe ((wipe σ vs).set j (some y)) vs1).set j1 (some (.str (Sg [c])))) H' R)
    (done : ∀ p H' ws, H1 p = none → Same H1 H' → H' p = some (.lst ws) → Dp K H' (.ref p) (.list (ds.flatMap fun d => cs.map (f d))) → Q (.ref p) H') : rLc2 K j j1 ts te vs vs1 σ x H1 Q := by
  obtain ⟨a, xs, rfl, hs, ha⟩ := dp_lst src
  have hl := dpa_len ha
  have hline : sizeLine = 16777216 := sizeLine_eq
  have nof : ∀ (es : List PyData), (∀ d ∈ es, noL d = true) → noLs es = true := by
    intro es
    induction es with
    | nil => intro _; rfl
    | cons e es ih => intro h; simp only [noLs, Bool.and_eq_true]; exact ⟨h e List.mem_cons_self, ih fun d hd => h d (List.mem_cons_of_mem _ hd)⟩
  have fml : ∀ es : List PyData, (es.flatMap fun d => cs.map (f d)).length = es.length * cs.length := by
    intro es
    induction es with
    | nil => simp
    | cons e es ih => rw [List.flatMap_cons, List.length_append, ih, List.length_map, List.length_cons, Nat.succ_mul]; omega
  have nol : ∀ (i : Nat), noLs ((ds.take i).flatMap fun d => cs.map (f d)) = true := fun i => nof _ fun e he => by
    obtain ⟨d, hd, he⟩ := List.mem_flatMap.mp he
    obtain ⟨c, hc, rfl⟩ := List.mem_map.mp he
    exact hf d (List.mem_of_mem_take hd) c hc
  refine ⟨a, rfl, ⟨xs, hs⟩, fun D hD => ?_⟩
  refine ⟨fun i m H' => m = xs.length - i ∧ i ≤ xs.length ∧ Same H1 H' ∧ ∃ ws, H' D = some (.lst ws) ∧ DpAll K H' ws ((ds.take i).flatMap fun d => cs.map (f d)), ⟨xs.length, by simp, Nat.zero_le _, same_new hD, [], upd_same, by simp; exact .nil⟩, ?_⟩
  rintro i m H' ⟨rfl, hi, k1, ws, e1, d1⟩
  have q := k1.seq hs
  by_cases hlt : i < xs.length
  · refine .inr ⟨⟨xs, xs[i], q, by simp [hlt]⟩, fun H2 => Same H1 H2 ∧ ∃ ws, H2 D = some (.lst ws) ∧ DpAll K H2 ws ((ds.take (i + 1)).flatMap fun d => cs.map (f d)), fun H2 p => ⟨xs.length - (i + 1), by omega, rfl, hlt, p⟩, fun y H2 hy => ?_⟩
    obtain ⟨rfl, hy⟩ := hy
    have hyi := hy xs q
    obtain ⟨d, ed, dy0⟩ := dpa_get2 ha hyi
    have hdm : d ∈ ds := List.mem_of_getElem? ed
    have ht : ds.take (i + 1) = ds.take i ++ [d] := by rw [List.take_add_one, ed]; rfl
    refine ⟨hw y, ?_⟩
    refine text y d H2 hdm (dp_same k1 dy0) _ ⟨Sg cs, rfl, ?_⟩
    refine ⟨fun jj k H3 => k = cs.length - jj ∧ jj ≤ cs.length ∧ Same H1 H3 ∧ ∃ ws, H3 D = some (.lst ws) ∧ DpAll K H3 ws (((ds.take i).flatMap fun d => cs.map (f d)) ++ (cs.take jj).map (f d)), ⟨cs.length, by simp, Nat.zero_le _, k1, ws, e1, by simpa using d1⟩, ?_⟩
    rintro jj k H3 ⟨rfl, hj, k3, ws3, e3, d3⟩
    by_cases hjl : jj < cs.length
    · have hc : cs[jj]? = some cs[jj] := by simp [hjl]
      have htc : cs.take (jj + 1) = cs.take jj ++ [cs[jj]] := by rw [List.take_add_one, hc]; rfl
      refine .inr ⟨by show jj < (Sg cs).cps.size; simpa [Sg] using hjl, fun H4 => Same H1 H4 ∧ ∃ ws, H4 D = some (.lst ws) ∧ DpAll K H4 ws (((ds.take i).flatMap fun d => cs.map (f d)) ++ (cs.take (jj + 1)).map (f d)), fun H4 p => ⟨cs.length - (jj + 1), by omega, rfl, hjl, p⟩, fun z H4 hz4 => ?_⟩
      obtain ⟨rfl, c, hc4, rfl⟩ := hz4
      have hcc : c = cs[jj] := by simpa [Sg, hjl] using hc4.symm
      subst hcc
      refine ⟨hw1 _ _, ?_⟩
      refine turn y d cs[jj] H4 hdm (List.getElem_mem hjl) (dp_same k3 dy0) _ fun z H5 k5 d5 => ?_
      have e5 := k5 _ _ e3
      have len3 := dpa_len d3
      have le1 : (((ds.take i).flatMap fun d => cs.map (f d)) ++ (cs.take jj).map (f d)).length ≤ ds.length * cs.length := by
        rw [List.length_append, fml, List.length_map, List.length_take, List.length_take]
        have : min i ds.length + 1 ≤ ds.length := by omega
        have := Nat.mul_le_mul_right cs.length this
        rw [Nat.succ_mul] at this
        omega
      have no3 : noLs (((ds.take i).flatMap fun d => cs.map (f d)) ++ (cs.take jj).map (f d)) = true := noLs_app (nol i) (nof _ fun e he => by
        obtain ⟨c, hc, rfl⟩ := List.mem_map.mp he
        exact hf d hdm c (List.mem_of_mem_take hc))
      refine ⟨ws3, e5, by omega, same_mut (k3.trans k5) hD, _, upd_same, ?_⟩
      rw [htc, List.map_append, ← List.append_assoc]
      exact dpa_app (dpa_upd e5 _ _ no3 (dpa_same k5 d3)) (dpa_one (dp_upd e5 _ _ (hf d hdm _ (List.getElem_mem hjl)) d5))
    · have : jj = cs.length := by omega
      subst this
      refine .inl ⟨by show (Sg cs).cps.size ≤ cs.length; simp [Sg], k3, ws3, e3, ?_⟩
      rw [ht, List.flatMap_append]
      simpa using d3
  · have e : i = xs.length := by omega
    subst e
    refine .inl ⟨⟨xs, q, Nat.le_refl _⟩, done D H' ws hD k1 e1 (dp_newL e1 ?_)⟩
    rw [hl, List.take_length] at d1
    exact d1
/-- [e for c in a text] -/
def rLcS (j : Nat) (tt : TT) (te : TE) (vs : List Nat) (σ : L2.St) (x : V) (H1 : Hp) (Q : VK) : Prop := tLc (iStr (tC x)) (gName j) tt te vs σ H1 Q
theorem w_lcS {tt : TT} (h : ts σ H fun x H1 => rLcS j tt te vs σ x H1 Q) : tLc (iStr ts) (gName j) tt te vs σ H Q := h
theorem lc_str_by {tt : TT} {l : List Nat} (J : Nat → List PyData → Hp → Prop) (lj : LcJ H1 J) (hz : l.length ≤ 1000000) (hw : ∀ x, wipe ((wipe σ vs).set j (some x)) vs = wipe σ vs)
    (turn : ∀ i c H' es, l[i]? = some c → J i es H' → LcTurn K J tt te ((wipe σ vs).set j (some (.str (Sg [c])))) i es H')
    (done : ∀ p H' ws es, H1 p = none → Keep H1 H' → H' p = some (.lst ws) → Dp K H' (.ref p) (.list es) → J l.length es H' → Q (.ref p) H') : rLcS j tt te vs σ (.str (Sg l)) H1 Q := by
  refine ⟨Sg l, rfl, fun D hD => ?_⟩
  refine ⟨fun i m H' => m = l.length - i ∧ i ≤ l.length ∧ LcP K J D i H', ⟨l.length, by simp, Nat.zero_le _, [], [], upd_same, .nil, rfl, Nat.le_refl _, lj.start D hD⟩, ?_⟩
  rintro i m H' ⟨rfl, hi, p⟩
  by_cases hlt : i < l.length
  · refine .inr ⟨by show i < (Sg l).cps.size; simpa [Sg] using hlt, LcP K J D (i + 1), fun H2 p2 => ⟨l.length - (i + 1), by omega, rfl, hlt, p2⟩, fun x H2 y => ?_⟩
    obtain ⟨rfl, c, hc, rfl⟩ := y
    have hc2 : l[i]? = some c := by simpa [Sg] using hc
    exact ⟨hw _, lc_turn lj hD (by omega) p fun es q => turn i c H2 es hc2 q⟩
  · have e : i = l.length := by omega
    subst e
    obtain ⟨ws, es, p1, p2, p3, p4, p5⟩ := p
    exact .inl ⟨by show (Sg l).cps.size ≤ l.length; simp [Sg], done D H' ws es hD (lj.keep _ _ _ p5) p1 (dp_newL p1 p2) p5⟩
end
end Tw
namespace Tw
open PySem PySem.Spec PyProof.Rows L2
/-! ### doubling, again and again -/
def itN : Nat → Nat × Nat → Nat × Nat
  | 0, x => x
  | i + 1, x => itN i (dblN x)
theorem itN_succ (i : Nat) (x : Nat × Nat) : itN (i + 1) x = dblN (itN i x) := by
  induction i generalizing x with
  | zero => rfl
  | succ i ih => show itN (i + 1) (dblN x) = dblN (itN i (dblN x)); exact ih (dblN x)
theorem itN_add (i j : Nat) (x : Nat × Nat) : itN (i + j) x = itN i (itN j x) := by
  induction j generalizing x with
  | zero => rfl
  | succ j ih => show itN (i + j) (dblN x) = itN i (itN j (dblN x)); exact ih (dblN x)
theorem it_plc {x : Nat × Nat} (h : Plc x) (i : Nat) : Plc (itN i x) := by
  induction i with
  | zero => exact h
  | succ i ih => rw [itN_succ]; exact dbl_plc ih
theorem dbl_red {x : Nat × Nat} (h : Plc x) : dblN x = red (2 * x.1 % x.2) x.2 := by
  have hp := h.pos
  have hd := dbl_plc h
  symm
  refine red_of hd.cop hd.pos hp ?_
  unfold dblN
  split
  · rename_i e
    have hx : x.2 = 2 * (x.2 / 2) := by omega
    have e2 : 2 * x.1 % x.2 = 2 * (x.1 % (x.2 / 2)) := by
      conv => lhs; rw [hx]
      rw [Nat.mul_mod_mul_left]
    rw [e2]
    show x.1 % (x.2 / 2) * x.2 = 2 * (x.1 % (x.2 / 2)) * (x.2 / 2)
    generalize x.1 % (x.2 / 2) = y
    rw [Nat.mul_comm 2 y, Nat.mul_assoc, ← hx]
  · rfl
theorem red_mod2 {p q : Nat} (hq : 0 < q) (hp : p < q) : red (2 * (red p q).1 % (red p q).2) (red p q).2 = red (2 * p % q) q := by
  have hc := red_cross (p := p) (q := q)
  have h0 := red_pos (p := p) hq
  obtain ⟨g, hg⟩ := red_dvd (p := p) (q := q)
  have hg0 : 0 < g := by
    rcases Nat.eq_zero_or_pos g with z | z
    · rw [z] at hg; omega
    · exact z
  generalize hr : red p q = r at *
  have hpe : p = r.1 * g := by
    rw [hg] at hc
    have : r.1 * g * r.2 = p * r.2 := by rw [← hc, Nat.mul_assoc, Nat.mul_comm g]
    exact (Nat.eq_of_mul_eq_mul_right h0 this).symm
  refine red_eq h0 hq ?_
  rw [hpe, hg, show 2 * (r.1 * g) = 2 * r.1 * g from (Nat.mul_assoc _ _ _).symm, Nat.mul_mod_mul_right, Nat.mul_assoc (2 * r.1 % r.2) g, Nat.mul_comm g]
theorem it_red {x : Nat × Nat} (h : Plc x) (i : Nat) : itN i x = red (2 ^ i * x.1 % x.2) x.2 := by
  have hp := h.pos
  induction i with
  | zero =>
    rw [Nat.pow_zero, Nat.one_mul, Nat.mod_eq_of_lt h.lt]
    exact (red_self h.cop).symm
  | succ i ih =>
    rw [itN_succ, dbl_red (it_plc h i), ih, red_mod2 hp (Nat.mod_lt _ hp)]
    congr 1
    rw [Nat.mul_mod, Nat.mod_mod, ← Nat.mul_mod, Nat.pow_succ, Nat.mul_comm (2 ^ i) 2, Nat.mul_assoc]
theorem red_inj {p p' q : Nat} (hq : 0 < q) (h : red p q = red p' q) : p = p' := by
  have h1 := red_cross (p := p) (q := q)
  have h2 := red_cross (p := p') (q := q)
  have h0 := red_pos (p := p) hq
  rw [h] at h1 h0
  exact Nat.eq_of_mul_eq_mul_right h0 (h1.symm.trans h2)
theorem it_eq {x : Nat × Nat} (h : Plc x) {i j : Nat} (hij : i ≤ j) : itN i x = itN j x ↔ x.2 ∣ 2 ^ i * (2 ^ (j - i) - 1) := by
  have hp := h.pos
  rw [it_red h, it_red h]
  have e : 2 ^ j = 2 ^ i * 2 ^ (j - i) := by rw [← Nat.pow_add]; congr 1; omega
  have hpw : 1 ≤ 2 ^ (j - i) := two_pow_pos _
  have key : (2 ^ i * x.1 % x.2 = 2 ^ j * x.1 % x.2) ↔ x.2 ∣ 2 ^ i * (2 ^ (j - i) - 1) := by
    have hle : 2 ^ i * x.1 ≤ 2 ^ j * x.1 := Nat.mul_le_mul_right _ (Nat.pow_le_pow_right (by decide) hij)
    have hsub : 2 ^ j * x.1 - 2 ^ i * x.1 = 2 ^ i * (2 ^ (j - i) - 1) * x.1 := by
      rw [e, ← Nat.sub_mul, Nat.mul_sub_one]
    constructor
    · intro z
      have d1 : x.2 ∣ 2 ^ j * x.1 - 2 ^ i * x.1 := Nat.dvd_of_mod_eq_zero (Nat.sub_mod_eq_zero_of_mod_eq z.symm)
      rw [hsub] at d1
      exact h.cop.symm.dvd_of_dvd_mul_right d1
    · intro d
      have d1 : x.2 ∣ 2 ^ j * x.1 - 2 ^ i * x.1 := by rw [hsub]; exact Nat.dvd_trans d (Nat.dvd_mul_right _ _)
      obtain ⟨c, hc⟩ := d1
      have : 2 ^ j * x.1 = 2 ^ i * x.1 + x.2 * c := by omega
      rw [this, Nat.add_mul_mod_self_left]
  constructor
  · intro z; exact key.mp (red_inj hp z)
  · intro z; rw [key.mpr z]
/-! ### way in and period -/
/-- how often 2 divides, at most f times -/
def twosF : Nat → Nat → Nat
  | 0, _ => 0
  | f + 1, b => if b % 2 = 0 then twosF f (b / 2) + 1 else 0
def twos (b : Nat) : Nat := twosF 60 b
theorem twosF_spec : ∀ (f b : Nat), 0 < b → b < 2 ^ f → ∃ o, b = 2 ^ twosF f b * (2 * o + 1) := by
  intro f
  induction f with
  | zero => intro b h1 h2; omega
  | succ f ih =>
    intro b h1 h2
    unfold twosF
    split
    · rename_i e
      obtain ⟨o, ho⟩ := ih (b / 2) (by omega) (by rw [Nat.pow_succ] at h2; omega)
      refine ⟨o, ?_⟩
      rw [Nat.pow_succ, Nat.mul_assoc, Nat.mul_comm 2, ← Nat.mul_assoc, ← ho]
      omega
    · exact ⟨b / 2, by simp; omega⟩
theorem twos_spec {b : Nat} (h1 : 0 < b) (h2 : b < 2 ^ 60) : ∃ o, b = 2 ^ twos b * (2 * o + 1) := twosF_spec 60 b h1 h2
def oddOf (b : Nat) : Nat := b / 2 ^ twos b
theorem odd_spec {b : Nat} (h1 : 0 < b) (h2 : b < 2 ^ 60) : b = 2 ^ twos b * oddOf b ∧ oddOf b % 2 = 1 := by
  obtain ⟨o, ho⟩ := twos_spec h1 h2
  have : oddOf b = 2 * o + 1 := by
    unfold oddOf
    conv => lhs; rw [ho]
    have e : twos (2 ^ twos b * (2 * o + 1)) = twos b := by rw [← ho]
    rw [e, Nat.mul_div_cancel_left _ (two_pow_pos _)]
  rw [this]
  exact ⟨ho, by omega⟩
/-- the least n from 1 to f with 2 ^ n - 1 divided by o, else 0 -/
def ordN (o : Nat) : Nat := match (List.range 24).find? (fun i => (2 ^ (i + 1) - 1) % o == 0) with
  | some i => i + 1
  | none => 0
theorem ord_spec {o n : Nat} (h1 : 1 ≤ n) (h2 : n ≤ 24) (h : o ∣ 2 ^ n - 1) : 1 ≤ ordN o ∧ ordN o ≤ n ∧ o ∣ 2 ^ ordN o - 1 ∧ ∀ k, 1 ≤ k → k < ordN o → ¬ o ∣ 2 ^ k - 1 := by
  unfold ordN
  cases hf : (List.range 24).find? (fun i => (2 ^ (i + 1) - 1) % o == 0) with
  | none =>
    rw [List.find?_eq_none] at hf
    have := hf (n - 1) (List.mem_range.mpr (by omega))
    rw [show n - 1 + 1 = n by omega, beq_iff_eq] at this
    exact absurd (Nat.mod_eq_zero_of_dvd h) this
  | some i =>
    rw [List.find?_range_eq_some] at hf
    obtain ⟨p, hi, hj⟩ := hf
    rw [beq_iff_eq] at p
    show 1 ≤ i + 1 ∧ i + 1 ≤ n ∧ o ∣ 2 ^ (i + 1) - 1 ∧ ∀ k, 1 ≤ k → k < i + 1 → ¬ o ∣ 2 ^ k - 1
    refine ⟨by omega, ?_, Nat.dvd_of_mod_eq_zero p, fun k a b d => ?_⟩
    · apply Nat.le_of_not_lt
      intro z
      have := hj (n - 1) (by omega)
      rw [show n - 1 + 1 = n by omega, Bool.not_eq_true', beq_eq_false_iff_ne] at this
      exact this (Nat.mod_eq_zero_of_dvd h)
    · have := hj (k - 1) (by omega)
      rw [show k - 1 + 1 = k by omega, Bool.not_eq_true', beq_eq_false_iff_ne] at this
      exact this (Nat.mod_eq_zero_of_dvd d)
def wayN (x : Nat × Nat) : Nat := twos x.2
def perN (x : Nat × Nat) : Nat := ordN (oddOf x.2)
theorem cop_two_pow {o : Nat} (h : o % 2 = 1) (m : Nat) : Nat.Coprime (2 ^ m) o := by
  refine Nat.Coprime.pow_left m ?_
  unfold Nat.Coprime
  rw [Nat.gcd_rec, h]
  rfl
/-- 2 ^ m o divides 2 ^ i (2 ^ n - 1), o odd -/
theorem dvd_split {m o i n : Nat} (ho : o % 2 = 1) (hn : 1 ≤ n) : 2 ^ m * o ∣ 2 ^ i * (2 ^ n - 1) ↔ m ≤ i ∧ o ∣ 2 ^ n - 1 := by
  have hodd : (2 ^ n - 1) % 2 = 1 := by
    have h1 : 2 ^ n = 2 * 2 ^ (n - 1) := by rw [← Nat.pow_succ']; congr 1; omega
    have := two_pow_pos (n - 1)
    omega
  constructor
  · intro d
    have d1 : 2 ^ m ∣ 2 ^ i * (2 ^ n - 1) := Nat.dvd_trans (Nat.dvd_mul_right _ _) d
    have d2 : o ∣ 2 ^ i * (2 ^ n - 1) := Nat.dvd_trans (Nat.dvd_mul_left _ _) d
    have d3 : 2 ^ m ∣ 2 ^ i := (cop_two_pow hodd m).dvd_of_dvd_mul_right d1
    have d4 : o ∣ 2 ^ n - 1 := (cop_two_pow ho i).symm.dvd_of_dvd_mul_left d2
    refine ⟨?_, d4⟩
    apply Nat.le_of_not_lt
    intro z
    have := Nat.le_of_dvd (two_pow_pos i) d3
    have := Nat.pow_lt_pow_right (a := 2) (by decide) z
    omega
  · rintro ⟨h1, h2⟩
    exact Nat.mul_dvd_mul (Nat.pow_dvd_pow 2 h1) h2
structure Ways (x : Nat × Nat) (m n : Nat) : Prop where
  n1 : 1 ≤ n
  le : m + n ≤ 24
  eq : ∀ i j, i < j → (itN i x = itN j x ↔ m ≤ i ∧ (oddOf x.2) ∣ 2 ^ (j - i) - 1)
  dv : oddOf x.2 ∣ 2 ^ n - 1
  lt : ∀ k, 1 ≤ k → k < n → ¬ oddOf x.2 ∣ 2 ^ k - 1
theorem ways {x : Nat × Nat} (h : Plc x) : Ways x (wayN x) (perN x) := by
  have hp := h.pos
  have hs := h.small
  obtain ⟨e1, e2⟩ := odd_spec hp (Nat.lt_trans hs (by decide))
  obtain ⟨m', n', h1, h2, h3⟩ := h.bot
  rw [e1, dvd_split e2 h1] at h3
  have ho := ord_spec h1 (by omega) h3.2
  refine ⟨ho.1, ?_, fun i j hij => ?_, ho.2.2.1, ho.2.2.2⟩
  · have := ho.2.1
    have : twos x.2 ≤ m' := h3.1
    unfold wayN perN
    omega
  · rw [it_eq h (Nat.le_of_lt hij)]
    conv => lhs; rw [e1]
    rw [dvd_split e2 (by omega)]
    rfl
namespace Ways
variable {x : Nat × Nat} {m n : Nat}
theorem back (w : Ways x m n) : itN (m + n) x = itN m x := by
  symm
  have := w.n1
  rw [w.eq m (m + n) (by omega)]
  exact ⟨Nat.le_refl _, by rw [show m + n - m = n by omega]; exact w.dv⟩
theorem ne (w : Ways x m n) {i j : Nat} (h1 : i < j) (h2 : j < m + n) : itN i x ≠ itN j x := by
  intro z
  obtain ⟨a, b⟩ := (w.eq i j h1).mp z
  exact w.lt (j - i) (by omega) (by omega) b
theorem inj (w : Ways x m n) {i j : Nat} (h1 : i < m + n) (h2 : j < m + n) (h : itN i x = itN j x) : i = j := by
  rcases Nat.lt_trichotomy i j with z | z | z
  · exact absurd h (w.ne z h2)
  · exact z
  · exact absurd h.symm (w.ne z h1)
end Ways
/-- the orbit -/
def orbN (x : Nat × Nat) : List (Nat × Nat) := (List.range (wayN x + perN x)).map fun i => itN i x
theorem orb_len (x : Nat × Nat) : (orbN x).length = wayN x + perN x := by simp [orbN]
theorem orb_get {x : Nat × Nat} {i : Nat} (h : i < wayN x + perN x) : (orbN x)[i]? = some (itN i x) := by simp [orbN, h]
theorem orb_plc {x : Nat × Nat} (h : Plc x) : ∀ y ∈ orbN x, Plc y := by
  intro y hy
  obtain ⟨i, _, rfl⟩ := List.mem_map.mp hy
  exact it_plc h i
/-- the first i places of the orbit -/
def preN (x : Nat × Nat) (i : Nat) : List (Nat × Nat) := (List.range i).map fun i => itN i x
theorem pre_succ (x : Nat × Nat) (i : Nat) : preN x (i + 1) = preN x i ++ [itN i x] := by simp [preN, List.range_succ]
theorem pre_len (x : Nat × Nat) (i : Nat) : (preN x i).length = i := by simp [preN]
theorem pre_mem {x : Nat × Nat} (h : Plc x) {i : Nat} (hi : i ≤ wayN x + perN x) : itN i x ∈ preN x i ↔ i = wayN x + perN x := by
  have w := ways h
  constructor
  · intro hm
    obtain ⟨j, hj, e⟩ := List.mem_map.mp hm
    have hj := List.mem_range.mp hj
    by_cases z : i = wayN x + perN x
    · exact z
    · exact absurd e (w.ne hj (by omega))
  · intro e
    have := w.n1
    rw [e, w.back]
    exact List.mem_map.mpr ⟨wayN x, List.mem_range.mpr (by omega), rfl⟩
/-! ### for the defs -/
theorem twos_bits {b : Nat} (h1 : 0 < b) (h2 : b < 2 ^ 60) : Builtin.bitAnd (b : Int) (-(b : Int)) = ((2 ^ twos b : Nat) : Int) := by
  obtain ⟨o, ho⟩ := twos_spec h1 h2
  have e : (b : Int) = 2 ^ twos b * (2 * (o : Int) + 1) := by
    conv => lhs; rw [ho]
    push_cast
    rfl
  conv => lhs; rw [e]
  rw [PySem.W.kbt_low]
  push_cast
  rfl
theorem pow_bits (k : Nat) : Builtin.Int.intBits ((2 ^ k : Nat) : Int) = k + 1 := by
  unfold Builtin.Int.intBits
  have hp := two_pow_pos k
  have e : (((2 ^ k : Nat) : Int) == 0) = false := beq_eq_false_iff_ne.mpr fun z => by
    have : (2 ^ k : Nat) = 0 := Int.ofNat.inj z
    omega
  rw [e, Int.natAbs_natCast, Nat.log2_two_pow]
  rfl
theorem ord_first {o k : Nat} (h1 : 1 ≤ k) (h2 : k ≤ 24) (h : (2 ^ k - 1) % o = 0) (hb : ∀ j, 1 ≤ j → j < k → ¬ (2 ^ j - 1) % o = 0) : ordN o = k := by
  unfold ordN
  have : (List.range 24).find? (fun i => (2 ^ (i + 1) - 1) % o == 0) = some (k - 1) := by
    rw [List.find?_range_eq_some]
    refine ⟨by rw [show k - 1 + 1 = k by omega, beq_iff_eq]; exact h, List.mem_range.mpr (by omega), fun j hj => ?_⟩
    rw [Bool.not_eq_true', beq_eq_false_iff_ne]
    exact hb (j + 1) (by omega) (by omega)
  rw [this]
  show k - 1 + 1 = k
  omega
theorem ord_none {o : Nat} (h : ∀ j, 1 ≤ j → j ≤ 24 → ¬ (2 ^ j - 1) % o = 0) : ordN o = 0 := by
  unfold ordN
  have : (List.range 24).find? (fun i => (2 ^ (i + 1) - 1) % o == 0) = none := by
    rw [List.find?_eq_none]
    intro i hi
    rw [beq_iff_eq]
    exact h (i + 1) (by omega) (by have := List.mem_range.mp hi; omega)
  rw [this]
theorem odd_pos {b : Nat} (h1 : 0 < b) (h2 : b < 2 ^ 60) : 0 < oddOf b := by have := (odd_spec h1 h2).2; omega
theorem bits_le {b k : Nat} (h1 : 0 < b) (h : b < 2 ^ k) : Builtin.Int.intBits (b : Int) ≤ k := by
  unfold Builtin.Int.intBits
  have e : ((b : Int) == 0) = false := beq_eq_false_iff_ne.mpr fun z => by omega
  rw [e, Int.natAbs_natCast]
  have := (Nat.log2_lt (by omega : b ≠ 0)).mpr h
  simp
  omega
theorem dig_lt (k : Nat) : 2 ^ k - 1 < 2 ^ k := by have := two_pow_pos k; omega
/-! ### digits -/
def dig (y : Nat × Nat) : Nat := if 2 * y.1 < y.2 then 48 else 49
def digL (x : Nat × Nat) : List Nat := (orbN x).map dig
theorem digL_len (x : Nat × Nat) : (digL x).length = wayN x + perN x := by simp [digL, orb_len]
theorem digL_dg (x : Nat × Nat) : Dg (digL x) := by
  intro c hc
  obtain ⟨y, _, rfl⟩ := List.mem_map.mp hc
  unfold dig
  split
  · exact .inl rfl
  · exact .inr rfl
/-! ### readings -/
section
variable {K : PySem.W.Frag} {σ : L2.St} {H : Hp} {Q : VK} {v y : V} {to : TE}
def rBits (x : V) (H : Hp) (Q : VK) : Prop := ∃ i, x = .int i ∧ Q (.int (Builtin.Int.intBits i : Nat)) H
theorem w_bits (h : to σ H fun x H1 => rBits x H1 Q) : tBits to σ H Q := h
theorem w_bitsI {i : Int} (h : Q (.int (Builtin.Int.intBits i : Nat)) H) : rBits (.int i) H Q := ⟨i, rfl, h⟩
def rDivmod : List V → Hp → VK → Prop := fun xs H Q => ∃ i j, xs = [.int i, .int j] ∧ CDivP i j ∧ ∀ p, H p = none → Q (.ref p) (upd H p (.tup [.int (i / j), .int (i % j)]))
theorem cl_divmod {X : Cx} : CallR X (.builtin "divmod") rDivmod := call_divmodW
theorem w_divmod {i j : Int} (hc : CDivP i j) (q : ∀ p H', Same H H' → Dp K H' (.ref p) (.tuple [.int (i / j), .int (i % j)]) → Q (.ref p) H') : rDivmod [.int i, .int j] H Q :=
  ⟨i, j, rfl, hc, fun p hp => q p _ (same_new hp) (dp_newT upd_same (.cons (.int _) (.cons (.int _) .nil)))⟩
def rIndexK (K : PySem.W.Frag) : V → List V → Hp → VK → Prop := fun x xs H Q => ∃ (a : Addr) (y : V) (d : PyData) (ds : List PyData) (j : Nat) (z : PyData), x = V.ref a ∧ xs = [y] ∧ Dp K H (V.ref a) (.list ds) ∧ Dp K H y d ∧ SeqAt.shaped (.list ds) = true ∧ SeqAt.shaped d = true ∧
  ds[j]? = some z ∧ PyData.eqv z d = true ∧ (∀ (m : Nat) (z' : PyData), m < j → ds[m]? = some z' → PyData.eqv z' d = false) ∧ Q (.int (j : Nat)) H
theorem mt_indexK {X : Cx} {K : PySem.W.Frag} (hu : X.A.units + 65 < cLine) (h : X.K = K := by rfl) : MtR X "list.index" (rIndexK K) := h ▸ mt_indexD hu
theorem w_index {d : PyData} {ds : List PyData} {j : Nat} (h1 : Dp K H v (.list ds)) (h2 : Dp K H y d) (p1 : pln 8 d = true) (p2 : ∀ z ∈ ds, pln 8 z = true) (hj : ds[j]? = some d) (hn : ∀ m, m < j → ds[m]? ≠ some d) (q : Q (.int (j : Nat)) H) : rIndexK K v [y] H Q := by
  obtain ⟨a, xs, rfl, hs, ha⟩ := dp_lst h1
  refine ⟨a, y, d, ds, j, d, rfl, rfl, h1, h2, pln_shaped (pln_list p2) (by decide), pln_shaped p1 (by decide), hj, (pln_eqv 8 8 d d p1 p1).mpr rfl, fun m z' hm hz => ?_, q⟩
  cases he : PyData.eqv z' d with
  | false => rfl
  | true =>
    have := (pln_eqv 8 8 z' d (p2 z' (List.mem_of_getElem? hz)) p1).mp he
    subst this
    exact absurd hz (hn m hm)
theorem w_tyLD {ds : List PyData} {A : Prop} (h : Dp K H v (.list ds)) (q : A) : tyV K "list" v H ∧ A := by
  obtain ⟨a, xs, rfl, hs, ha⟩ := dp_lst h
  exact ⟨.inl ⟨rfl, xs, hs⟩, q⟩
end
/-! ### digits of a place: what they are worth -/
/-- the numerator over x's own denominator -/
def aN (x : Nat × Nat) (i : Nat) : Nat := 2 ^ i * x.1 % x.2
theorem it_aN {x : Nat × Nat} (h : Plc x) (i : Nat) : itN i x = red (aN x i) x.2 := it_red h i
theorem aN_lt {x : Nat × Nat} (h : Plc x) (i : Nat) : aN x i < x.2 := Nat.mod_lt _ h.pos
theorem red_low {p q : Nat} (hq : 0 < q) : 2 * (red p q).1 < (red p q).2 ↔ 2 * p < q := by
  have hc := red_cross (p := p) (q := q)
  have h0 := red_pos (p := p) hq
  constructor
  · intro h
    have : 2 * (red p q).1 * q < (red p q).2 * q := Nat.mul_lt_mul_of_pos_right h hq
    rw [Nat.mul_assoc, hc, ← Nat.mul_assoc, Nat.mul_comm _ q] at this
    exact Nat.lt_of_mul_lt_mul_right this
  · intro h
    have : 2 * p * (red p q).2 < q * (red p q).2 := Nat.mul_lt_mul_of_pos_right h h0
    rw [Nat.mul_assoc, ← hc, ← Nat.mul_assoc, Nat.mul_comm q] at this
    exact Nat.lt_of_mul_lt_mul_right this
theorem aN_succ {x : Nat × Nat} (h : Plc x) (i : Nat) : aN x (i + 1) + (dig (itN i x) - 48) * x.2 = 2 * aN x i := by
  have hp := h.pos
  have hl := aN_lt h i
  have e : aN x (i + 1) = 2 * aN x i % x.2 := by
    unfold aN
    rw [Nat.pow_succ, Nat.mul_comm (2 ^ i) 2, Nat.mul_assoc]
    conv => lhs; rw [Nat.mul_mod]
    conv => rhs; rw [Nat.mul_mod, Nat.mod_mod]
  have hd := red_low (p := aN x i) hp
  rw [← it_aN h] at hd
  rw [e]
  unfold dig
  split
  · rename_i z
    have := hd.mp z
    rw [Nat.mod_eq_of_lt this]; simp
  · rename_i z
    have z2 : ¬ 2 * aN x i < x.2 := fun w => z (hd.mpr w)
    rw [show 2 * aN x i = (2 * aN x i - x.2) + x.2 by omega, Nat.add_mod_right, Nat.mod_eq_of_lt (by omega)]
    simp
def digsFrom (x : Nat × Nat) (i k : Nat) : List Nat := (List.range k).map fun j => dig (itN (i + j) x)
theorem digsFrom_succ (x : Nat × Nat) (i k : Nat) : digsFrom x i (k + 1) = digsFrom x i k ++ [dig (itN (i + k) x)] := by simp [digsFrom, List.range_succ]
theorem digs_val {x : Nat × Nat} (h : Plc x) (i k : Nat) : bv (digsFrom x i k) * x.2 + aN x (i + k) = 2 ^ k * aN x i := by
  induction k with
  | zero => simp [digsFrom, bv]
  | succ k ih =>
    rw [digsFrom_succ, bv_snoc]
    have := aN_succ h (i + k)
    rw [← Nat.add_assoc, Nat.pow_succ, Nat.mul_comm (2 ^ k) 2, Nat.mul_assoc, ← ih, Nat.add_mul]
    generalize (dig (itN (i + k) x) - 48) * x.2 = u at *
    rw [Nat.mul_add, ← this, Nat.mul_assoc]
    omega
theorem digL_take (x : Nat × Nat) : (digL x).take (wayN x) = digsFrom x 0 (wayN x) := by
  unfold digL orbN digsFrom
  rw [List.map_map, ← List.map_take, List.take_range, Nat.min_eq_left (by omega)]
  apply List.map_congr_left
  intro j _
  simp
theorem digL_drop (x : Nat × Nat) : (digL x).drop (wayN x) = digsFrom x (wayN x) (perN x) := by
  unfold digL orbN digsFrom
  rw [List.map_map]
  apply List.ext_getElem?
  intro j
  simp only [List.getElem?_drop, List.getElem?_map]
  by_cases z : j < perN x
  · rw [List.getElem?_range (by omega), List.getElem?_range z]
    simp
  · rw [List.getElem?_eq_none (by simp; omega), List.getElem?_eq_none (by simp; omega)]
    rfl
def frontL (x : Nat × Nat) : List Nat := (digL x).take (wayN x)
def backL (x : Nat × Nat) : List Nat := (digL x).drop (wayN x)
theorem front_len (x : Nat × Nat) : (frontL x).length = wayN x := by unfold frontL; rw [List.length_take, digL_len]; omega
theorem back_len (x : Nat × Nat) : (backL x).length = perN x := by unfold backL; rw [List.length_drop, digL_len]; omega
theorem front_dg (x : Nat × Nat) : Dg (frontL x) := fun c hc => digL_dg x c (List.mem_of_mem_take hc)
theorem back_dg (x : Nat × Nat) : Dg (backL x) := fun c hc => digL_dg x c (List.mem_of_mem_drop hc)
/-- the digits are those of the place -/
theorem bin_digits {x : Nat × Nat} (h : Plc x) : binN (frontL x) (backL x) = x := by
  have hp := h.pos
  have w := ways h
  have hw1 := w.n1
  have e1 := digs_val h 0 (wayN x)
  have e2 := digs_val h (wayN x) (perN x)
  rw [← digL_take, Nat.zero_add] at e1
  rw [← digL_drop] at e2
  have a0 : aN x 0 = x.1 := by unfold aN; rw [Nat.pow_zero, Nat.one_mul, Nat.mod_eq_of_lt h.lt]
  have ab : aN x (wayN x + perN x) = aN x (wayN x) := by
    have := w.back
    rw [it_aN h, it_aN h] at this
    exact red_inj hp this
  rw [a0] at e1
  rw [ab] at e2
  have hw : 1 ≤ 2 ^ perN x := two_pow_pos _
  unfold binN botN
  rw [front_len, back_len]
  have hB : 0 < 2 ^ wayN x * (2 ^ perN x - 1) := bot_pos hw1
  have e3 : bv (backL x) * x.2 = (2 ^ perN x - 1) * aN x (wayN x) := by
    rw [Nat.sub_mul, Nat.one_mul, ← e2]
    unfold backL
    omega
  have key : (bv (frontL x) * (2 ^ perN x - 1) + bv (backL x)) * x.2 = x.1 * (2 ^ wayN x * (2 ^ perN x - 1)) := by
    rw [Nat.add_mul, e3]
    have e4 : bv (frontL x) * x.2 + aN x (wayN x) = 2 ^ wayN x * x.1 := e1
    generalize 2 ^ perN x - 1 = W at *
    generalize bv (frontL x) = f at *
    generalize aN x (wayN x) = A at *
    calc f * W * x.2 + W * A = W * (f * x.2 + A) := by grind
      _ = W * (2 ^ wayN x * x.1) := by rw [e4]
      _ = x.1 * (2 ^ wayN x * W) := by grind
  have hlt : bv (frontL x) * (2 ^ perN x - 1) + bv (backL x) < 2 ^ wayN x * (2 ^ perN x - 1) := by
    have : (bv (frontL x) * (2 ^ perN x - 1) + bv (backL x)) * x.2 < 2 ^ wayN x * (2 ^ perN x - 1) * x.2 := by
      rw [key, Nat.mul_comm x.1]
      exact Nat.mul_lt_mul_of_pos_left h.lt hB
    exact Nat.lt_of_mul_lt_mul_right this
  rw [Nat.mod_eq_of_lt hlt]
  exact red_of h.cop hp hB key.symm
/-- one digit moved into the head -/
theorem bv_cons (c : Nat) (r : List Nat) : bv (c :: r) = (c - 48) * 2 ^ r.length + bv r := by
  have gen : ∀ (r : List Nat) (s : Nat), r.foldl (fun s c => 2 * s + (c - 48)) s = s * 2 ^ r.length + bv r := by
    intro r
    induction r with
    | nil => intro s; simp [bv]
    | cons d r ih =>
      intro s
      have h1 := ih (2 * s + (d - 48))
      have h2 := ih (2 * 0 + (d - 48))
      show r.foldl _ (2 * s + (d - 48)) = s * 2 ^ (r.length + 1) + r.foldl _ (2 * 0 + (d - 48))
      rw [h1, h2, Nat.pow_succ]
      grind
  have := gen r (2 * 0 + (c - 48))
  show r.foldl _ (2 * 0 + (c - 48)) = _
  rw [this]
  simp
theorem bin_turn (h r : List Nat) (c : Nat) : binN (h ++ [c]) (r ++ [c]) = binN h (c :: r) := by
  have hB : 0 < 2 ^ h.length * (2 ^ (r.length + 1) - 1) := bot_pos (by omega)
  have hw : 1 ≤ 2 ^ (r.length + 1) := two_pow_pos _
  unfold binN botN
  rw [bv_snoc, bv_snoc, bv_cons]
  simp only [List.length_append, List.length_cons, List.length_nil, Nat.zero_add]
  have e1 : 2 ^ (h.length + 1) * (2 ^ (r.length + 1) - 1) = 2 * (2 ^ h.length * (2 ^ (r.length + 1) - 1)) := by rw [Nat.pow_succ]; grind
  have e2 : (2 * bv h + (c - 48)) * (2 ^ (r.length + 1) - 1) + (2 * bv r + (c - 48)) = 2 * (bv h * (2 ^ (r.length + 1) - 1) + ((c - 48) * 2 ^ r.length + bv r)) := by
    have e3 : 2 ^ (r.length + 1) = (2 ^ (r.length + 1) - 1) + 1 := by omega
    have e4 : 2 ^ (r.length + 1) = 2 * 2 ^ r.length := by rw [Nat.pow_succ]; omega
    generalize 2 ^ (r.length + 1) - 1 = W at *
    rw [e3] at e4
    generalize 2 ^ r.length = V at *
    have : W = 2 * V - 1 := by omega
    have hV : 1 ≤ V := by omega
    obtain ⟨u, rfl⟩ : ∃ u, V = u + 1 := ⟨V - 1, by omega⟩
    have : W = 2 * u + 1 := by omega
    subst this
    grind
  rw [e1, e2, Nat.mul_mod_mul_left]
  refine red_eq (by omega) hB ?_
  grind
/-- all digits exchanged -/
def swC (c : Nat) : Nat := if c = 49 then 48 else 49
theorem bv_swap : ∀ (l : List Nat), Dg l → bv (l.map swC) + bv l = 2 ^ l.length - 1 := by
  intro l
  induction l with
  | nil => intro _; rfl
  | cons c r ih =>
    intro h
    have h1 := ih fun d hd => h d (List.mem_cons_of_mem _ hd)
    have hp := two_pow_pos r.length
    rw [List.map_cons, bv_cons, bv_cons, List.length_map, List.length_cons, Nat.pow_succ]
    rcases h c List.mem_cons_self with rfl | rfl
    · simp [swC]; omega
    · simp [swC]; omega
theorem dg_swap {l : List Nat} (h : Dg l) : Dg (l.map swC) := by
  intro c hc
  obtain ⟨d, _, rfl⟩ := List.mem_map.mp hc
  unfold swC
  split
  · exact .inl rfl
  · exact .inr rfl
theorem red_mirN {p q : Nat} (hq : 0 < q) (hp : p ≤ q) : red ((q - p) % q) q = mirN (red (p % q) q) := by
  have hl : p % q < q := Nat.mod_lt _ hq
  generalize hr : p % q = r at *
  have e : (q - p) % q = if r = 0 then 0 else q - r := by
    by_cases z : p = q
    · subst z
      rw [Nat.mod_self] at hr
      rw [if_pos hr.symm, Nat.sub_self, Nat.zero_mod]
    · have : r = p := by rw [← hr, Nat.mod_eq_of_lt (by omega)]
      subst this
      split
      · rename_i z0; rw [z0, Nat.sub_zero, Nat.mod_self]
      · rw [Nat.mod_eq_of_lt (by omega)]
  rw [e]
  have hc := red_cross (p := r) (q := q)
  have h0 := red_pos (p := r) hq
  have hlt := red_lt hl
  have hcop := red_coprime (p := r) hq
  generalize red r q = x at *
  have hm : Nat.Coprime (mirN x).1 (mirN x).2 := by
    show Nat.Coprime (if x.1 = 0 then 0 else x.2 - x.1) x.2
    split
    · rename_i z; rw [z] at hcop; exact hcop
    · unfold Nat.Coprime at hcop ⊢
      rw [Nat.gcd_comm, Nat.gcd_self_sub_right (Nat.le_of_lt hlt), Nat.gcd_comm]
      exact hcop
  refine red_of hm h0 hq ?_
  show (if x.1 = 0 then 0 else x.2 - x.1) * q = (if r = 0 then 0 else q - r) * x.2
  by_cases z : r = 0
  · have z1 : x.1 = 0 := by
      rw [z, Nat.zero_mul] at hc
      rcases Nat.mul_eq_zero.mp hc with w | w
      · exact w
      · omega
    rw [if_pos z, if_pos z1, Nat.zero_mul, Nat.zero_mul]
  · have z1 : x.1 ≠ 0 := by
      intro w
      rw [w, Nat.zero_mul] at hc
      rcases Nat.mul_eq_zero.mp hc.symm with u | u
      · exact z u
      · omega
    rw [if_neg z, if_neg z1, Nat.sub_mul, Nat.sub_mul, hc, Nat.mul_comm x.2 q]
theorem bin_swap {h t : List Nat} (dh : Dg h) (dt : Dg t) (ht : t ≠ []) : binN (h.map swC) (t.map swC) = mirN (binN h t) := by
  have hB := botN_pos (h := h) ht
  have e1 := bv_swap h dh
  have e2 := bv_swap t dt
  have b1 := bv_lt h dh
  have b2 := bv_lt t dt
  have p1 := two_pow_pos h.length
  unfold binN
  rw [show botN (h.map swC) (t.map swC) = botN h t by simp [botN], List.length_map]
  have hle : bv h * (2 ^ t.length - 1) + bv t ≤ botN h t := by
    unfold botN
    have : (bv h + 1) * (2 ^ t.length - 1) ≤ 2 ^ h.length * (2 ^ t.length - 1) := Nat.mul_le_mul_right _ b1
    rw [Nat.add_mul, Nat.one_mul] at this
    omega
  have e3 : bv (h.map swC) * (2 ^ t.length - 1) + bv (t.map swC) = botN h t - (bv h * (2 ^ t.length - 1) + bv t) := by
    have e4 : bv (t.map swC) = (2 ^ t.length - 1) - bv t := by omega
    have e5 : bv (h.map swC) = 2 ^ h.length - 1 - bv h := by omega
    rw [e4, e5]
    unfold botN at *
    generalize 2 ^ t.length - 1 = W at *
    have : (2 ^ h.length - 1 - bv h) * W = 2 ^ h.length * W - (bv h + 1) * W := by rw [← Nat.sub_mul]; congr 1; omega
    rw [this, Nat.add_mul, Nat.one_mul]
    have : (bv h + 1) * W ≤ 2 ^ h.length * W := Nat.mul_le_mul_right _ b1
    rw [Nat.add_mul, Nat.one_mul] at this
    omega
  rw [e3]
  exact red_mirN hB hle
/-! ### the doubled place's orbit -/
theorem twosF_half {f b : Nat} (h : b % 2 = 0) (hb : 0 < b) (hf : b < 2 ^ f) : twosF (f + 1) b = twosF f (b / 2) + 1 := by
  show (if b % 2 = 0 then twosF f (b / 2) + 1 else 0) = _
  rw [if_pos h]
theorem twosF_mono : ∀ (f g b : Nat), 0 < b → b < 2 ^ f → b < 2 ^ g → twosF f b = twosF g b := by
  intro f
  induction f with
  | zero => intro g b h1 h2; omega
  | succ f ih =>
    intro g b h1 h2 h3
    cases g with
    | zero => omega
    | succ g =>
      show (if b % 2 = 0 then twosF f (b / 2) + 1 else 0) = (if b % 2 = 0 then twosF g (b / 2) + 1 else 0)
      split
      · rw [ih g (b / 2) (by omega) (by rw [Nat.pow_succ] at h2; omega) (by rw [Nat.pow_succ] at h3; omega)]
      · rfl
theorem twos_even {b : Nat} (h1 : 0 < b) (h2 : b < 2 ^ 50) (e : b % 2 = 0) : twos b = twos (b / 2) + 1 := by
  have h60 : (2 : Nat) ^ 50 < 2 ^ 60 := by decide
  have h59 : (2 : Nat) ^ 50 < 2 ^ 59 := by decide
  show twosF (59 + 1) b = twosF 60 (b / 2) + 1
  rw [twosF_half e h1 (by omega), twosF_mono 59 60 (b / 2) (by omega) (by omega) (by omega)]
theorem twos_odd {b : Nat} (e : b % 2 = 1) : twos b = 0 := by
  show (if b % 2 = 0 then twosF 59 (b / 2) + 1 else 0) = 0
  rw [if_neg (by omega)]
theorem odd_half {b : Nat} (h1 : 0 < b) (h2 : b < 2 ^ 50) (e : b % 2 = 0) : oddOf (b / 2) = oddOf b := by
  unfold oddOf
  rw [twos_even h1 h2 e, Nat.pow_succ, Nat.div_div_eq_div_mul, Nat.mul_comm 2]
theorem dbl_ways {x : Nat × Nat} (h : Plc x) : wayN (dblN x) = wayN x - 1 ∧ perN (dblN x) = perN x := by
  have hp := h.pos
  have hs := h.small
  have h50 : (2 : Nat) ^ 24 < 2 ^ 50 := by decide
  unfold wayN perN dblN
  split
  · rename_i e
    refine ⟨?_, ?_⟩
    · show twos (x.2 / 2) = twos x.2 - 1
      rw [twos_even hp (by omega) e]; omega
    · show ordN (oddOf (x.2 / 2)) = ordN (oddOf x.2)
      rw [odd_half hp (by omega) e]
  · rename_i e
    refine ⟨?_, rfl⟩
    show twos x.2 = twos x.2 - 1
    rw [twos_odd (by omega)]
theorem digL_dbl {x : Nat × Nat} (h : Plc x) : (frontL (dblN x), backL (dblN x)) = if wayN x = 0 then ([], (backL x).tail ++ (backL x).take 1) else ((frontL x).tail, backL x) := by
  have w := ways h
  have w1 := w.n1
  obtain ⟨d1, d2⟩ := dbl_ways h
  have hit : ∀ i, itN i (dblN x) = itN (i + 1) x := fun i => rfl
  have fd : ∀ y i k, digsFrom y i k = (List.range k).map fun j => dig (itN (i + j) y) := fun _ _ _ => rfl
  unfold frontL backL
  rw [digL_take, digL_drop, digL_take, digL_drop, d1, d2]
  by_cases z : wayN x = 0
  · rw [if_pos z, z]
    have e0 : itN (0 + perN x) x = itN 0 x := by have := w.back; rwa [z] at this
    refine Prod.ext rfl ?_
    show digsFrom (dblN x) 0 (perN x) = (digsFrom x 0 (perN x)).tail ++ (digsFrom x 0 (perN x)).take 1
    obtain ⟨n, hn⟩ : ∃ n, perN x = n + 1 := ⟨perN x - 1, by omega⟩
    rw [hn] at e0 ⊢
    have e1 : digsFrom x 0 (n + 1) = dig (itN 0 x) :: (List.range n).map fun j => dig (itN (j + 1) x) := by
      rw [fd, List.range_succ_eq_map, List.map_cons, List.map_map]
      congr 1
      apply List.map_congr_left
      intro j _
      simp
    rw [e1, digsFrom_succ, fd]
    simp only [List.tail_cons, List.take_succ_cons, List.take_zero, hit, Nat.zero_add] at *
    rw [e0]
  · rw [if_neg z]
    obtain ⟨m, hm⟩ : ∃ m, wayN x = m + 1 := ⟨wayN x - 1, by omega⟩
    rw [hm, Nat.add_sub_cancel]
    refine Prod.ext ?_ ?_
    · show digsFrom (dblN x) 0 m = (digsFrom x 0 (m + 1)).tail
      rw [fd, fd, List.range_succ_eq_map, List.map_cons, List.map_map, List.tail_cons]
      apply List.map_congr_left
      intro j _
      simp [hit]
    · show digsFrom (dblN x) m (perN x) = digsFrom x (m + 1) (perN x)
      rw [fd, fd]
      apply List.map_congr_left
      intro j _
      rw [hit, show m + j + 1 = m + 1 + j by omega]
/-! ### mirrored -/
theorem mir_dbl {x : Nat × Nat} (h : Plc x) : dblN (mirN x) = mirN (dblN x) := by
  have hm := mir_plc h
  have hp := h.pos
  rw [dbl_red hm, dbl_red h]
  show red (2 * (if x.1 = 0 then 0 else x.2 - x.1) % x.2) x.2 = _
  have hl := h.lt
  have e : 2 * (if x.1 = 0 then 0 else x.2 - x.1) % x.2 = (x.2 - 2 * x.1 % x.2) % x.2 := by
    by_cases z : x.1 = 0
    · rw [if_pos z, z]; simp
    · rw [if_neg z]
      by_cases z2 : 2 * x.1 < x.2
      · rw [Nat.mod_eq_of_lt z2, show 2 * (x.2 - x.1) = (x.2 - 2 * x.1) + x.2 by omega, Nat.add_mod_right]
      · rw [show 2 * x.1 = (2 * x.1 - x.2) + x.2 by omega, Nat.add_mod_right, Nat.mod_eq_of_lt (show 2 * x.1 - x.2 < x.2 by omega)]
        congr 1
        omega
  rw [e, red_mirN hp (Nat.le_of_lt (Nat.mod_lt _ hp)), Nat.mod_mod]
theorem mir_it {x : Nat × Nat} (h : Plc x) (i : Nat) : itN i (mirN x) = mirN (itN i x) := by
  induction i with
  | zero => rfl
  | succ i ih => rw [itN_succ, ih, mir_dbl (it_plc h i), itN_succ]
theorem mir_digs {x : Nat × Nat} (h : Plc x) (hn : ∀ i, i < wayN x + perN x → (itN i x).1 ≠ 0 ∧ 2 * (itN i x).1 ≠ (itN i x).2) : frontL (mirN x) = (frontL x).map swC ∧ backL (mirN x) = (backL x).map swC := by
  have hw : wayN (mirN x) = wayN x := rfl
  have hpr : perN (mirN x) = perN x := rfl
  have hd : digL (mirN x) = (digL x).map swC := by
    unfold digL orbN
    rw [hw, hpr, List.map_map, List.map_map, List.map_map]
    apply List.map_congr_left
    intro i hi
    have := hn i (List.mem_range.mp hi)
    have hl := (it_plc h i).lt
    show dig (itN i (mirN x)) = swC (dig (itN i x))
    rw [mir_it h]
    unfold dig mirN swC
    simp only [if_neg this.1]
    by_cases z : 2 * (itN i x).1 < (itN i x).2
    · rw [if_pos z, if_neg (by omega), if_neg (by decide)]
    · rw [if_neg z, if_pos (by omega), if_pos rfl]
  unfold frontL backL
  rw [hd, hw, List.map_take, List.map_drop]
  exact ⟨rfl, rfl⟩
/-- a place that comes to zero has the cycle "0" -/
theorem zero_back {x : Nat × Nat} (h : Plc x) {i : Nat} (hi : (itN i x).1 = 0) : backL x = [48] := by
  have hz : ∀ y : Nat × Nat, Plc y → y.1 = 0 → y = (0, 1) := by
    intro y hy e
    have hc := hy.cop
    rw [e] at hc
    have : y.2 = 1 := by simpa [Nat.Coprime] using hc
    exact Prod.ext e this
  have e0 : itN i x = (0, 1) := hz _ (it_plc h i) hi
  have d0 : dblN (0, 1) = (0, 1) := by decide
  have e1 : itN (i + 1) x = itN i x := by rw [itN_succ, e0, d0]
  have w := ways h
  have hper : perN x = 1 := by
    have h1 := (w.eq i (i + 1) (by omega)).mp e1.symm
    have h2 := w.lt 1 (by omega)
    have h3 := w.n1
    by_cases z : perN x = 1
    · exact z
    · have := h2 (by omega)
      rw [show i + 1 - i = 1 by omega] at h1
      exact absurd h1.2 this
  have hway : wayN x ≤ i := ((w.eq i (i + 1) (by omega)).mp e1.symm).1
  have e2 : itN (wayN x) x = (0, 1) := by
    have hb := w.back
    rw [hper] at hb
    have : ∀ k, itN (wayN x + k) x = itN (wayN x) x := by
      intro k
      induction k with
      | zero => rfl
      | succ k ih => rw [← Nat.add_assoc, itN_succ, ih, ← itN_succ, hb]
    have := this (i - wayN x)
    rw [show wayN x + (i - wayN x) = i by omega] at this
    rw [← this, e0]
  unfold backL
  rw [digL_drop, hper]
  show [dig (itN (wayN x + 0) x)] = [48]
  rw [Nat.add_zero, e2]
  rfl
theorem half_zero {y : Nat × Nat} (h : Plc y) (e : 2 * y.1 = y.2) : (dblN y).1 = 0 := by
  rw [dbl_red h, e, Nat.mod_self]
  show 0 / _ = 0
  simp
theorem rep_dg {n : Nat} {l : List Nat} (h : Dg l) : Dg (List.replicate n l).flatten := by
  intro c hc
  obtain ⟨y, hy, hc⟩ := List.mem_flatten.mp hc
  rw [(List.mem_replicate.mp hy).2] at hc
  exact h c hc
theorem repl_len (n : Nat) (l : List Nat) : (List.replicate n l).flatten.length = n * l.length := by
  induction n with
  | zero => simp
  | succ n ih => rw [List.replicate_succ, List.flatten_cons, List.length_append, ih, Nat.succ_mul]; omega
theorem dg_one : Dg [49] := fun c hc => by simp at hc; exact .inr hc
theorem dg_zero : Dg [48] := fun c hc => by simp at hc; exact .inl hc
theorem dg_nil : Dg [] := fun c hc => by cases hc
end Tw
namespace Tw
open PySem PySem.Spec PyProof.Rows L2
namespace Bn
open PySem.NumText PySem.Calls
def IsB (c : Nat) : Prop := c = 48 ∨ c = 49
theorem hexOf {c : Nat} (h : IsB c) : Hx.IsHex c := by rcases h with rfl | rfl <;> exact .inl ⟨by decide, by decide⟩
theorem one_step {ds : Array Nat} {b : Bool} {c : Nat} (h : IsB c) : PySem.NumText.step 2 (ds, b) c = some (ds.push (c - 48), true) := by
  rcases h with rfl | rfl <;> rfl
theorem all_steps (cs : List Nat) : ∀ ds : Array Nat, (∀ c ∈ cs, IsB c) → cs.foldlM (PySem.NumText.step 2) (ds, true) = some (cs.foldl (fun r c => r.push (c - 48)) ds, true) := by
  induction cs with
  | nil => intro _ _; rfl
  | cons c cs ih =>
    intro ds h
    rw [List.foldlM_cons, one_step (h c List.mem_cons_self)]
    exact ih _ fun d hd => h d (List.mem_cons_of_mem _ hd)
theorem digitsB {cs : List Nat} (h : ∀ c ∈ cs, IsB c) (hne : cs ≠ []) : digits? 2 cs = some (cs.foldl (fun r c => r.push (c - 48)) #[]) := by
  obtain ⟨c, r, rfl⟩ := List.exists_cons_of_ne_nil hne
  unfold digits?
  rw [List.foldlM_cons, one_step (h c List.mem_cons_self)]
  have := all_steps r ((#[] : Array Nat).push (c - 48)) fun d hd => h d (List.mem_cons_of_mem _ hd)
  show (r.foldlM (PySem.NumText.step 2) ((#[] : Array Nat).push (c - 48), true)).bind _ = _
  rw [this]
  rfl
/-- what the signs are worth -/
def val (l : List Nat) : Nat := l.foldl (fun a c => 2 * a + (c - 48)) 0
theorem val_push (cs : List Nat) : ∀ ds : Array Nat, (cs.foldl (fun r c => r.push (c - 48)) ds).foldl (fun acc d => acc * 2 + d) 0 = cs.foldl (fun a c => 2 * a + (c - 48)) (ds.foldl (fun acc d => acc * 2 + d) 0) := by
  induction cs with
  | nil => intro _; rfl
  | cons c cs ih =>
    intro ds
    rw [List.foldl_cons, ih, List.foldl_cons]
    congr 1
    simp
    omega
theorem basedB {cs : List Nat} (h : ∀ c ∈ cs, IsB c) : based 2 cs = (2, false, cs) := by
  match cs, h with
  | [], _ => rfl
  | [a], h => rcases h a List.mem_cons_self with rfl | rfl <;> rfl
  | a :: c :: r, h =>
    rcases h a List.mem_cons_self with rfl | rfl
    · rcases h c (List.mem_cons_of_mem _ List.mem_cons_self) with rfl | rfl <;> rfl
    · rfl
theorem readB {cs : List Nat} (h : ∀ c ∈ cs, IsB c) (hne : cs ≠ []) : (int_private% "readNumeral") 0 2 cs = (int_private% "Numeral.value") ((val cs : Nat) : Int) := by
  have hx : ∀ c ∈ cs, Hx.IsHex c := fun c hc => hexOf (h c hc)
  have hr : ∀ c ∈ cs.reverse, Hx.IsHex c := fun c hc => hx c (List.mem_reverse.mp hc)
  rw [readNumeral_eq 0 2 cs, Hx.dropB hx, Hx.signH hx]
  show judge 0 false (based 2 cs).1 (based 2 cs).2.1 (digits? (based 2 cs).1 (((based 2 cs).2.2.reverse.dropWhile blank).reverse)) = _
  rw [basedB h]
  show judge 0 false 2 false (digits? 2 ((cs.reverse.dropWhile blank).reverse)) = _
  rw [Hx.dropB hr, List.reverse_reverse, digitsB h hne]
  show (int_private% "Numeral.value") (((cs.foldl (fun r c => r.push (c - 48)) (#[] : Array Nat)).foldl (fun acc d => acc * 2 + d) 0 : Nat) : Int) = _
  rw [val_push]
  rfl
structure Box (p : Prop) : Prop where
  out : p
set_option maxHeartbeats 4000000 in
theorem gives {x : PySem.Str} {u t : Tok} (hl : x.length ≤ 640) (h : ∀ c ∈ x.cps.toList, IsB c) (hne : x.cps.toList ≠ []) :
    Gives (Builtin.«int.__new__» ⟨[.type "int", .str x u, .int 2 t], []⟩) (.int ((val x.cps.toList : Nat) : Int)) :=
  .of_wp fun M A E s Q hQ => by
    obtain ⟨hp, g, d, tk, os⟩ := s
    have a1 := F.conv_sub_int
    have a2 := F.madeHere_int
    have a3 : typeOf (.str x u) = pure (.type "str") := rfl
    obtain ⟨b1, b2⟩ := Hx.seen_hex (x := x) fun c hc => hexOf (h c hc)
    have c1 : (numSeenOf x).length ≤ 640 := by rw [b2, Array.length_toList]; exact hl
    have c2 : (int_private% "readNumeral") 0 2 (numSeenOf x) = (int_private% "Numeral.value") ((val x.cps.toList : Nat) : Int) := by rw [b2]; exact readB h hne
    have c3 : ((numSeenOf x).length == (numTextOf x).length) = true := by rw [b1, b2]; exact beq_self_eq_true _
    have k := Box.mk (And.intro c1 (And.intro c2 c3))
    clear c1 c2 c3 b1 b2 hl hne h
    repeat (any_goals (first
      | assumption
      | ((with_reducible show wpAny _ _ ((int_private% "intFromText") _ _ _) _ _ _); refine Hx.wp_textB k.out.1 k.out.2.1 k.out.2.2 ?_)
      | wp_step))
    all_goals first | exact ⟨_, rfl, hQ⟩ | skip
end Bn
def rIntB : List V → Hp → VK → Prop := fun xs H Q => ∃ l : List Nat, xs = [.str (Sg l), .int 2] ∧ l ≠ [] ∧ l.length ≤ 640 ∧ (∀ c ∈ l, Bn.IsB c) ∧ Q (.int ((Bn.val l : Nat) : Int)) H
theorem cl_intB {X : Cx} : CallR X (.type "int") rIntB := by
  intro pins s σ H xs us Q I r h
  obtain ⟨l, rfl, hne, hl, hx, q⟩ := h
  obtain ⟨u, w', rfl, r1, r2⟩ := vals2 r
  obtain ⟨t1, rfl⟩ := r1
  obtain ⟨t2, rfl⟩ := r2
  have e := sg_tl l
  refine callType_new PySem.F.called_int PySem.F.newNe_int (Hx.typeCall_int_2 _ _) (Hx.newCall_int_2 _ _) (fun obj => PySem.F.initArgs_range_2 obj _ _) PySem.F.entry_int_new (Bn.gives (x := Sg l) (by rw [sg_len]; exact hl) (by rw [e]; exact hx) (by rw [e]; exact hne)).meets (show (Made.int ((Bn.val (Sg l).cps.toList : Nat) : Int)).post _ s from ⟨rfl, ?_⟩)
  rw [e]
  exact ⟨.int _, H, I.tok _, ⟨_, rfl⟩, q⟩
end Tw
namespace Tw
open PySem PySem.Spec PyProof.Rows L2
/-- a test whose way returns nothing but False, and that doesn't hold -/
theorem w_check {t : TS} {D : Ends} {σ : L2.St} {H : Hp} (h : ∀ nx' : L2.St → Hp → Prop, (∀ H', Same H H' → nx' σ H') → t { D with nx := nx' } σ H) (k : ∀ H', Same H H' → D.nx σ H') : t D σ H := h D.nx k
end Tw
namespace Tw
open PySem PySem.Spec PyProof.Rows L2
/-! ### going back by halves -/
/-- (x + j) / 2 ^ k -/
def hvN (x : Nat × Nat) (k j : Nat) : Nat × Nat := red (x.1 + j * x.2) (2 ^ k * x.2)
theorem hv_zero {x : Nat × Nat} (h : Plc x) : hvN x 0 0 = x := by
  unfold hvN
  rw [Nat.zero_mul, Nat.add_zero, Nat.pow_zero, Nat.one_mul]
  exact red_self h.cop
theorem hv_top {x : Nat × Nat} (h : Plc x) {k j : Nat} (hj : j < 2 ^ k) : x.1 + j * x.2 < 2 ^ k * x.2 := by
  have : (j + 1) * x.2 ≤ 2 ^ k * x.2 := Nat.mul_le_mul_right _ hj
  have := h.lt
  rw [Nat.add_mul, Nat.one_mul] at *
  omega
theorem hv_plc {x : Nat × Nat} (h : Plc x) {m n k j : Nat} (hn : 1 ≤ n) (hmn : m + k + n ≤ 24) (hd : x.2 ∣ 2 ^ m * (2 ^ n - 1)) (hj : j < 2 ^ k) : Plc (hvN x k j) := by
  have hp := h.pos
  have hq : 0 < 2 ^ k * x.2 := Nat.mul_pos (two_pow_pos k) hp
  refine ⟨red_lt (hv_top h hj), red_coprime hq, m + k, n, hn, by omega, ?_⟩
  refine Nat.dvd_trans red_dvd ?_
  rw [Nat.pow_add, Nat.mul_comm (2 ^ m), Nat.mul_assoc]
  exact Nat.mul_dvd_mul_left _ hd
theorem red_half (p q : Nat) (hq : 0 < q) (c : Nat) : red ((red p q).1 + c * (red p q).2) (2 * (red p q).2) = red (p + c * q) (2 * q) := by
  have hc := red_cross (p := p) (q := q)
  have h0 := red_pos (p := p) hq
  refine red_eq (by omega) (by omega) ?_
  generalize red p q = r at *
  grind
theorem hv_low {x : Nat × Nat} (h : Plc x) (k j : Nat) : red (hvN x k j).1 (2 * (hvN x k j).2) = hvN x (k + 1) j := by
  have hq : 0 < 2 ^ k * x.2 := Nat.mul_pos (two_pow_pos k) h.pos
  have := red_half (x.1 + j * x.2) (2 ^ k * x.2) hq 0
  rw [Nat.zero_mul, Nat.zero_mul, Nat.add_zero, Nat.add_zero] at this
  show red (red _ _).1 _ = _
  unfold hvN
  rw [this, Nat.pow_succ]
  congr 1
  rw [Nat.mul_comm (2 ^ k) 2, Nat.mul_assoc]
theorem hv_high {x : Nat × Nat} (h : Plc x) (k j : Nat) : red ((hvN x k j).1 + (hvN x k j).2) (2 * (hvN x k j).2) = hvN x (k + 1) (j + 2 ^ k) := by
  have hq : 0 < 2 ^ k * x.2 := Nat.mul_pos (two_pow_pos k) h.pos
  have := red_half (x.1 + j * x.2) (2 ^ k * x.2) hq 1
  rw [Nat.one_mul, Nat.one_mul] at this
  unfold hvN
  rw [this, Nat.pow_succ]
  congr 1
  · rw [Nat.add_mul, Nat.add_assoc]
  · rw [Nat.mul_comm (2 ^ k) 2, Nat.mul_assoc]
/-- the numbers of the rows, in their turn -/
def jsN : Nat → List Nat
  | 0 => [0]
  | k + 1 => (jsN k).flatMap fun j => [j, j + 2 ^ k]
theorem js_len (k : Nat) : (jsN k).length = 2 ^ k := by
  induction k with
  | zero => rfl
  | succ k ih =>
    have : ∀ l : List Nat, (l.flatMap fun j => [j, j + 2 ^ k]).length = 2 * l.length := by
      intro l
      induction l with
      | nil => rfl
      | cons a r ih => rw [List.flatMap_cons, List.length_append, ih]; simp; omega
    rw [jsN, this, ih, Nat.pow_succ]; omega
theorem js_mem (k j : Nat) : j ∈ jsN k ↔ j < 2 ^ k := by
  induction k generalizing j with
  | zero => simp [jsN]
  | succ k ih =>
    rw [jsN, List.mem_flatMap, Nat.pow_succ]
    constructor
    · rintro ⟨i, hi, hj⟩
      have := (ih i).mp hi
      simp at hj
      omega
    · intro h
      by_cases z : j < 2 ^ k
      · exact ⟨j, (ih j).mpr z, by simp⟩
      · exact ⟨j - 2 ^ k, (ih _).mpr (by omega), by simp; omega⟩
/-- the places (x + j) / 2 ^ k by size -/
def dueN (x : Nat × Nat) (k : Nat) : List (Nat × Nat) := (List.range (2 ^ k)).map (hvN x k)
theorem hv_sz {x : Nat × Nat} (h : Plc x) {k j : Nat} (hy : Plc (hvN x k j)) : sz (hvN x k j) * (2 ^ k * x.2) = (x.1 + j * x.2) * CN := by
  have hq : 0 < 2 ^ k * x.2 := Nat.mul_pos (two_pow_pos k) h.pos
  have h1 := sz_mul hy
  have h2 := red_cross (p := x.1 + j * x.2) (q := 2 ^ k * x.2)
  have h0 := hy.pos
  change (hvN x k j).1 * _ = _ * (hvN x k j).2 at h2
  have : sz (hvN x k j) * (2 ^ k * x.2) * (hvN x k j).2 = (x.1 + j * x.2) * CN * (hvN x k j).2 := by
    generalize hvN x k j = y at *
    generalize 2 ^ k * x.2 = B at *
    generalize x.1 + j * x.2 = A at *
    calc sz y * B * y.2 = sz y * y.2 * B := by grind
      _ = y.1 * CN * B := by rw [h1]
      _ = y.1 * B * CN := by grind
      _ = A * y.2 * CN := by rw [h2]
      _ = A * CN * y.2 := by grind
  exact Nat.eq_of_mul_eq_mul_right h0 this
theorem hv_less {x : Nat × Nat} (h : Plc x) {k i j : Nat} (hi : Plc (hvN x k i)) (hj : Plc (hvN x k j)) (hij : i < j) : sz (hvN x k i) < sz (hvN x k j) := by
  have hq : 0 < 2 ^ k * x.2 := Nat.mul_pos (two_pow_pos k) h.pos
  have e1 := hv_sz h hi
  have e2 := hv_sz h hj
  have hlt : (x.1 + i * x.2) * CN < (x.1 + j * x.2) * CN := by
    refine Nat.mul_lt_mul_of_pos_right ?_ CN_pos
    have := Nat.mul_lt_mul_of_pos_right hij h.pos
    omega
  rw [← e1, ← e2] at hlt
  exact Nat.lt_of_mul_lt_mul_right hlt
/-- two lists that ascend and have the same places are one -/
theorem asc_unique : ∀ {xs ys : List (Nat × Nat)}, xs.Pairwise (fun x y => sz x < sz y) → ys.Pairwise (fun x y => sz x < sz y) → (∀ x, x ∈ xs ↔ x ∈ ys) → xs = ys := by
  intro xs
  induction xs with
  | nil =>
    intro ys _ _ h
    cases ys with
    | nil => rfl
    | cons y ys => exact absurd ((h y).mpr List.mem_cons_self) (by simp)
  | cons x xs ih =>
    intro ys h1 h2 h
    cases ys with
    | nil => exact absurd ((h x).mp List.mem_cons_self) (by simp)
    | cons y ys =>
      cases h1 with
      | cons a1 b1 => cases h2 with
        | cons a2 b2 =>
          have hxy : x = y := by
            rcases List.mem_cons.mp ((h x).mp List.mem_cons_self) with e | hx
            · exact e
            · rcases List.mem_cons.mp ((h y).mpr List.mem_cons_self) with e | hy
              · exact e.symm
              · have := a2 x hx; have := a1 y hy; omega
          subst hxy
          congr 1
          refine ih b1 b2 fun z => ?_
          constructor
          · intro hz
            rcases List.mem_cons.mp ((h z).mp (List.mem_cons_of_mem _ hz)) with e | h'
            · have := a1 z hz; rw [e] at this; omega
            · exact h'
          · intro hz
            rcases List.mem_cons.mp ((h z).mpr (List.mem_cons_of_mem _ hz)) with e | h'
            · have := a2 z hz; rw [e] at this; omega
            · exact h'
theorem due_asc {x : Nat × Nat} (h : Plc x) {k : Nat} (hy : ∀ j, j < 2 ^ k → Plc (hvN x k j)) : (dueN x k).Pairwise fun x y => sz x < sz y := by
  unfold dueN
  rw [List.pairwise_map]
  refine List.Pairwise.imp_of_mem ?_ (List.pairwise_lt_range (n := 2 ^ k))
  intro i j hi hj hij
  exact hv_less h (hy i (List.mem_range.mp hi)) (hy j (List.mem_range.mp hj)) hij
theorem due_mem {x : Nat × Nat} {k : Nat} {y : Nat × Nat} : y ∈ dueN x k ↔ ∃ j, j < 2 ^ k ∧ hvN x k j = y := by
  unfold dueN
  rw [List.mem_map]
  constructor
  · rintro ⟨j, hj, e⟩; exact ⟨j, List.mem_range.mp hj, e⟩
  · rintro ⟨j, hj, e⟩; exact ⟨j, List.mem_range.mpr hj, e⟩
/-- doubled so many times, it is x -/
theorem dbl_hv {x : Nat × Nat} (h : Plc x) {k j : Nat} (hy : Plc (hvN x (k + 1) j)) : dblN (hvN x (k + 1) j) = hvN x k (j % 2 ^ k) := by
  have hp := h.pos
  have hq : 0 < 2 ^ k * x.2 := Nat.mul_pos (two_pow_pos k) hp
  have hq1 : 0 < 2 ^ (k + 1) * x.2 := Nat.mul_pos (two_pow_pos _) hp
  have hl : x.1 + j * x.2 < 2 ^ (k + 1) * x.2 := by
    have := hy.lt
    have hc := red_cross (p := x.1 + j * x.2) (q := 2 ^ (k + 1) * x.2)
    have h0 := hy.pos
    change (hvN x (k + 1) j).1 * _ = _ * (hvN x (k + 1) j).2 at hc
    have h3 : (hvN x (k + 1) j).1 * (2 ^ (k + 1) * x.2) < (hvN x (k + 1) j).2 * (2 ^ (k + 1) * x.2) := Nat.mul_lt_mul_of_pos_right this hq1
    rw [hc, Nat.mul_comm] at h3
    exact Nat.lt_of_mul_lt_mul_left h3
  rw [dbl_red hy]
  unfold hvN
  rw [red_mod2 hq1 hl]
  have e1 : 2 ^ (k + 1) * x.2 = 2 * (2 ^ k * x.2) := by rw [Nat.pow_succ, Nat.mul_comm (2 ^ k) 2, Nat.mul_assoc]
  rw [e1, Nat.mul_mod_mul_left]
  have e2 : (x.1 + j * x.2) % (2 ^ k * x.2) = x.1 + j % 2 ^ k * x.2 := by
    have hm := Nat.mod_lt j (two_pow_pos k)
    have hd := Nat.div_add_mod j (2 ^ k)
    have : x.1 + j * x.2 = (x.1 + j % 2 ^ k * x.2) + (2 ^ k * x.2) * (j / 2 ^ k) := by
      conv => lhs; rw [← hd]
      grind
    rw [this, Nat.add_mul_mod_self_left, Nat.mod_eq_of_lt (hv_top h hm)]
  rw [e2]
  refine red_eq (by omega) hq ?_
  grind
theorem it_hv {x : Nat × Nat} (h : Plc x) : ∀ (k j : Nat), (∀ i, i ≤ k → ∀ j, j < 2 ^ i → Plc (hvN x i j)) → j < 2 ^ k → itN k (hvN x k j) = x := by
  intro k
  induction k with
  | zero =>
    intro j _ hj
    have : j = 0 := by simpa using hj
    subst this
    exact hv_zero h
  | succ k ih =>
    intro j hy hj
    show itN k (dblN (hvN x (k + 1) j)) = x
    rw [dbl_hv h (hy (k + 1) (Nat.le_refl _) j hj)]
    exact ih _ (fun i hi => hy i (by omega)) (Nat.mod_lt _ (two_pow_pos k))
theorem it_ways {x : Nat × Nat} (h : Plc x) (k : Nat) : wayN (itN k x) = wayN x - k ∧ perN (itN k x) = perN x := by
  induction k with
  | zero => exact ⟨rfl, rfl⟩
  | succ k ih =>
    rw [itN_succ]
    have := dbl_ways (it_plc h k)
    rw [ih.1, ih.2] at this
    exact ⟨by rw [this.1]; omega, this.2⟩
/-! ### texts of digits ahead -/
def hdsN : Nat → List (List Nat)
  | 0 => [[]]
  | k + 1 => (hdsN k).map (48 :: ·) ++ (hdsN k).map (49 :: ·)
theorem hds_len (k : Nat) : (hdsN k).length = 2 ^ k ∧ ∀ t ∈ hdsN k, t.length = k ∧ Dg t := by
  induction k with
  | zero => exact ⟨rfl, fun t ht => by simp [hdsN] at ht; subst ht; exact ⟨rfl, dg_nil⟩⟩
  | succ k ih =>
    constructor
    · rw [hdsN, List.length_append, List.length_map, List.length_map, ih.1, Nat.pow_succ]; omega
    · intro t ht
      rw [hdsN, List.mem_append, List.mem_map, List.mem_map] at ht
      have go : ∀ c, (c = 48 ∨ c = 49) → ∀ s, s ∈ hdsN k → (c :: s).length = k + 1 ∧ Dg (c :: s) := by
        intro c hc s hs
        have := ih.2 s hs
        refine ⟨by simp [this.1], fun d hd => ?_⟩
        rcases List.mem_cons.mp hd with rfl | hd
        · exact hc
        · exact this.2 d hd
      rcases ht with ⟨s, hs, rfl⟩ | ⟨s, hs, rfl⟩
      · exact go 48 (.inl rfl) s hs
      · exact go 49 (.inr rfl) s hs
theorem hds_bv (k : Nat) : (hdsN k).map bv = List.range (2 ^ k) := by
  induction k with
  | zero => rfl
  | succ k ih =>
    have hl := hds_len k
    rw [hdsN, List.map_append, List.map_map, List.map_map]
    have e1 : (hdsN k).map (bv ∘ (48 :: ·)) = (hdsN k).map bv := by
      apply List.map_congr_left
      intro t _
      show bv (48 :: t) = bv t
      rw [bv_cons]; simp
    have e2 : (hdsN k).map (bv ∘ (49 :: ·)) = ((hdsN k).map bv).map (2 ^ k + ·) := by
      rw [List.map_map]
      apply List.map_congr_left
      intro t ht
      show bv (49 :: t) = 2 ^ k + bv t
      rw [bv_cons, (hl.2 t ht).1]; simp
    rw [e1, e2, ih, Nat.pow_succ, show 2 ^ k * 2 = 2 ^ k + 2 ^ k by omega]
    exact List.range_add.symm
theorem bv_app (a b : List Nat) : bv (a ++ b) = bv a * 2 ^ b.length + bv b := by
  induction a with
  | nil => simp [bv]
  | cons c a ih =>
    rw [List.cons_append, bv_cons, ih, bv_cons, List.length_append, Nat.pow_add]
    grind
theorem bin_ahead {x : Nat × Nat} (hx : Plc x) {h c t : List Nat} (dt : Dg t) (dh : Dg h) (dc : Dg c) (hc : c ≠ []) (e : binN h c = x) (hlt : bv h * (2 ^ c.length - 1) + bv c < botN h c) : binN (t ++ h) c = hvN x t.length (bv t) := by
  have hB := botN_pos (h := h) hc
  have hB2 := botN_pos (h := t ++ h) hc
  have hp := hx.pos
  have eB : botN (t ++ h) c = 2 ^ t.length * botN h c := by
    unfold botN
    rw [List.length_append, Nat.pow_add, Nat.mul_assoc]
  have hx2 : x.1 * botN h c = (bv h * (2 ^ c.length - 1) + bv c) * x.2 := by
    have := red_cross (p := (bv h * (2 ^ c.length - 1) + bv c) % botN h c) (q := botN h c)
    rw [Nat.mod_eq_of_lt hlt] at this
    unfold binN at e
    rw [Nat.mod_eq_of_lt hlt] at e
    rw [e] at this
    exact this
  have b1 := bv_lt t dt
  have etop : bv (t ++ h) * (2 ^ c.length - 1) + bv c = bv t * botN h c + (bv h * (2 ^ c.length - 1) + bv c) := by
    rw [bv_app]
    unfold botN
    generalize 2 ^ c.length - 1 = W
    grind
  have hlt2 : bv t * botN h c + (bv h * (2 ^ c.length - 1) + bv c) < 2 ^ t.length * botN h c := by
    have : (bv t + 1) * botN h c ≤ 2 ^ t.length * botN h c := Nat.mul_le_mul_right _ b1
    rw [Nat.add_mul, Nat.one_mul] at this
    omega
  unfold binN hvN
  rw [etop, eB, Nat.mod_eq_of_lt hlt2]
  have hq : 0 < 2 ^ t.length * x.2 := Nat.mul_pos (two_pow_pos _) hp
  refine red_eq (by rw [← eB]; exact hB2) hq ?_
  generalize bv h * (2 ^ c.length - 1) + bv c = N at *
  generalize botN h c = B at *
  generalize 2 ^ t.length = T at *
  calc (bv t * B + N) * (T * x.2) = T * (bv t * B * x.2 + N * x.2) := by grind
    _ = T * (bv t * B * x.2 + x.1 * B) := by rw [hx2]
    _ = (x.1 + bv t * x.2) * (T * B) := by grind
/-- the digits of a place lie below the whole -/
theorem dig_below {x : Nat × Nat} (h : Plc x) : bv (frontL x) * (2 ^ (backL x).length - 1) + bv (backL x) < botN (frontL x) (backL x) := by
  have hp := h.pos
  have w := ways h
  have hw1 := w.n1
  have e1 := digs_val h 0 (wayN x)
  have e2 := digs_val h (wayN x) (perN x)
  rw [← digL_take, Nat.zero_add] at e1
  rw [← digL_drop] at e2
  have a0 : aN x 0 = x.1 := by unfold aN; rw [Nat.pow_zero, Nat.one_mul, Nat.mod_eq_of_lt h.lt]
  have ab : aN x (wayN x + perN x) = aN x (wayN x) := by
    have := w.back
    rw [it_aN h, it_aN h] at this
    exact red_inj hp this
  rw [a0] at e1
  rw [ab] at e2
  have hw : 1 ≤ 2 ^ perN x := two_pow_pos _
  have hB : 0 < 2 ^ wayN x * (2 ^ perN x - 1) := bot_pos hw1
  unfold botN
  rw [front_len, back_len]
  have e3 : bv (backL x) * x.2 = (2 ^ perN x - 1) * aN x (wayN x) := by
    rw [Nat.sub_mul, Nat.one_mul, ← e2]
    unfold backL
    omega
  have e4 : bv (frontL x) * x.2 + aN x (wayN x) = 2 ^ wayN x * x.1 := e1
  have : (bv (frontL x) * (2 ^ perN x - 1) + bv (backL x)) * x.2 < 2 ^ wayN x * (2 ^ perN x - 1) * x.2 := by
    have key : (bv (frontL x) * (2 ^ perN x - 1) + bv (backL x)) * x.2 = x.1 * (2 ^ wayN x * (2 ^ perN x - 1)) := by
      rw [Nat.add_mul, e3]
      generalize 2 ^ perN x - 1 = W at *
      generalize bv (frontL x) = f at *
      generalize aN x (wayN x) = A at *
      calc f * W * x.2 + W * A = W * (f * x.2 + A) := by grind
        _ = W * (2 ^ wayN x * x.1) := by rw [e4]
        _ = x.1 * (2 ^ wayN x * W) := by grind
    rw [key, Nat.mul_comm x.1]
    exact Nat.mul_lt_mul_of_pos_left h.lt hB
  exact Nat.lt_of_mul_lt_mul_right this
/-! ### mirrored -/
theorem mir_hv {x : Nat × Nat} (h : Plc x) {k j : Nat} (hj : j < 2 ^ k) : mirN (hvN x k j) = hvN (mirN x) k (if x.1 = 0 then (2 ^ k - j) % 2 ^ k else 2 ^ k - 1 - j) := by
  have hp := h.pos
  have hq : 0 < 2 ^ k * x.2 := Nat.mul_pos (two_pow_pos k) hp
  have ht := hv_top h hj
  have e := red_mirN hq (Nat.le_of_lt ht)
  rw [Nat.mod_eq_of_lt ht] at e
  unfold hvN
  rw [← e]
  show red _ _ = red ((if x.1 = 0 then 0 else x.2 - x.1) + (if x.1 = 0 then (2 ^ k - j) % 2 ^ k else 2 ^ k - 1 - j) * x.2) (2 ^ k * x.2)
  congr 1
  have hl := h.lt
  by_cases z : x.1 = 0
  · rw [if_pos z, if_pos z, z, Nat.zero_add, Nat.zero_add]
    rw [← Nat.sub_mul, Nat.mul_mod_mul_right]
  · rw [if_neg z, if_neg z, Nat.mod_eq_of_lt (by omega)]
    have : 2 ^ k * x.2 = (j + 1) * x.2 + (2 ^ k - 1 - j) * x.2 := by rw [← Nat.add_mul]; congr 1; omega
    rw [this, Nat.add_mul, Nat.one_mul]
    omega
theorem mir_due {x : Nat × Nat} (h : Plc x) (k : Nat) (y : Nat × Nat) : y ∈ (dueN x k).map mirN ↔ y ∈ dueN (mirN x) k := by
  have hp2 := two_pow_pos k
  rw [List.mem_map, due_mem]
  constructor
  · rintro ⟨z, hz, rfl⟩
    obtain ⟨j, hj, rfl⟩ := due_mem.mp hz
    refine ⟨_, ?_, (mir_hv h hj).symm⟩
    split
    · exact Nat.mod_lt _ hp2
    · omega
  · rintro ⟨j, hj, rfl⟩
    by_cases z : x.1 = 0
    · refine ⟨hvN x k ((2 ^ k - j) % 2 ^ k), due_mem.mpr ⟨_, Nat.mod_lt _ hp2, rfl⟩, ?_⟩
      rw [mir_hv h (Nat.mod_lt _ hp2), if_pos z]
      congr 1
      by_cases j0 : j = 0
      · subst j0; rw [Nat.sub_zero, Nat.mod_self, Nat.sub_zero, Nat.mod_self]
      · rw [Nat.mod_eq_of_lt (show 2 ^ k - j < 2 ^ k by omega), Nat.mod_eq_of_lt (by omega)]
        omega
    · refine ⟨hvN x k (2 ^ k - 1 - j), due_mem.mpr ⟨_, by omega, rfl⟩, ?_⟩
      rw [mir_hv h (by omega), if_neg z]
      congr 1
      omega
/-! ### readings -/
section
variable {K : PySem.W.Frag} {σ : L2.St} {H H1 : Hp} {Q : VK} {v x y : V} {ds : List PyData} {j : Nat} {vs : List Nat} {tt : TT} {te : TE}
theorem w_extend {l b : Addr} {xs zs : List V} (h : H l = some (.lst xs)) (h' : H b = some (.lst zs)) (hz : xs.length + zs.length ≤ 1000000) (q : Q .non (upd H l (.lst (xs ++ zs)))) : rExtend (.ref l) [.ref b] H Q :=
  ⟨l, b, xs, zs, rfl, rfl, h, h', by rw [sizeLine_eq]; omega, q⟩
theorem w_lstT (h : Dp K H v (.tuple ds)) (q : ∀ p H' xs, H p = none → Same H H' → H' p = some (.lst xs) → DpAll K H' xs ds → Q (.ref p) H') : rLstOf K [v] H Q := by
  obtain ⟨a, xs, rfl, hs, ha⟩ := dp_tup h
  exact ⟨a, xs, rfl, .inr hs, fun l hl => q l _ xs hl (same_new hl) upd_same (dpa_same (same_new hl) ha)⟩
/-- as lc_list_by, with the values and their data at the end -/
theorem lc_list_byA (J : Nat → List PyData → Hp → Prop) (lj : LcJ H1 J) (src : Dp K H1 x (.list ds)) (hz : ds.length ≤ 1000000) (hw : ∀ x, wipe ((wipe σ vs).set j (some x)) vs = wipe σ vs)
    (turn : ∀ i d y H' es, ds[i]? = some d → Dp K H' y d → J i es H' → LcTurn K J tt te ((wipe σ vs).set j (some y)) i es H')
    (done : ∀ p H' ws es, H1 p = none → Keep H1 H' → H' p = some (.lst ws) → DpAll K H' ws es → J ds.length es H' → Q (.ref p) H') : rLcL K j tt te vs σ x H1 Q := by
  obtain ⟨a, xs, rfl, hs, ha⟩ := dp_lst src
  have hl := dpa_len ha
  refine ⟨a, rfl, ⟨xs, hs⟩, fun D hD => lc_list (xs := xs) (LcP K J D) ⟨[], [], upd_same, .nil, rfl, Nat.le_refl _, lj.start D hD⟩ (fun i H' _ p => ?_) (fun i y H' hi p => ⟨hw y, lc_turn lj hD ?_ p fun es q => ?_⟩) fun H' p => ?_⟩
  · obtain ⟨ws, es, p1, p2, p3, p4, p5⟩ := p
    exact (lj.keep _ _ _ p5).seqL hs
  · have := (List.getElem?_eq_some_iff.mp hi).1; omega
  · obtain ⟨d, e1, e2⟩ := dpa_get2 ha hi
    exact turn i d y H' es e1 (dp_keep (lj.keep _ _ _ q) e2) q
  · obtain ⟨ws, es, p1, p2, p3, p4, p5⟩ := p
    rw [hl] at p5
    exact done D H' ws es hD (lj.keep _ _ _ p5) p1 p2 p5
theorem noLs_pd (l : List (Nat × Nat)) : noLs (l.map pd) = true := by
  induction l with
  | nil => rfl
  | cons u r ih => simp only [List.map_cons, noLs, pd_noL, Bool.true_and]; exact ih
theorem pln_pds (l : List (Nat × Nat)) : pln 9 (.list (l.map pd)) = true := pln_list fun z hz => by
  obtain ⟨u, _, rfl⟩ := List.mem_map.mp hz
  exact pd_pln _
/-- a list walked while other objects change: what keeps it is said by the invariant -/
theorem forL_byB {σ : L2.St} {D : Ends} {g : TG} {tb : TS} {a : Addr} {xs : List V} {ds : List PyData} (Pv : Nat → L2.St → Hp → Prop) (h0 : Pv 0 σ H) (hl : xs.length = ds.length)
    (hk : ∀ i σ' H', i ≤ ds.length → Pv i σ' H' → H' a = some (.lst xs) ∧ DpAll K H' xs ds)
    (hs : ∀ i d y σ' H', ds[i]? = some d → Dp K H' y d → Pv i σ' H' → g y σ' H' fun σ2 H2 => tb { D with nx := Pv (i + 1), ct := Pv (i + 1), bk := D.nx } σ2 H2) (hd : ∀ σ' H', Pv ds.length σ' H' → D.nx σ' H') : rForL K g tb D σ (.ref a) H := by
  refine ⟨a, rfl, ⟨xs, .of (hk 0 _ _ (Nat.zero_le _) h0).1⟩, for_list (xs := xs) Pv h0 (fun i σ' H' hi p => .of (hk i σ' H' (by omega) p).1) (fun i y σ' H' hi p => ?_) (fun σ' H' p => hd σ' H' (by rw [← hl]; exact p))⟩
  have hlt := (List.getElem?_eq_some_iff.mp hi).1
  obtain ⟨d, e1, e2⟩ := dpa_get2 (hk i σ' H' (by omega) p).2 hi
  exact hs i d y σ' H' e1 e2 p
end
end Tw
namespace Tw
open PySem PySem.Spec PyProof.Rows L2
/-! ### which bottoms are those of places -/
def reachB (b : Nat) : Bool := decide (b < 2 ^ 24) && !decide (ordN (oddOf b) = 0) && decide (twos b + ordN (oddOf b) ≤ 24)
theorem ord_dvd {o : Nat} (h : ordN o ≠ 0) : ordN o ≤ 24 ∧ o ∣ 2 ^ ordN o - 1 := by
  unfold ordN at h ⊢
  cases hf : (List.range 24).find? (fun i => (2 ^ (i + 1) - 1) % o == 0) with
  | none => rw [hf] at h; exact absurd rfl h
  | some i =>
    rw [List.find?_range_eq_some] at hf
    obtain ⟨p, hi, _⟩ := hf
    rw [beq_iff_eq] at p
    have := List.mem_range.mp hi
    exact ⟨by show i + 1 ≤ 24; omega, Nat.dvd_of_mod_eq_zero p⟩
theorem reach_iff {b : Nat} (h0 : 0 < b) : reachB b = true ↔ ∃ m n, 1 ≤ n ∧ m + n ≤ 24 ∧ b ∣ 2 ^ m * (2 ^ n - 1) := by
  unfold reachB
  rw [Bool.and_eq_true, Bool.and_eq_true, decide_eq_true_eq, decide_eq_true_eq, Bool.not_eq_true', decide_eq_false_iff_not]
  constructor
  · rintro ⟨⟨h1, h2⟩, h3⟩
    obtain ⟨e, _⟩ := odd_spec h0 (show b < 2 ^ 60 by omega)
    obtain ⟨_, d⟩ := ord_dvd h2
    refine ⟨twos b, ordN (oddOf b), by omega, h3, ?_⟩
    conv => lhs; rw [e]
    exact Nat.mul_dvd_mul_left _ d
  · rintro ⟨m, n, hn, hmn, d⟩
    have hlt : b < 2 ^ 24 := Nat.lt_of_le_of_lt (Nat.le_of_dvd (bot_pos hn) d) (bot_lt hmn)
    obtain ⟨e, ho⟩ := odd_spec h0 (show b < 2 ^ 60 by omega)
    rw [e] at d
    obtain ⟨d1, d2⟩ := (dvd_split ho hn).mp d
    obtain ⟨o1, o2, _, _⟩ := ord_spec hn (by omega) d2
    exact ⟨⟨hlt, by omega⟩, by omega⟩
theorem reach_plc {x : Nat × Nat} (h : x.1 < x.2) (hc : Nat.Coprime x.1 x.2) : reachB x.2 = true ↔ Plc x :=
  ⟨fun r => ⟨h, hc, (reach_iff (by omega)).mp r⟩, fun p => (reach_iff (by omega)).mpr p.bot⟩
theorem bits_gt {b k : Nat} (h1 : 0 < b) (h : 2 ^ k ≤ b) : k < Builtin.Int.intBits (b : Int) := by
  unfold Builtin.Int.intBits
  have e : ((b : Int) == 0) = false := beq_eq_false_iff_ne.mpr fun z => by omega
  rw [e, Int.natAbs_natCast]
  have : ¬ b.log2 < k := fun z => by
    have := (Nat.log2_lt (by omega : b ≠ 0)).mp z
    omega
  simp
  omega
/-! ### what comes of doubling, for more steps than a place may have -/
structure OO (x : Nat × Nat) (m n : Nat) : Prop where
  n1 : 1 ≤ n
  le : m + n ≤ 60
  back : itN (m + n) x = itN m x
  ne : ∀ {i j}, i < j → j < m + n → itN i x ≠ itN j x
  sm : ∀ i, (itN i x).1 < (itN i x).2 ∧ (itN i x).2 < 2 ^ 59
theorem oo_plc {x : Nat × Nat} (h : Plc x) : OO x (wayN x) (perN x) := by
  have w := ways h
  have := w.le
  refine ⟨w.n1, by omega, w.back, w.ne, fun i => ?_⟩
  have p := it_plc h i
  exact ⟨p.lt, Nat.lt_trans p.small (by decide)⟩
theorem oo_pre {x : Nat × Nat} {m n i : Nat} (h : OO x m n) (hi : i ≤ m + n) : itN i x ∈ preN x i ↔ i = m + n := by
  constructor
  · intro hm
    obtain ⟨j, hj, e⟩ := List.mem_map.mp hm
    have hj := List.mem_range.mp hj
    by_cases z : i = m + n
    · exact z
    · exact absurd e (h.ne hj (by omega))
  · intro e
    subst e
    have := h.n1
    rw [h.back]
    exact List.mem_map.mpr ⟨m, List.mem_range.mpr (by omega), rfl⟩
/-- doubling, of any fraction in lowest terms -/
theorem dbl_any {x : Nat × Nat} (hl : x.1 < x.2) (hc : Nat.Coprime x.1 x.2) : dblN x = red (2 * x.1 % x.2) x.2 := by
  have hp : 0 < x.2 := by omega
  symm
  unfold dblN
  split
  · rename_i e
    have hx : x.2 = 2 * (x.2 / 2) := by omega
    have hc2 : Nat.Coprime x.1 (x.2 / 2) := Nat.Coprime.coprime_dvd_right ⟨2, by omega⟩ hc
    have hm : Nat.Coprime (x.1 % (x.2 / 2)) (x.2 / 2) := by
      unfold Nat.Coprime at hc2 ⊢
      rw [← Nat.gcd_rec, Nat.gcd_comm]
      exact hc2
    refine red_of hm (show 0 < x.2 / 2 by omega) hp ?_
    have e2 : 2 * x.1 % x.2 = 2 * (x.1 % (x.2 / 2)) := by
      conv => lhs; rw [hx]
      rw [Nat.mul_mod_mul_left]
    rw [e2]
    show x.1 % (x.2 / 2) * x.2 = 2 * (x.1 % (x.2 / 2)) * (x.2 / 2)
    generalize x.1 % (x.2 / 2) = y
    rw [Nat.mul_comm 2 y, Nat.mul_assoc, ← hx]
  · rename_i e
    have h2 : Nat.Coprime 2 x.2 := by
      unfold Nat.Coprime
      rw [Nat.gcd_rec, show x.2 % 2 = 1 by omega]
      rfl
    have hm : Nat.Coprime (2 * x.1 % x.2) x.2 := by
      have := Nat.Coprime.mul_left h2 hc
      unfold Nat.Coprime at this ⊢
      rw [← Nat.gcd_rec, Nat.gcd_comm]
      exact this
    exact red_of hm hp hp rfl
theorem dbl_half {x : Nat × Nat} (h : Plc x) {c : Nat} (hc : c = 0 ∨ c = 1) : dblN (red (x.1 + c * x.2) (2 * x.2)) = x := by
  have hp := h.pos
  have hl := h.lt
  have h1 : x.1 + c * x.2 < 2 * x.2 := by rcases hc with rfl | rfl <;> omega
  rw [dbl_any (red_lt h1) (red_coprime (by omega)), red_mod2 (by omega) h1]
  have e : 2 * (x.1 + c * x.2) % (2 * x.2) = 2 * x.1 := by
    rw [Nat.mul_mod_mul_left]
    congr 1
    rcases hc with rfl | rfl
    · rw [Nat.zero_mul, Nat.add_zero, Nat.mod_eq_of_lt hl]
    · rw [Nat.one_mul, Nat.add_mod_right, Nat.mod_eq_of_lt hl]
  rw [e]
  refine red_of h.cop hp (by omega) ?_
  rw [← Nat.mul_assoc, Nat.mul_comm x.1 2]
theorem oo_half {x h : Nat × Nat} (hx : Plc x) (hh : dblN h = x) (hn : ¬ Plc h) (hs : h.1 < h.2 ∧ h.2 < 2 ^ 59) : OO h (wayN x + 1) (perN x) := by
  have w := ways hx
  have hle := w.le
  have it : ∀ i, itN (i + 1) h = itN i x := fun i => by show itN i (dblN h) = _; rw [hh]
  refine ⟨w.n1, by omega, ?_, fun {i j} hij hj => ?_, fun i => ?_⟩
  · rw [show wayN x + 1 + perN x = (wayN x + perN x) + 1 by omega, it, it, w.back]
  · obtain ⟨j, rfl⟩ : ∃ k, j = k + 1 := ⟨j - 1, by omega⟩
    rw [it]
    cases i with
    | zero =>
      intro e
      have : h = itN j x := e
      rw [this] at hn
      exact hn (it_plc hx j)
    | succ i => rw [it]; exact w.ne (by omega) (by omega)
  · cases i with
    | zero => exact hs
    | succ i =>
      rw [it]
      have p := it_plc hx i
      exact ⟨p.lt, Nat.lt_trans p.small (by decide)⟩
theorem mir_mir {x : Nat × Nat} (h : x.1 < x.2) : mirN (mirN x) = x := by
  obtain ⟨a, b⟩ := x
  unfold mirN
  dsimp only at h ⊢
  by_cases z : a = 0
  · rw [if_pos z, if_pos rfl, z]
  · rw [if_neg z, if_neg (by omega), show b - (b - a) = a by omega]
/-- four statements as one -/
theorem w_join4 {t u v w r : TS} {D : Ends} {σ : L2.St} {H : Hp} (h : tSeq t (tSeq u (tSeq v w)) { D with nx := r D } σ H) : tSeq t (tSeq u (tSeq v (tSeq w r))) D σ H := h
end Tw
namespace Tw
open PySem PySem.Spec PyProof.Rows L2
/-! ### which values are places -/
def isI : PyData → Bool
  | .int _ => true
  | _ => false
def plD : PyData → Bool
  | .tuple [.int a, .int b] => decide (0 ≤ a) && decide (a < b) && reachB b.toNat && decide (Nat.gcd a.toNat b.toNat = 1)
  | _ => false
theorem plD_pd {x : Nat × Nat} (h : x.1 < x.2) (hc : Nat.Coprime x.1 x.2) : plD (pd x) = reachB x.2 := by
  show (decide ((0 : Int) ≤ (x.1 : Int)) && decide ((x.1 : Int) < (x.2 : Int)) && reachB (x.2 : Int).toNat && decide (Nat.gcd (x.1 : Int).toNat (x.2 : Int).toNat = 1)) = _
  rw [decide_eq_true (show (0 : Int) ≤ (x.1 : Int) by omega), decide_eq_true (show (x.1 : Int) < (x.2 : Int) by omega), Int.toNat_natCast, Int.toNat_natCast, decide_eq_true (show Nat.gcd x.1 x.2 = 1 from hc)]
  simp
/-! ### divmod by any number but 0 -/
def rDivmodZ : List V → Hp → VK → Prop := fun xs H Q => ∃ i j : Int, xs = [.int i, .int j] ∧ j ≠ 0 ∧ j.natAbs < 2 ^ 250 ∧ ∀ p, H p = none → Q (.ref p) (upd H p (.tup [.int (i.fdiv j), .int (i.fmod j)]))
theorem cl_divmodZ {X : Cx} : CallR X (.builtin "divmod") rDivmodZ := by
  intro pins s σ H xs us Q I r h
  obtain ⟨i, j, rfl, h1, h2, q⟩ := h
  cases r with
  | cons r1 rr =>
    cases rr with
    | cons r2 rr =>
      cases rr
      obtain ⟨t, rfl⟩ := r1
      obtain ⟨t', rfl⟩ := r2
      refine divmod_int h1 ?_ (.inl (PyProof.noPylong_of_log2 (Nat.lt_of_lt_of_le (PySem.Flt.log2_lt_of (by decide) h2) (by decide))))
      have hn : H s.heap.objs.size = none := I.hok.fresh (Nat.le_refl _)
      refine ⟨.ref s.heap.objs.size, _, ?_, rfl, q _ hn⟩
      refine I.laid (fun b o e => Heap.get?_push_of_some _ e) (Nat.le_refl _) ⟨by simp only [List.length_cons, List.length_nil]; rw [sizeLine_eq]; decide, [.int (i.fdiv j) s.toks, .int (i.fmod j) (s.toks + 1)], .cons ⟨_, rfl⟩ (.cons ⟨_, rfl⟩ .nil), ?_⟩
      exact ⟨_, Heap.get?_push_size s.heap rfl, rfl, 0, rfl⟩
theorem w_divmodZ {K : PySem.W.Frag} {H : Hp} {Q : VK} {i j : Int} (h1 : j ≠ 0) (h2 : j.natAbs < 2 ^ 250) (q : ∀ p H', Same H H' → Dp K H' (.ref p) (.tuple [.int (i.fdiv j), .int (i.fmod j)]) → Q (.ref p) H') : rDivmodZ [.int i, .int j] H Q :=
  ⟨i, j, rfl, h1, h2, fun p hp => q p _ (same_new hp) (dp_newT upd_same (.cons (.int _) (.cons (.int _) .nil)))⟩
/-! ### the place at a fraction -/
def upZ (p q : Int) : Int := if 0 < q then p else -p
def madeN (p q : Int) : Nat × Nat := red (upZ p q % (q.natAbs : Int)).toNat q.natAbs
theorem made_lt {p q : Int} (hq : q ≠ 0) : (upZ p q % (q.natAbs : Int)).toNat < q.natAbs := by
  have h1 := Int.emod_nonneg (upZ p q) (show (q.natAbs : Int) ≠ 0 by omega)
  have h2 := Int.emod_lt_of_pos (upZ p q) (show (0 : Int) < (q.natAbs : Int) by omega)
  omega
theorem made_plc {p q : Int} (hq : q ≠ 0) : reachB (madeN p q).2 = true ↔ Plc (madeN p q) := reach_plc (red_lt (made_lt hq)) (red_coprime (by omega))
/-- top times CN is led by bottom without rest: the fraction over CN -/
theorem made_good {p q s : Int} (hq : q ≠ 0) (h : s * q = p * (CN : Int)) : red (s % (CN : Int)).toNat CN = madeN p q := by
  have hC := CN_pos
  have hq0 : 0 < q.natAbs := by omega
  refine red_eq hC hq0 ?_
  have h1 := Int.emod_nonneg (upZ p q) (show (q.natAbs : Int) ≠ 0 by omega)
  have h2 := Int.emod_lt_of_pos (upZ p q) (show (0 : Int) < (q.natAbs : Int) by omega)
  have h3 := Int.mul_ediv_add_emod (upZ p q) (q.natAbs : Int)
  have hs : s * (q.natAbs : Int) = upZ p q * (CN : Int) := by
    unfold upZ
    by_cases z : 0 < q
    · rw [if_pos z, show (q.natAbs : Int) = q by omega]; exact h
    · rw [if_neg z, show (q.natAbs : Int) = -q by omega, Int.mul_neg, h, Int.neg_mul]
  generalize upZ p q = u at *
  generalize hQ : (q.natAbs : Int) = Qa at *
  have hQ0 : 0 < Qa := by omega
  generalize u % Qa = r at *
  generalize u / Qa = k at *
  have hC' : (0 : Int) < (CN : Int) := by omega
  generalize hCC : (CN : Int) = C at *
  have e1 : (s - k * C) * Qa = r * C := by
    have : s * Qa = (Qa * k + r) * C := by rw [hs, h3]
    grind
  have b1 : 0 ≤ s - k * C := by
    apply Int.not_lt.mp
    intro z
    have : (s - k * C) * Qa < 0 := Int.mul_neg_of_neg_of_pos z hQ0
    have : 0 ≤ r * C := Int.mul_nonneg h1 (by omega)
    omega
  have b2 : s - k * C < C := by
    apply Int.not_le.mp
    intro z
    have h5 : C * Qa ≤ (s - k * C) * Qa := Int.mul_le_mul_of_nonneg_right z (by omega)
    have h6 : r * C < Qa * C := Int.mul_lt_mul_of_pos_right h2 hC'
    rw [e1, Int.mul_comm C] at h5
    omega
  have e2 : s % C = s - k * C := by
    have : s = (s - k * C) + C * k := by grind
    conv => lhs; rw [this]
    rw [Int.add_mul_emod_self_left, Int.emod_eq_of_lt b1 b2]
  have : ((s % C).toNat * q.natAbs : Int) = (r.toNat : Int) * C := by
    rw [Int.toNat_of_nonneg (by omega), Int.toNat_of_nonneg h1, hQ, e2, e1]
  have h9 : (((s % C).toNat * q.natAbs : Nat) : Int) = ((r.toNat * CN : Nat) : Int) := by rw [Int.natCast_mul, Int.natCast_mul, hCC]; exact this
  exact Int.ofNat.inj h9
theorem made_bad {p q : Int} (hq : q ≠ 0) (h : ¬ q ∣ p * (CN : Int)) : ¬ reachB (madeN p q).2 = true := by
  intro z
  have hp := (made_plc hq).mp z
  obtain ⟨c, hc⟩ := hp.dvd
  have hx := red_cross (p := (upZ p q % (q.natAbs : Int)).toNat) (q := q.natAbs)
  have e : red (upZ p q % (q.natAbs : Int)).toNat q.natAbs = madeN p q := rfl
  rw [e] at hx
  have h1 := Int.emod_nonneg (upZ p q) (show (q.natAbs : Int) ≠ 0 by omega)
  have h3 := Int.mul_ediv_add_emod (upZ p q) (q.natAbs : Int)
  have hd : (q.natAbs : Int) ∣ upZ p q * (CN : Int) := by
    refine ⟨(upZ p q / (q.natAbs : Int)) * (CN : Int) + ((madeN p q).1 : Int) * (c : Int), ?_⟩
    have hx' : ((madeN p q).1 : Int) * (q.natAbs : Int) = (upZ p q % (q.natAbs : Int)) * ((madeN p q).2 : Int) := by
      have : (((madeN p q).1 * q.natAbs : Nat) : Int) = (((upZ p q % (q.natAbs : Int)).toNat * (madeN p q).2 : Nat) : Int) := by rw [hx]
      rw [Int.natCast_mul, Int.natCast_mul, Int.toNat_of_nonneg h1] at this
      exact this
    have hc' : (CN : Int) = ((madeN p q).2 : Int) * (c : Int) := by rw [hc, Int.natCast_mul]
    generalize (CN : Int) = C at *
    generalize ((madeN p q).1 : Int) = a at *
    generalize ((madeN p q).2 : Int) = b at *
    generalize (q.natAbs : Int) = Qa at *
    generalize upZ p q % Qa = r at *
    generalize upZ p q / Qa = k at *
    generalize upZ p q = u at *
    grind
  apply h
  have hq2 : q ∣ (q.natAbs : Int) := Int.dvd_natAbs.mpr (Int.dvd_refl _)
  have := Int.dvd_trans hq2 hd
  unfold upZ at this
  split at this
  · exact this
  · rw [Int.neg_mul] at this
    exact Int.dvd_neg.mp this
/-! ### doubling of any fraction -/
theorem it_any {x : Nat × Nat} (hl : x.1 < x.2) (hc : Nat.Coprime x.1 x.2) (i : Nat) : itN i x = red (2 ^ i * x.1 % x.2) x.2 ∧ (itN i x).1 < (itN i x).2 ∧ Nat.Coprime (itN i x).1 (itN i x).2 ∧ (itN i x).2 ≤ x.2 := by
  have hp : 0 < x.2 := by omega
  have hm : ∀ i, 2 ^ i * x.1 % x.2 < x.2 := fun i => Nat.mod_lt _ hp
  have key : ∀ i, itN i x = red (2 ^ i * x.1 % x.2) x.2 := by
    intro i
    induction i with
    | zero =>
      rw [Nat.pow_zero, Nat.one_mul, Nat.mod_eq_of_lt hl, red_self hc]
      rfl
    | succ i ih =>
      rw [itN_succ, ih, dbl_any (red_lt (hm i)) (red_coprime hp), red_mod2 hp (hm i)]
      congr 1
      rw [Nat.pow_succ, Nat.mul_comm (2 ^ i) 2, Nat.mul_assoc, Nat.mul_mod, Nat.mod_mod, ← Nat.mul_mod]
  rw [key i]
  exact ⟨rfl, red_lt (hm i), red_coprime hp, red_le⟩
theorem rep_reach {x : Nat × Nat} (hl : x.1 < x.2) (hc : Nat.Coprime x.1 x.2) {i j : Nat} (hij : i < j) (hj : j ≤ 24) (e : itN i x = itN j x) : reachB x.2 = true := by
  have hp : 0 < x.2 := by omega
  rw [(it_any hl hc i).1, (it_any hl hc j).1] at e
  have h1 := red_cross (p := 2 ^ i * x.1 % x.2) (q := x.2)
  have h2 := red_cross (p := 2 ^ j * x.1 % x.2) (q := x.2)
  have h3 := red_pos (p := 2 ^ j * x.1 % x.2) hp
  rw [e] at h1
  have : 2 ^ i * x.1 % x.2 = 2 ^ j * x.1 % x.2 := Nat.eq_of_mul_eq_mul_right h3 (h1.symm.trans h2)
  rw [reach_iff hp]
  refine ⟨i, j - i, by omega, by omega, ?_⟩
  have hd : x.2 ∣ 2 ^ j * x.1 - 2 ^ i * x.1 := Nat.dvd_of_mod_eq_zero (Nat.sub_mod_eq_zero_of_mod_eq this.symm)
  rw [← Nat.sub_mul] at hd
  have he : 2 ^ j - 2 ^ i = 2 ^ i * (2 ^ (j - i) - 1) := by
    rw [Nat.mul_sub, Nat.mul_one, ← Nat.pow_add]
    congr 2
    omega
  rw [he] at hd
  exact Nat.Coprime.dvd_of_dvd_mul_right hc.symm hd
theorem reach_rep {x : Nat × Nat} (hl : x.1 < x.2) (hc : Nat.Coprime x.1 x.2) (h : reachB x.2 = true) : ∃ L, 1 ≤ L ∧ L ≤ 24 ∧ itN L x ∈ preN x L := by
  have hp := (reach_plc hl hc).mp h
  have w := ways hp
  have := w.n1
  exact ⟨wayN x + perN x, by omega, w.le, (pre_mem hp (Nat.le_refl _)).mpr rfl⟩
/-- a little more than Big -/
structure Big2 (n : Int) : Prop where
  mul : CMulX n ((CN : Nat) : Int)
theorem big2_of {n : Int} (h : n.natAbs < 2 ^ 1048640) : Big2 n := by
  refine ⟨mulx_ok (a := 1048640) (b := 250) h ?_ (by decide)⟩
  have := CN_lt
  omega
theorem Big2.small {n : Int} (h : -(2 ^ 250) < n ∧ n < 2 ^ 250) : Big2 n := by
  refine big2_of (Nat.lt_of_lt_of_le (show n.natAbs < 2 ^ 250 by omega) (Nat.pow_le_pow_right (by decide) (by decide)))
theorem Big2.big {n : Int} (h : Big n) : Big2 n := big2_of (Nat.lt_of_lt_of_le h.lt (Nat.pow_le_pow_right (by decide) (by decide)))
theorem lin_aux {n : Int} {N a b : Nat} (hp : 1 ≤ N) (h1 : n.natAbs < N) (ha : a < 2 ^ 24) (hb : b < 2 ^ 24) : ((a : Int) + n * (b : Int)).natAbs < N * 2 ^ 40 := by
  have h2 : ((a : Int) + n * (b : Int)).natAbs ≤ a + n.natAbs * b := by
    have := Int.natAbs_add_le (a : Int) (n * (b : Int))
    rw [Int.natAbs_mul, Int.natAbs_natCast, Int.natAbs_natCast] at this
    exact this
  have h3 : n.natAbs * b ≤ N * 2 ^ 24 := Nat.mul_le_mul (by omega) (by omega)
  omega
theorem Big2.lin {n : Int} (h : Big n) {a b : Nat} (ha : a < 2 ^ 24) (hb : b < 2 ^ 24) : Big2 ((a : Int) + n * (b : Int)) :=
  big2_of (Nat.lt_of_lt_of_le (lin_aux (two_pow_pos _) h.lt ha hb) (Nat.le_of_eq (by rw [← Nat.pow_add])))
/-- a list of ints stays when another list, of another length, changes -/
theorem dp_updL {K : PySem.W.Frag} {H : Hp} {l : Addr} {xs : List V} {o : HO} {v : V} {ns : List Int} (hl : H l = some (.lst xs)) (hne : xs.length ≠ ns.length) (h : Dp K H v (.list (ns.map PyData.int))) : Dp K (upd H l o) v (.list (ns.map PyData.int)) := by
  obtain ⟨a, ys, rfl, hs, ha⟩ := dp_lst h
  have hy := dpa_ints_inv ha
  subst hy
  refine .lst ?_ (dpa_ints ns)
  rcases hs with hs | hs
  · refine .inl ?_
    rcases hs with hs | ⟨ob, hs⟩
    · refine .inl ?_
      rw [upd_ne]
      · exact hs
      · intro z
        subst z
        rw [hl] at hs
        cases hs
        exact hne (by simp)
    · refine .inr ⟨ob, ?_⟩
      rw [upd_ne (ne_of hs hl (fun z => nomatch z))]
      exact hs
  · exact .inr hs
end Tw
namespace Tw
open PySem PySem.Spec PyProof.Rows L2
def topS (i : Nat) : Stmt := PySem.Challenge.pw_twicedial_k00_places_checked.main.body.getD i (.Pass ⟨0, 0, 0, 0⟩)
abbrev s_NotText__init : Stmt := inClass (topS 4) 0
abbrev N_NotText__init : List Str := ["self", "place"]
theorem sc_NotText__init : FnScope N_NotText__init ["self", "place"] (defScope s_NotText__init) := ⟨rfl, rfl, rfl, by decide +kernel, rfl, by decide +kernel, by decide +kernel⟩
abbrev s_TooMany__init : Stmt := inClass (topS 6) 0
abbrev N_TooMany__init : List Str := ["self", "limit"]
theorem sc_TooMany__init : FnScope N_TooMany__init ["self", "limit"] (defScope s_TooMany__init) := ⟨rfl, rfl, rfl, by decide +kernel, rfl, by decide +kernel, by decide +kernel⟩
abbrev s_is_whole : Stmt := topS 9
abbrev N_is_whole : List Str := ["value"]
theorem sc_is_whole : FnScope N_is_whole ["value"] (defScope s_is_whole) := ⟨rfl, rfl, rfl, by decide +kernel, rfl, by decide +kernel, by decide +kernel⟩
abbrev s_reduced : Stmt := topS 10
abbrev N_reduced : List Str := ["top", "bottom", "common"]
theorem sc_reduced : FnScope N_reduced ["top", "bottom"] (defScope s_reduced) := ⟨rfl, rfl, rfl, by decide +kernel, rfl, by decide +kernel, by decide +kernel⟩
abbrev s_check_place : Stmt := topS 13
abbrev N_check_place : List Str := ["value"]
theorem sc_check_place : FnScope N_check_place ["value"] (defScope s_check_place) := ⟨rfl, rfl, rfl, by decide +kernel, rfl, by decide +kernel, by decide +kernel⟩
abbrev s_is_place : Stmt := topS 14
abbrev N_is_place : List Str := ["value", "top", "bottom"]
theorem sc_is_place : FnScope N_is_place ["value"] (defScope s_is_place) := ⟨rfl, rfl, rfl, by decide +kernel, rfl, by decide +kernel, by decide +kernel⟩
abbrev s_place : Stmt := topS 15
abbrev N_place : List Str := ["top", "bottom", "steps", "rest"]
theorem sc_place : FnScope N_place ["top", "bottom"] (defScope s_place) := ⟨rfl, rfl, rfl, by decide +kernel, rfl, by decide +kernel, by decide +kernel⟩
abbrev s__is_in_reach : Stmt := topS 16
abbrev N__is_in_reach : List Str := ["bottom", "twos", "again"]
theorem sc__is_in_reach : FnScope N__is_in_reach ["bottom"] (defScope s__is_in_reach) := ⟨rfl, rfl, rfl, by decide +kernel, rfl, by decide +kernel, by decide +kernel⟩
abbrev s__twos : Stmt := topS 17
abbrev N__twos : List Str := ["bottom"]
theorem sc__twos : FnScope N__twos ["bottom"] (defScope s__twos) := ⟨rfl, rfl, rfl, by decide +kernel, rfl, by decide +kernel, by decide +kernel⟩
abbrev s__order : Stmt := topS 18
abbrev N__order : List Str := ["odd", "n"]
theorem sc__order : FnScope N__order ["odd"] (defScope s__order) := ⟨rfl, rfl, rfl, by decide +kernel, rfl, by decide +kernel, by decide +kernel⟩
abbrev s__law_begun : Stmt := topS 20
abbrev N__law_begun : List Str := ["script", "k", "cells", "great", "seed", "cell"]
theorem sc__law_begun : FnScope N__law_begun ["script", "k"] (defScope s__law_begun) := ⟨rfl, rfl, rfl, by decide +kernel, rfl, by decide +kernel, by decide +kernel⟩
abbrev s__law_draw : Stmt := topS 21
abbrev N__law_draw : List Str := ["m", "below", "found", "spot", "cells", "extra", "cell", "blend"]
theorem sc__law_draw : FnScope N__law_draw ["m", "below"] (defScope s__law_draw) := ⟨rfl, rfl, rfl, by decide +kernel, rfl, by decide +kernel, by decide +kernel⟩
abbrev s__law_of : Stmt := topS 22
abbrev N__law_of : List Str := ["m", "some"]
theorem sc__law_of : FnScope N__law_of ["m", "some"] (defScope s__law_of) := ⟨rfl, rfl, rfl, by decide +kernel, rfl, by decide +kernel, by decide +kernel⟩
abbrev s__law_twos : Stmt := topS 23
abbrev N__law_twos : List Str := ["count", "found", "k"]
theorem sc__law_twos : FnScope N__law_twos ["count"] (defScope s__law_twos) := ⟨rfl, rfl, rfl, by decide +kernel, rfl, by decide +kernel, by decide +kernel⟩
abbrev s__law_shared : Stmt := topS 24
abbrev N__law_shared : List Str := ["a", "b", "k"]
theorem sc__law_shared : FnScope N__law_shared ["a", "b"] (defScope s__law_shared) := ⟨rfl, rfl, rfl, by decide +kernel, rfl, by decide +kernel, by decide +kernel⟩
abbrev s__law_ratio : Stmt := topS 25
abbrev N__law_ratio : List Str := ["a", "b", "shared"]
theorem sc__law_ratio : FnScope N__law_ratio ["a", "b"] (defScope s__law_ratio) := ⟨rfl, rfl, rfl, by decide +kernel, rfl, by decide +kernel, by decide +kernel⟩
abbrev s__law_double : Stmt := topS 26
abbrev N__law_double : List Str := ["x"]
theorem sc__law_double : FnScope N__law_double ["x"] (defScope s__law_double) := ⟨rfl, rfl, rfl, by decide +kernel, rfl, by decide +kernel, by decide +kernel⟩
abbrev s__law_binary : Stmt := topS 27
abbrev N__law_binary : List Str := ["head", "cycle", "front", "back", "sign", "wide", "bottom"]
theorem sc__law_binary : FnScope N__law_binary ["head", "cycle"] (defScope s__law_binary) := ⟨rfl, rfl, rfl, by decide +kernel, rfl, by decide +kernel, by decide +kernel⟩
abbrev s__law_string : Stmt := topS 28
abbrev N__law_string : List Str := ["m", "size", "k"]
theorem sc__law_string : FnScope N__law_string ["m", "size"] (defScope s__law_string) := ⟨rfl, rfl, rfl, by decide +kernel, rfl, by decide +kernel, by decide +kernel⟩
abbrev s__law_place : Stmt := topS 29
abbrev N__law_place : List Str := ["m", "ahead", "again"]
theorem sc__law_place : FnScope N__law_place ["m", "ahead", "again"] (defScope s__law_place) := ⟨rfl, rfl, rfl, by decide +kernel, rfl, by decide +kernel, by decide +kernel⟩
abbrev s__law_any_place : Stmt := topS 30
abbrev N__law_any_place : List Str := ["m", "limit", "again"]
theorem sc__law_any_place : FnScope N__law_any_place ["m", "limit"] (defScope s__law_any_place) := ⟨rfl, rfl, rfl, by decide +kernel, rfl, by decide +kernel, by decide +kernel⟩
abbrev s__law_steps : Stmt := topS 31
abbrev N__law_steps : List Str := ["x", "found", "k"]
theorem sc__law_steps : FnScope N__law_steps ["x"] (defScope s__law_steps) := ⟨rfl, rfl, rfl, by decide +kernel, rfl, by decide +kernel, by decide +kernel⟩
abbrev s__law_is_place : Stmt := topS 32
abbrev N__law_is_place : List Str := ["value", "one"]
theorem sc__law_is_place : FnScope N__law_is_place ["value"] (defScope s__law_is_place) := ⟨rfl, rfl, rfl, by decide +kernel, rfl, by decide +kernel, by decide +kernel⟩
abbrev s__law_told : Stmt := topS 33
abbrev N__law_told : List Str := ["call", "found", "error", "e"]
theorem sc__law_told : FnScope N__law_told ["call"] (defScope s__law_told) := ⟨rfl, rfl, rfl, by decide +kernel, rfl, by decide +kernel, by decide +kernel⟩
abbrev s__law_plain : Stmt := topS 34
abbrev N__law_plain : List Str := ["found", "one"]
theorem sc__law_plain : FnScope N__law_plain ["found"] (defScope s__law_plain) := ⟨rfl, rfl, rfl, by decide +kernel, rfl, by decide +kernel, by decide +kernel⟩
abbrev s__law_bottoms : Stmt := topS 35
abbrev N__law_bottoms : List Str := ["m", "found"]
theorem sc__law_bottoms : FnScope N__law_bottoms ["m"] (defScope s__law_bottoms) := ⟨rfl, rfl, rfl, by decide +kernel, rfl, by decide +kernel, by decide +kernel⟩
abbrev s_law : Stmt := topS 36
abbrev N_law : List Str := ["script", "k", "m", "x", "values", "bottom", "value", "due", "top", "low", "cell", "pairs", "one", "other", "up", "made", "told"]
theorem sc_law : FnScope N_law ["script"] (defScope s_law) := ⟨rfl, rfl, rfl, by decide +kernel, rfl, by decide +kernel, by decide +kernel⟩
structure Top (K : PySem.W.Frag) (mg : Str → Option Value) where
  f_NotText__init : Addr
  fd_NotText__init : FuncData
  F_NotText__init : Fun K "__init__" "NotText.__init__" s_NotText__init f_NotText__init fd_NotText__init
  b_NotText__init : Binds K fd_NotText__init ["self", "place"] []
  f_TooMany__init : Addr
  fd_TooMany__init : FuncData
  F_TooMany__init : Fun K "__init__" "TooMany.__init__" s_TooMany__init f_TooMany__init fd_TooMany__init
  b_TooMany__init : Binds K fd_TooMany__init ["self", "limit"] []
  f_is_whole : Addr
  fd_is_whole : FuncData
  F_is_whole : Fun K "is_whole" "is_whole" s_is_whole f_is_whole fd_is_whole
  b_is_whole : Binds K fd_is_whole ["value"] []
  g_is_whole : mg "is_whole" = some (.ref f_is_whole)
  f_reduced : Addr
  fd_reduced : FuncData
  F_reduced : Fun K "reduced" "reduced" s_reduced f_reduced fd_reduced
  b_reduced : Binds K fd_reduced ["top", "bottom"] []
  g_reduced : mg "reduced" = some (.ref f_reduced)
  f_check_place : Addr
  fd_check_place : FuncData
  F_check_place : Fun K "check_place" "check_place" s_check_place f_check_place fd_check_place
  b_check_place : Binds K fd_check_place ["value"] []
  g_check_place : mg "check_place" = some (.ref f_check_place)
  f_is_place : Addr
  fd_is_place : FuncData
  F_is_place : Fun K "is_place" "is_place" s_is_place f_is_place fd_is_place
  b_is_place : Binds K fd_is_place ["value"] []
  g_is_place : mg "is_place" = some (.ref f_is_place)
  f_place : Addr
  fd_place : FuncData
  F_place : Fun K "place" "place" s_place f_place fd_place
  b_place : Binds K fd_place ["top", "bottom"] []
  g_place : mg "place" = some (.ref f_place)
  f__is_in_reach : Addr
  fd__is_in_reach : FuncData
  F__is_in_reach : Fun K "_is_in_reach" "_is_in_reach" s__is_in_reach f__is_in_reach fd__is_in_reach
  b__is_in_reach : Binds K fd__is_in_reach ["bottom"] []
  g__is_in_reach : mg "_is_in_reach" = some (.ref f__is_in_reach)
  f__twos : Addr
  fd__twos : FuncData
  F__twos : Fun K "_twos" "_twos" s__twos f__twos fd__twos
  b__twos : Binds K fd__twos ["bottom"] []
  g__twos : mg "_twos" = some (.ref f__twos)
  f__order : Addr
  fd__order : FuncData
  F__order : Fun K "_order" "_order" s__order f__order fd__order
  b__order : Binds K fd__order ["odd"] []
  g__order : mg "_order" = some (.ref f__order)
  f__law_begun : Addr
  fd__law_begun : FuncData
  F__law_begun : Fun K "_law_begun" "_law_begun" s__law_begun f__law_begun fd__law_begun
  b__law_begun : Binds K fd__law_begun ["script", "k"] []
  g__law_begun : mg "_law_begun" = some (.ref f__law_begun)
  f__law_draw : Addr
  fd__law_draw : FuncData
  F__law_draw : Fun K "_law_draw" "_law_draw" s__law_draw f__law_draw fd__law_draw
  b__law_draw : Binds K fd__law_draw ["m", "below"] []
  g__law_draw : mg "_law_draw" = some (.ref f__law_draw)
  f__law_of : Addr
  fd__law_of : FuncData
  F__law_of : Fun K "_law_of" "_law_of" s__law_of f__law_of fd__law_of
  b__law_of : Binds K fd__law_of ["m", "some"] []
  g__law_of : mg "_law_of" = some (.ref f__law_of)
  f__law_twos : Addr
  fd__law_twos : FuncData
  F__law_twos : Fun K "_law_twos" "_law_twos" s__law_twos f__law_twos fd__law_twos
  b__law_twos : Binds K fd__law_twos ["count"] []
  g__law_twos : mg "_law_twos" = some (.ref f__law_twos)
  f__law_shared : Addr
  fd__law_shared : FuncData
  F__law_shared : Fun K "_law_shared" "_law_shared" s__law_shared f__law_shared fd__law_shared
  b__law_shared : Binds K fd__law_shared ["a", "b"] []
  g__law_shared : mg "_law_shared" = some (.ref f__law_shared)
  f__law_ratio : Addr
  fd__law_ratio : FuncData
  F__law_ratio : Fun K "_law_ratio" "_law_ratio" s__law_ratio f__law_ratio fd__law_ratio
  b__law_ratio : Binds K fd__law_ratio ["a", "b"] []
  g__law_ratio : mg "_law_ratio" = some (.ref f__law_ratio)
  f__law_double : Addr
  fd__law_double : FuncData
  F__law_double : Fun K "_law_double" "_law_double" s__law_double f__law_double fd__law_double
  b__law_double : Binds K fd__law_double ["x"] []
  g__law_double : mg "_law_double" = some (.ref f__law_double)
  f__law_binary : Addr
  fd__law_binary : FuncData
  F__law_binary : Fun K "_law_binary" "_law_binary" s__law_binary f__law_binary fd__law_binary
  b__law_binary : Binds K fd__law_binary ["head", "cycle"] []
  g__law_binary : mg "_law_binary" = some (.ref f__law_binary)
  f__law_string : Addr
  fd__law_string : FuncData
  F__law_string : Fun K "_law_string" "_law_string" s__law_string f__law_string fd__law_string
  b__law_string : Binds K fd__law_string ["m", "size"] []
  g__law_string : mg "_law_string" = some (.ref f__law_string)
  f__law_place : Addr
  fd__law_place : FuncData
  F__law_place : Fun K "_law_place" "_law_place" s__law_place f__law_place fd__law_place
  b__law_place : Binds K fd__law_place ["m", "ahead", "again"] []
  g__law_place : mg "_law_place" = some (.ref f__law_place)
  f__law_any_place : Addr
  fd__law_any_place : FuncData
  F__law_any_place : Fun K "_law_any_place" "_law_any_place" s__law_any_place f__law_any_place fd__law_any_place
  b__law_any_place : Binds K fd__law_any_place ["m", "limit"] []
  g__law_any_place : mg "_law_any_place" = some (.ref f__law_any_place)
  f__law_steps : Addr
  fd__law_steps : FuncData
  F__law_steps : Fun K "_law_steps" "_law_steps" s__law_steps f__law_steps fd__law_steps
  b__law_steps : Binds K fd__law_steps ["x"] []
  g__law_steps : mg "_law_steps" = some (.ref f__law_steps)
  f__law_is_place : Addr
  fd__law_is_place : FuncData
  F__law_is_place : Fun K "_law_is_place" "_law_is_place" s__law_is_place f__law_is_place fd__law_is_place
  b__law_is_place : Binds K fd__law_is_place ["value"] []
  g__law_is_place : mg "_law_is_place" = some (.ref f__law_is_place)
  f__law_told : Addr
  fd__law_told : FuncData
  F__law_told : Fun K "_law_told" "_law_told" s__law_told f__law_told fd__law_told
  b__law_told : Binds K fd__law_told ["call"] []
  g__law_told : mg "_law_told" = some (.ref f__law_told)
  f__law_plain : Addr
  fd__law_plain : FuncData
  F__law_plain : Fun K "_law_plain" "_law_plain" s__law_plain f__law_plain fd__law_plain
  b__law_plain : Binds K fd__law_plain ["found"] []
  g__law_plain : mg "_law_plain" = some (.ref f__law_plain)
  f__law_bottoms : Addr
  fd__law_bottoms : FuncData
  F__law_bottoms : Fun K "_law_bottoms" "_law_bottoms" s__law_bottoms f__law_bottoms fd__law_bottoms
  b__law_bottoms : Binds K fd__law_bottoms ["m"] []
  g__law_bottoms : mg "_law_bottoms" = some (.ref f__law_bottoms)
  f_law : Addr
  fd_law : FuncData
  F_law : Fun K "law" "law" s_law f_law fd_law
  b_law : Binds K fd_law ["script"] []
  g_law : mg "law" = some (.ref f_law)
  c_DialError : Addr
  gc_DialError : mg "DialError" = some (.ref c_DialError)
  x_DialError : ExK K c_DialError
  y_DialError : ExB K c_DialError
  c_NotPlace : Addr
  gc_NotPlace : mg "NotPlace" = some (.ref c_NotPlace)
  x_NotPlace : ExK K c_NotPlace
  xq_NotPlace : PySem.W.excIn K c_NotPlace [.type "ValueError", .type "Exception", .type "BaseException", .type "object"] "ValueError.__new__" = true
  c_NotText : Addr
  gc_NotText : mg "NotText" = some (.ref c_NotText)
  x_NotText : ExK K c_NotText
  iC_NotText : PySem.W.findIn K (.ref c_NotText) "__init__" = some (some (.ref f_NotText__init))
  tI_NotText : PySem.W.typeIn K (.ref f_NotText__init) = some (.type "function")
  n_NotText_place : PySem.W.findIn K (.ref c_NotText) "place" = some none
  c_NotPair : Addr
  gc_NotPair : mg "NotPair" = some (.ref c_NotPair)
  x_NotPair : ExK K c_NotPair
  c_TooMany : Addr
  gc_TooMany : mg "TooMany" = some (.ref c_TooMany)
  x_TooMany : ExK K c_TooMany
  iC_TooMany : PySem.W.findIn K (.ref c_TooMany) "__init__" = some (some (.ref f_TooMany__init))
  tI_TooMany : PySem.W.typeIn K (.ref f_TooMany__init) = some (.type "function")
  n_TooMany_limit : PySem.W.findIn K (.ref c_TooMany) "limit" = some none
  e_NotPlace_DialError : PySem.W.exmOne K (.ref c_NotPlace) (.ref c_DialError) = some true
  xc_NotPlace : ExcC K c_NotPlace
  k_NotPlace_NotPair : PySem.W.kitOne K (.ref c_NotPlace) (.ref c_NotPair) = some false
  k_NotPlace_NotPlace : PySem.W.kitOne K (.ref c_NotPlace) (.ref c_NotPlace) = some true
  k_NotPlace_NotText : PySem.W.kitOne K (.ref c_NotPlace) (.ref c_NotText) = some false
  k_NotPlace_TooMany : PySem.W.kitOne K (.ref c_NotPlace) (.ref c_TooMany) = some false
  k_NotPlace_ValueError : PySem.W.kitOne K (.ref c_NotPlace) (.type "ValueError") = some true
  z_ValueError : mg "ValueError" = none
  z_abs : mg "abs" = none
  z_bool : mg "bool" = none
  z_divmod : mg "divmod" = none
  z_int : mg "int" = none
  z_isinstance : mg "isinstance" = none
  z_len : mg "len" = none
  z_max : mg "max" = none
  z_min : mg "min" = none
  z_range : mg "range" = none
  z_str : mg "str" = none
  z_tuple : mg "tuple" = none
  i_gcd : mg "gcd" = some (.builtin "math.gcd")
  t_COMMON : Tok
  c_COMMON : mg "COMMON" = some (.int ((CN : Nat) : Int) t_COMMON)
  t_MOST_STEPS : Tok
  c_MOST_STEPS : mg "MOST_STEPS" = some (.int 24 t_MOST_STEPS)
end Tw
namespace Tw
open PySem PySem.Spec PyProof.Rows L2 LamX
local macro_rules | `(tactic| walk_at "dp") => `(tactic| first
  | exact Dp.int _ | exact Dp.str _ | exact Dp.bl _ | exact Dp.non
  | assumption
  | ((refine' dp_same ?he ?hd); (case he => assumption); (case hd => walk_at "dp"))
  | ((refine' dp_keep ?he ?hd); (case he => assumption); (case hd => walk_at "dp")))
local macro_rules | `(tactic| walk_at "dpa") => `(tactic| first
  | exact DpAll.nil
  | assumption
  | ((refine' DpAll.cons ?ha ?hb); (case ha => walk_at "dp"); (case hb => walk_at "dpa")))
local macro_rules | `(tactic| walk_at "ty") => `(tactic| first
  | exact ty_int | exact ty_non | exact ty_bl | exact ty_str
  | ((refine' ty_tup ?hx); (case hx => walk_at "dp"))
  | ((refine' ty_lst ?hx); (case hx => walk_at "dp")))
local macro_rules | `(tactic| walk_at "c") => `(tactic| ((try dsimp only); (first
  | (with_reducible assumption) | omega | decide
  | (simp only [List.length_map]; omega)
  | exact mulS ⟨by omega, by omega⟩ ⟨by omega, by omega⟩
  | exact divS ⟨by omega, by omega⟩)))
local macro_rules | `(tactic| walk_at "e0") => `(tactic| first
  | with_reducible refine w_c ?_
  | ((with_reducible refine' w_var ?hv ?_); case hv => rfl)
  | with_reducible refine w_op ?_
  | with_reducible refine w_rI0 ?_
  | with_reducible refine w_rU ?_
  | with_reducible refine w_cons ?_
  | with_reducible refine w_nil ?_
  | with_reducible refine w_cb ?_
  | with_reducible refine w_call ?_
  | with_reducible refine w_tTest ?_
  | with_reducible refine w_bl ?_
  | with_reducible refine w_blV ?_
  | with_reducible refine w_andV ?_
  | with_reducible refine w_chain ?_
  | with_reducible refine w_orV ?_
  | with_reducible refine w_notV ?_
  | with_reducible refine w_tB ?_
  | with_reducible refine w_and ?_
  | with_reducible refine w_or ?_
  | with_reducible refine w_not ?_
  | with_reducible refine w_tI ?_
  | with_reducible refine w_un ?_
  | with_reducible refine w_int ?_
  | with_reducible refine w_tup ?_
  | with_reducible refine w_lst ?_
  | with_reducible refine w_tIsN ?_
  | with_reducible refine w_tNotN ?_
  | with_reducible refine w_slice ?_
  | with_reducible refine w_noPart ?_
  | with_reducible refine w_part ?_
  | with_reducible refine w_pint ?_
  | with_reducible refine w_isStr ?_
  | with_reducible refine w_bm ?_
  | with_reducible refine w_bm0 ?_
  | with_reducible refine w_m1 ?_
  | with_reducible refine w_tyS ?_
  | with_reducible refine w_dget ?_
  | with_reducible refine w_iteT ?_
  | with_reducible refine w_iteF ?_
  | with_reducible refine w_iteNT ?_
  | with_reducible refine w_iteNF ?_
  | with_reducible refine w_pp ?_
  | with_reducible refine w_pp0 ?_
  | with_reducible refine w_lcL ?_
  | with_reducible refine w_lcT ?_
  | with_reducible refine w_lcR1 ?_
  | with_reducible refine w_lcR2 ?_
  | with_reducible refine w_tYes ?_
  | ((with_reducible refine' w_dgS ?h ?hm ?_); (case h => assumption); (case hm => first | exact mo_left | exact mo_seed | exact mo_cells | exact mo_spot))
  | ((with_reducible refine' w_isiY ?ty ?h ?_); (case ty => walk_at "ty"); (case h => decide +kernel))
  | ((with_reducible refine' w_isiN ?ty ?h ?_); (case ty => walk_at "ty"); (case h => decide +kernel))
  | ((with_reducible refine' w_lenL ?h ?_); case h => walk_at "dp")
  | ((with_reducible refine' w_lenT ?h ?_); case h => walk_at "dp")
  | ((with_reducible refine' w_lenSg ?h ?_); case h => walk_at "c")
  | ((with_reducible refine' w_lenS ?h ?_); case h => walk_at "c")
  | ((with_reducible refine' w_addSg ?h ?_); case h => walk_at "c")
  | ((with_reducible refine' w_rI ?c ?_); case c => walk_at "c")
  | with_reducible refine w_eqI ?_
  | with_reducible refine w_neI ?_
  | ((with_reducible refine' w_rEq ?hs ?_); case hs => rfl)
  | ((with_reducible refine' w_rNe ?hs ?_); case hs => rfl))
local macro_rules | `(tactic| walk_at "e") => `(tactic| first
  | walk_at "e0"
  | ((with_reducible refine' w_rMod ?c ?_); case c => walk_at "c"))
local macro_rules | `(tactic| walk_at "p") => `(tactic| first
  | ((with_reducible refine' w_ix0 ?h ?_); case h => walk_at "dp")
  | ((with_reducible refine' w_ix1 ?h ?_); case h => walk_at "dp")
  | ((with_reducible refine' w_gTupP ?h ?_); case h => walk_at "dp")
  | with_reducible refine w_gcdN ?_
  | with_reducible refine w_absN ?_
  | with_reducible refine w_absI ?_
  | ((with_reducible refine' w_row0 ?h ?_); case h => walk_at "dp")
  | ((with_reducible refine' w_row1 ?h ?_); case h => walk_at "dp")
  | ((with_reducible refine' w_gTupR ?h ?_); case h => walk_at "dp")
  | ((with_reducible refine' w_truV ?he ?hl ?_); (case he => rfl); (case hl => walk_at "c"))
  | ((with_reducible refine' w_slSg ?hl ?_); (case hl => walk_at "c"))
  | with_reducible refine w_find3 ?_
  | with_reducible refine w_vei ?_
  | with_reducible refine w_ost ?_
  | with_reducible refine w_callS ?_
  | with_reducible refine w_xf ?_
  | with_reducible refine w_mko ?_
  | with_reducible refine w_kf ?_
  | with_reducible refine w_lcS ?_
  | with_reducible refine w_lc2 ?_
  | with_reducible refine w_bits ?_
  | with_reducible refine w_bitsI ?_
  | with_reducible refine w_max2 (fun _ _ => ?_)
  | with_reducible refine w_min2 (fun _ _ => ?_))
local macro_rules | `(tactic| walk_at "s0") => `(tactic| first
  | with_reducible refine w_seq ?_
  | with_reducible refine w_asg ?_
  | with_reducible refine w_ret ?_
  | with_reducible refine w_drop ?_
  | with_reducible refine w_next ?_
  | with_reducible refine w_retN ?_
  | with_reducible refine w_brk ?_
  | with_reducible refine w_cont ?_
  | with_reducible refine w_dput ?_
  | with_reducible refine w_forL ?_
  | with_reducible refine w_wb ?_
  | with_reducible refine w_forT ?_
  | with_reducible refine w_forR1 ?_
  | with_reducible refine w_forR2 ?_
  | with_reducible refine w_forS ?_
  | with_reducible refine w_gName ?_
  | with_reducible refine w_par ?_
  | with_reducible refine w_asgG ?_
  | with_reducible refine w_par3 ?_
  | with_reducible refine w_par33 ?_
  | with_reducible refine w_par2 ?_)
local macro_rules | `(tactic| walk_at "s") => `(tactic| first
  | walk_at "s0"
  | with_reducible refine w_ifS ?_)
local macro_rules | `(tactic| walk_at "w") => `(tactic| repeat first | walk_at "e" | walk_at "s")
local macro_rules | `(tactic| walk_at "w0") => `(tactic| repeat first | walk_at "e0" | walk_at "s")
local macro_rules | `(tactic| walk_at "wp") => `(tactic| repeat first | walk_at "e" | walk_at "s" | walk_at "p")
local macro_rules | `(tactic| walk_at "t") => `(tactic| first
  | ((with_reducible refine' w_newT (K := ‹PySem.W.Frag›) ?hl ?hd (fun _ _ _ _ _ => ?_)); (case hl => exact len_ok (by simp)); (case hd => walk_at "dpa"))
  | ((with_reducible refine' w_newL (K := ‹PySem.W.Frag›) ?hl ?hd (fun _ _ _ _ _ _ => ?_)); (case hl => exact len_ok (by simp)); (case hd => walk_at "dpa"))
  | ((with_reducible refine' w_gTup2 ?h (fun _ _ _ _ => ?_)); case h => walk_at "dp"))
local macro_rules | `(tactic| walk_at "wt") => `(tactic| repeat first | walk_at "e" | walk_at "s" | walk_at "p" | walk_at "t")
local macro_rules | `(tactic| walk_at "same") => `(tactic| first
  | exact Same.refl _
  | assumption
  | ((refine' Same.trans ?ha ?hb); (case hb => assumption); (case ha => walk_at "same")))
local macro_rules | `(tactic| walk_at "keep") => `(tactic| first
  | exact Keep.refl _
  | assumption
  | (refine Keep.of ?_; assumption)
  | ((refine' Keep.trans ?ha ?hb); (case hb => first | assumption | (refine Keep.of ?_; assumption)); (case ha => walk_at "keep")))
local macro_rules | `(tactic| walk_at "wi") => `(tactic| repeat first | walk_at "e" | walk_at "s0" | walk_at "p" | walk_at "t")
section
variable {P : Program} {w : World} {K : PySem.W.Frag} {mg : Str → Option Value} {base : Heap}
/-! ### NotText__init -/
def sp_NotText__init (K : PySem.W.Frag) : Sp := fun _ _ _ _ => False
theorem ok_NotText__init (T : Top K mg) : FnOk P w K mg base CX0 1 T.f_NotText__init T.fd_NotText__init ["self", "place"] (sp_NotText__init K) := by
  refine T.F_NotText__init.ok sc_NotText__init (fun vs H Q E h => ?_) (fun cdv A outer s H vs Q E hr h => ?_)
  · exact h.elim
  · exact h.elim

/-! ### TooMany__init -/
def sp_TooMany__init (K : PySem.W.Frag) : Sp := fun vs H Q _ => ∃ (a C : Addr) (n : Int), vs = [.ref a, .int n] ∧ OexC K C ∧ PySem.W.findIn K (.ref C) "limit" = some none ∧ H a = some (exo a C none) ∧ 0 ≤ n ∧ n < 1000000 ∧ ∀ dx, H dx = none → dx ≠ a → Q .non (upd (upd H dx (exd dx [("limit", .int n)])) a (exo a C (some dx)))
theorem ok_TooMany__init (T : Top K mg) : FnOk P w K mg base CX0 1 T.f_TooMany__init T.fd_TooMany__init ["self", "limit"] (sp_TooMany__init K) := by
  refine T.F_TooMany__init.ok sc_TooMany__init (fun vs H Q E h => ?_) (fun cdv A outer s H vs Q E hr h => ?_)
  · obtain ⟨a, C, n, rfl, _⟩ := h
    rfl
  · obtain ⟨a, C, n, rfl, ox, hn, hx, h0, h1, q⟩ := h
    refine ⟨_, (pss_cons (ps_expr (pe_ownInit (by rfl) T.gc_DialError T.y_DialError.sp T.y_DialError.tp T.y_DialError.rd T.y_DialError.fc (pa_cons (pv 0) (pa_cons (pe_joined (.cons pe_str (.cons (pe_fmt (pv 1)) .nil))) pa_nil))))
      (pss_one (ps_ost (pv 0) (pv 1)))), ?_⟩
    rw [show start N_TooMany__init [.ref a, .int n] = [some (.ref a), some (.int n)] from rfl]
    try dsimp only [cxK]
    have hl := strI_len h0 h1
    have hz := sizeLine_eq
    walk_at "wp"
    refine w_js ⟨_, rfl, by rw [sizeLine_eq]; decide +kernel, w_js (w_fmt ⟨_, rfl, .inr ⟨n, rfl, log2_ok h0 h1, _, rfl, ?_, ?_⟩⟩)⟩
    · rw [str_app]
      have : (Str.empty ++ Str.ofString "more than ").length = 10 := by decide +kernel
      omega
    · refine w_jsN ?_
      walk_at "wp"
      refine ⟨a, C, _, rfl, by simp, ox, hx, ?_⟩
      walk_at "wp"
      exact ⟨a, C, rfl, ox, hn, .inl ⟨hx, q⟩⟩

/-! ### is_whole -/
def sp_is_whole (K : PySem.W.Frag) : Sp := fun vs H Q _ => ∃ v d, vs = [v] ∧ Dp K H v d ∧ Q (.bl (isI d)) H
theorem ok_is_whole (T : Top K mg) : FnOk P w K mg base CX0 1 T.f_is_whole T.fd_is_whole ["value"] (sp_is_whole K) := by
  refine T.F_is_whole.ok sc_is_whole (fun vs H Q E h => ?_) (fun cdv A outer s H vs Q E hr h => ?_)
  · obtain ⟨v, d, rfl, _⟩ := h
    rfl
  · obtain ⟨v, d, rfl, hv, q⟩ := h
    refine ⟨_, (pss_one (ps_ret (pe_and (pe_callB (cl_isi (K := K)) (by rfl) T.z_isinstance (by decide +kernel) (pa_cons (pv 0) (pa_cons (pe_bltn (v := .ty "int") (by rfl) T.z_int (by decide +kernel) rfl) pa_nil))) (pe_one (pe_not (pe_callB (cl_isi (K := K)) (by rfl) T.z_isinstance (by decide +kernel) (pa_cons (pv 0) (pa_cons (pe_bltn (v := .ty "bool") (by rfl) T.z_bool (by decide +kernel) rfl) pa_nil)))))))), ?_⟩
    rw [show start N_is_whole [v] = [some (v)] from rfl]
    try dsimp only [cxK]
    match d, hv, q with
    | .none, hv, q => cases hv; walk_at "wp"; exact q
    | .bool b, hv, q => cases hv; walk_at "wp"; exact q
    | .int i, hv, q => cases hv; walk_at "wp"; exact q
    | .str s, hv, q => cases hv; walk_at "wp"; exact q
    | .list ds, hv, q => walk_at "wp"; exact q
    | .tuple ds, hv, q => walk_at "wp"; exact q
    | .dict _, hv, _ => cases hv

/-! ### reduced -/
def sp_reduced (K : PySem.W.Frag) : Sp := fun vs H Q _ => ∃ p q : Nat, vs = [.int (p : Int), .int (q : Int)] ∧ 0 < q ∧ q < 2 ^ 250 ∧ ∀ v H', Same H H' → Dp K H' v (pd (red p q)) → Q v H'
theorem ok_reduced (T : Top K mg) : FnOk P w K mg base CX0 1 T.f_reduced T.fd_reduced ["top", "bottom"] (sp_reduced K) := by
  refine T.F_reduced.ok sc_reduced (fun vs H Q E h => ?_) (fun cdv A outer s H vs Q E hr h => ?_)
  · obtain ⟨p, q, rfl, _⟩ := h
    rfl
  · obtain ⟨p, q, rfl, h0, h1, q1⟩ := h
    refine ⟨_, (pss_cons (ps_set (i := 2) sc_reduced.nd (by rfl) (by first | exact Or.inl rfl | exact Or.inr rfl) (pe_callBfun cr_gcd (by rfl) T.i_gcd (pa_cons (pv 0) (pa_cons (pv 1) pa_nil))))
      (pss_one (ps_ret (pe_tup (pa_cons (pe_op op_fdivW (pv 0) (pv 2)) (pa_cons (pe_op op_fdivW (pv 1) (pv 2)) pa_nil)))))), ?_⟩
    rw [show start N_reduced [.int (p : Int), .int (q : Int)] = [some (.int (p : Int)), some (.int (q : Int)), none] from rfl]
    try dsimp only [cxK]
    have g0 : 0 < Nat.gcd p q := Nat.gcd_pos_of_pos_right p h0
    have g1 : Nat.gcd p q ≤ q := Nat.le_of_dvd h0 (Nat.gcd_dvd_right p q)
    walk_at "wp"
    refine w_newT (K := K) (len_ok (by simp)) (.cons (.int _) (.cons (.int _) .nil)) fun t H1 n1 e1 d1 => ?_
    exact q1 _ H1 e1 d1

/-! ### _twos -/
def sp__twos (K : PySem.W.Frag) : Sp := fun vs H Q _ => ∃ b : Nat, vs = [.int b] ∧ 0 < b ∧ b < 2 ^ 60 ∧ Q (.int (twos b : Int)) H
theorem ok__twos (T : Top K mg) : FnOk P w K mg base CX0 1 T.f__twos T.fd__twos ["bottom"] (sp__twos K) := by
  refine T.F__twos.ok sc__twos (fun vs H Q E h => ?_) (fun cdv A outer s H vs Q E hr h => ?_)
  · obtain ⟨b, rfl, _⟩ := h
    rfl
  · obtain ⟨b, rfl, h1, h2, q⟩ := h
    refine ⟨_, (pss_one (ps_ret (pe_op op_sub (pe_bits (pe_op op_and (pv 0) (pe_un un_neg (pv 0)))) pe_int))), ?_⟩
    rw [show start N__twos [.int (b : Int)] = [some (.int (b : Int))] from rfl]
    try dsimp only [cxK]
    walk_at "wp"
    rw [twos_bits h1 h2, pow_bits]
    walk_at "wp"
    rw [show (((twos b + 1 : Nat) : Int) - 1) = (twos b : Int) by omega]
    exact q

/-! ### _order -/
def sp__order (K : PySem.W.Frag) : Sp := fun vs H Q _ => ∃ o : Nat, vs = [.int o] ∧ 0 < o ∧ Q (if ordN o = 0 then .non else .int (ordN o : Int)) H
theorem ok__order (T : Top K mg) : FnOk P w K mg base CX0 1 T.f__order T.fd__order ["odd"] (sp__order K) := by
  refine T.F__order.ok sc__order (fun vs H Q E h => ?_) (fun cdv A outer s H vs Q E hr h => ?_)
  · obtain ⟨o, rfl, _⟩ := h
    rfl
  · obtain ⟨o, rfl, h1, q⟩ := h
    refine ⟨_, (pss_cons (ps_for PassesOwn.never (by rfl) (pi_range2 (by rfl) T.z_range (pa_cons pe_int (pa_cons (pe_op op_add (pe_cint (by rfl) T.c_MOST_STEPS) pe_int) pa_nil))) (pg_name (i := 1) sc__order.nd (by rfl) (by first | exact Or.inl rfl | exact Or.inr rfl)) (pss_one (ps_if (pt_cmpR op_eq (pe_op op_modD (pe_op op_sub (pe_op op_shl pe_int (pv 1)) pe_int) (pv 0)) pe_int (nomark _)) (pss_one (ps_ret (pv 1))) pss_nil)))
      (pss_one (ps_ret pe_non))), ?_⟩
    rw [show start N__order [.int (o : Int)] = [some (.int (o : Int)), none] from rfl]
    try dsimp only [cxK]
    walk_at "wp"
    refine forR2_by (fun i σ' H' => ∃ y, σ' = [some (.int (o : Int)), y] ∧ H = H' ∧ ∀ j, 1 ≤ j → j ≤ i → ¬ (2 ^ j - 1) % o = 0) (by omega) ⟨none, rfl, rfl, fun j a b => by omega⟩ ?_ ?_
    · rintro i σ' H' hi ⟨y, rfl, rfl, hj⟩
      walk_at "wp"
      have hp := two_pow_pos (i + 1)
      have e : ((1 : Int) * 2 ^ (1 + (i : Int)).toNat - 1) = ((2 ^ (i + 1) - 1 : Nat) : Int) := by
        rw [show (1 + (i : Int)).toNat = i + 1 by omega, Int.one_mul]
        have e2 : ((2 ^ (i + 1) : Nat) : Int) = (2 : Int) ^ (i + 1) := by push_cast; rfl
        rw [← e2]
        omega
      refine w_rI ⟨by omega, by omega, by decide⟩ ?_
      walk_at "wp"
      rw [e]
      refine w_iteD (fun h => ?_) (fun h => ?_)
      · walk_at "wp"
        have hh : (2 ^ (i + 1) - 1) % o = 0 := by
          rw [← Int.natCast_emod] at h
          omega
        have := ord_first (by omega) (by omega) hh (fun j a b => hj j a (by omega))
        rw [this, if_neg (by omega)] at q
        rw [show (1 + (i : Int)) = ((i + 1 : Nat) : Int) by push_cast; omega]
        exact q
      · walk_at "wp"
        refine ⟨_, rfl, rfl, fun j a b => ?_⟩
        by_cases z : j ≤ i
        · exact hj j a z
        · have : j = i + 1 := by omega
          subst this
          intro hh
          apply h
          rw [← Int.natCast_emod, hh]
          rfl
    · rintro σ' H' ⟨y, rfl, rfl, hj⟩
      have := ord_none fun j a b => hj j a (by omega)
      rw [if_pos this] at q
      walk_at "wp"
      exact q

/-! ### _law_begun -/
def sp__law_begun (K : PySem.W.Frag) : Sp := fun vs H Q _ => ∃ (a : Addr) (ns : List Int) (k : Int), vs = [.ref a, .int k] ∧ SqL K H a (ns.map V.int) ∧ ns.length ≤ 63 ∧ (∀ n ∈ ns, Big n) ∧ 0 ≤ k ∧ k < 1000 ∧
  ∀ (m c : Addr) H', Same H H' → H m = none → Mo H' m c 0 → Q (.ref m) H'
theorem ok__law_begun (T : Top K mg) : FnOk P w K mg base CX0 1 T.f__law_begun T.fd__law_begun ["script", "k"] (sp__law_begun K) := by
  refine T.F__law_begun.ok sc__law_begun (fun vs H Q E h => ?_) (fun cdv A outer s H vs Q E hr h => ?_)
  · obtain ⟨a, ns, k, rfl, _⟩ := h
    rfl
  · obtain ⟨a, ns, k, rfl, hS, hl, hB, hk0, hk1, q⟩ := h
    refine ⟨_, (pss_cons (ps_set (i := 2) sc__law_begun.nd (by rfl) (by first | exact Or.inl rfl | exact Or.inr rfl) (pe_op op_catL (pe_slice (sl_listK (K := K)) (pv 0) (po_some (pv 1)) po_none) (pe_slice (sl_listK (K := K)) (pv 0) po_none (po_some (pv 1)))))
      (pss_cons (ps_setLc (i := 3) (own := [("cell", 5)]) (g := gName 5) (by rfl) sc__law_begun.nd (by rfl) (by rfl) (sw_true rfl rfl rfl (by decide +kernel)) (pi_listK (K := K) (pv 2)) (blkOk_by (own := [("cell", 5)]) (N := N__law_begun) (sc := defScope s__law_begun) (by decide +kernel)) (fun _ _ _ _ _ => (pg_name (i := 5) sc__law_begun.nd (by rfl) (by first | exact Or.inl rfl | exact Or.inr rfl))) (fun _ _ _ _ _ => (pts_one (pt_cmpR op_ge (pv 5) (pe_op op_pow pe_int pe_int) (nomark _)))) (fun _ _ _ _ _ => (pv 5)))
      (pss_cons (ps_set (i := 4) sc__law_begun.nd (by rfl) (by first | exact Or.inl rfl | exact Or.inr rfl) (pe_op op_add pe_int (pv 1)))
      (pss_cons (ps_for PassesOwn.never (by rfl) (pi_listK (K := K) (pv 2)) (pg_name (i := 5) sc__law_begun.nd (by rfl) (by first | exact Or.inl rfl | exact Or.inr rfl)) (pss_one (ps_set (i := 4) sc__law_begun.nd (by rfl) (by first | exact Or.inl rfl | exact Or.inr rfl) (pe_op op_modD (pe_callTy cl_int (by rfl) T.z_int (by decide +kernel) (pa_cons (pe_op op_add (pe_op op_mulX (pv 4) pe_int) (pv 5)) pa_nil)) pe_int))))
      (pss_one (ps_ret (pe_disp (pps_cons pe_str (pe_ifExp (pt_cmpR (op_neK (K := K) hr.units) (pv 3) (pe_lst pa_nil) (nomark _)) (pe_ix (ix_listK (K := K)) (pv 3) pe_int (fun _ _ => rfl)) pe_int) (pps_cons pe_str (pv 4) (pps_cons pe_str (pe_op op_catL (pv 2) (pe_lst (pa_cons (pe_op op_add (pe_op op_mulX pe_int (pv 1)) pe_int) pa_nil))) (pps_cons pe_str pe_int pps_nil)))) (by rfl) (by rfl) (fun z => by cases z) (by decide)))))))), ?_⟩
    rw [show start N__law_begun [.ref a, .int k] = [some (.ref a), some (.int k), none, none, none, none] from rfl]
    try dsimp only [cxK]
    have hz : sizeLine = 16777216 := sizeLine_eq
    walk_at "w"
    refine w_slV hS fun p1 H1 n1 e1 f1 => ?_
    walk_at "w"
    refine w_slV (e1.seq hS) fun p2 H2 n2 e2 f2 => ?_
    rw [cutD_from _ hk0] at f1
    rw [cutD_to _ hk0] at f2
    refine w_catL (e2 _ _ f1) f2 (by simp only [List.length_drop, List.length_take, List.length_map]; omega) fun p3 H3 n3 e3 f3 => ?_
    rw [← List.map_drop, ← List.map_take, ← List.map_append] at f3
    generalize hcs : ns.drop k.toNat ++ ns.take k.toNat = cs at f3
    have hcB : ∀ n ∈ cs, Big n := fun n hn => by
      rw [← hcs] at hn
      rcases List.mem_append.mp hn with hn | hn
      · exact hB n (List.mem_of_mem_drop hn)
      · exact hB n (List.mem_of_mem_take hn)
    have hcl : cs.length ≤ 63 := by rw [← hcs]; simp only [List.length_append, List.length_drop, List.length_take]; omega
    have d3 : Dp K H3 (.ref p3) (.list (cs.map PyData.int)) := .lst (.of f3) (dpa_ints cs)
    have s3 : Same H H3 := (e1.trans e2).trans e3
    walk_at "w"
    refine lc_list_by (JP H3 fun i es => ∃ gs : List Int, es = gs.map PyData.int ∧ gs.length ≤ i) (JP.ok ⟨[], rfl, by simp⟩) d3 (by simp; omega) (fun _ => rfl) ?_ ?_
    · intro i d y H' es hd hy hJ Yes No hyes hno
      obtain ⟨hs, gs, rfl, hgl⟩ := hJ
      rw [List.getElem?_map] at hd
      obtain ⟨z, hz1, rfl⟩ := Option.map_eq_some_iff.mp hd
      cases hy
      walk_at "w"
      refine w_rI ⟨by decide, by decide, by decide⟩ ?_
      walk_at "w"
      refine w_ite (fun hb => ?_) (fun hb => ?_)
      · walk_at "w"
        exact hyes _ H' (.int z) (Keep.refl _) rfl (.int z) ⟨hs, gs ++ [z], by simp, by simp; omega⟩
      · exact hno H' (Keep.refl _) ⟨hs, gs, rfl, by omega⟩
    · intro p4 H4 vs4 es n4 k4 f4 d4 hJ
      obtain ⟨s4, gs, rfl, hgl⟩ := hJ
      rw [List.length_map] at hgl
      walk_at "w"
      refine forL_by (fun i σ' H' => ∃ (sd : Int) (y5 : Option V), σ' = [some (.ref a), some (.int k), some (.ref p3), some (.ref p4), some (.int sd), y5] ∧ H4 = H' ∧ 0 ≤ sd ∧ sd < 2147483647) (dp_same s4 d3) ⟨71 + k, none, rfl, rfl, by omega, by omega⟩ ?_ ?_ ?_
      · rintro i σ' H' _ ⟨sd, y5, rfl, rfl, _⟩
        exact Keep.refl _
      · rintro i d y σ' H' hd hy ⟨sd, y5, rfl, rfl, hsd0, hsd1⟩
        rw [List.getElem?_map] at hd
        obtain ⟨z, hz1, rfl⟩ := Option.map_eq_some_iff.mp hd
        cases hy
        walk_at "w0"
        refine w_rModB (by decide) fun r h0 h1 => ?_
        walk_at "w0"
        exact ⟨r, _, rfl, rfl, h0, h1⟩
      · rintro σ' H' ⟨sd, y5, rfl, rfl, hsd0, hsd1⟩
        walk_at "w"
        refine w_disp fun pd Hd nd ed fd => ?_
        walk_at "w"
        refine w_newL (K := K) (by decide) .nil fun p6 H6 n6 e6 f6 d6 => ?_
        have d4' : Dp K H6 (.ref p4) (.list (gs.map PyData.int)) := dp_same e6 (dp_same ed d4)
        have rest : ∀ (lv : Int) (H7 : Hp), Same H6 H7 → rNewL [V.int (53 * k + 11)] H7 fun y H2 => rCat (V.ref p3) y H2 fun y H2 =>
            tPairs [(tC (V.str (Str.ofString "spot")), tC (V.int 0))] [some (V.ref a), some (V.int k), some (V.ref p3), some (V.ref p4), some (V.int sd), y5] H2 fun ps H3 =>
              rDisp pd ((V.str (Str.ofString "left"), V.int lv) :: (V.str (Str.ofString "seed"), V.int sd) :: (V.str (Str.ofString "cells"), y) :: ps) H3 Q := by
          intro lv H7 e7
          refine w_newL (K := K) (len_ok (by simp)) (dpa_one (.int _)) fun p8 H8 n8 e8 f8 d8 => ?_
          refine w_catL (e8 _ _ (e7 _ _ (e6 _ _ (ed _ _ (s4 _ _ f3))))) f8 (by simp; omega) fun p9 H9 n9 e9 f9 => ?_
          walk_at "w"
          have fd9 : H9 pd = some (.dK []) := e9 _ _ (e8 _ _ (e7 _ _ (e6 _ _ fd)))
          refine ⟨fd9, [(.inr "left", .int lv), (.inr "seed", .int sd), (.inr "cells", .ref p9), (.inr "spot", .int 0)], rfl, by simp, ?_⟩
          have hm : mergeK [] [((.inr "left" : Key), V.int lv), (.inr "seed", .int sd), (.inr "cells", .ref p9), (.inr "spot", .int 0)] = moKvs lv sd p9 0 := by
            simp [mergeK, putK, moKvs, k_left_seed, k_left_cells, k_left_spot, k_seed_cells, k_seed_spot, k_cells_spot]
          rw [hm]
          have sall : Same H4 H9 := (((ed.trans e6).trans e7).trans e8).trans e9
          refine q pd p9 _ (same_mut ((s3.trans s4).trans sall) ((s3.trans s4).free nd)) ((s3.trans s4).free nd) ⟨lv, sd, 0, cs ++ [53 * k + 11], upd_same, ?_, by simp, by simp; omega, ?_, hsd0, hsd1, by omega, by omega⟩
          · rw [upd_ne (ne_of f9 fd9 (fun z => nomatch z)), f9]
            simp
          · intro n hn
            rcases List.mem_append.mp hn with hn | hn
            · exact hcB n hn
            · simp at hn; subst hn; exact Big.small (by omega)
        refine w_neP d4' d6 (pln_ints _) rfl (fun he => ?_) (fun he => ?_)
        · walk_at "w"
          exact rest 0 H6 (Same.refl _)
        · have hg0 : 0 < gs.length := by
            cases gs with
            | nil => exact absurd rfl he
            | cons g gs => simp
          walk_at "w"
          refine w_ixLI d4' (by decide) (by omega) fun z _ => ?_
          walk_at "w"
          exact rest z H6 (Same.refl _)

/-! ### _law_draw -/
def sp__law_draw (K : PySem.W.Frag) : Sp := fun vs H Q _ => ∃ (m c : Addr) (below : Int) (b : Nat), vs = [.ref m, .int below] ∧ 0 < below ∧ below < 2 ^ 60 ∧ Mo H m c b ∧ b < 2 ^ 50 ∧
  ∀ (r : Int) H', 0 ≤ r → r < below → Keep H H' → Mo H' m c (b + 1) → Q (.int r) H'
theorem ok__law_draw (T : Top K mg) : FnOk P w K mg base CX0 1 T.f__law_draw T.fd__law_draw ["m", "below"] (sp__law_draw K) := by
  refine T.F__law_draw.ok sc__law_draw (fun vs H Q E h => ?_) (fun cdv A outer s H vs Q E hr h => ?_)
  · obtain ⟨m, c, below, b, rfl, _⟩ := h
    rfl
  · obtain ⟨m, c, below, b, rfl, hb0, hb1, hm, hb, q⟩ := h
    refine ⟨_, (pss_cons (ps_if (pt_cmpR op_gt (pe_dget (hu_of hr) (pv 0) pe_str (fun _ _ => rfl)) pe_int (nomark _)) (pss_cons (ps_set (i := 2) sc__law_draw.nd (by rfl) (by first | exact Or.inl rfl | exact Or.inr rfl) (pe_op op_modD (pe_callTy cl_int (by rfl) T.z_int (by decide +kernel) (pa_cons (pe_dget (hu_of hr) (pv 0) pe_str (fun _ _ => rfl)) pa_nil)) (pv 1)))
      (pss_cons (ps_dput (hu_of hr) (pv 0) pe_str (pe_op op_fdivW (pe_dget (hu_of hr) (pv 0) pe_str (fun _ _ => rfl)) (pv 1)) rfl)
      (pss_one (ps_ret (pv 2))))) pss_nil)
      (pss_cons (ps_set (i := 3) sc__law_draw.nd (by rfl) (by first | exact Or.inl rfl | exact Or.inr rfl) (pe_dget (hu_of hr) (pv 0) pe_str (fun _ _ => rfl)))
      (pss_cons (ps_dput (hu_of hr) (pv 0) pe_str (pe_op op_add (pv 3) pe_int) rfl)
      (pss_cons (ps_par (i := 4) (j := 5) (by rfl) sc__law_draw.nd (by rfl) (by rfl) (by decide) (by rfl) (by rfl) (pa_cons (pe_dget (hu_of hr) (pv 0) pe_str (fun _ _ => rfl)) (pa_cons (pe_op op_add (pe_dget (hu_of hr) (pv 0) pe_str (fun _ _ => rfl)) (pe_op op_mulX (pe_op op_mulX pe_int (pv 3)) (pv 3))) pa_nil)) (by rfl))
      (pss_cons (ps_set (i := 6) sc__law_draw.nd (by rfl) (by first | exact Or.inl rfl | exact Or.inr rfl) (pe_ix (ix_listK (K := K)) (pv 4) (pe_op op_modD (pe_callTy cl_int (by rfl) T.z_int (by decide +kernel) (pa_cons (pv 3) pa_nil)) (pe_callB (cl_len (K := K)) (by rfl) T.z_len (by decide +kernel) (pa_cons (pv 4) pa_nil))) (fun _ _ => rfl)))
      (pss_cons (ps_set (i := 7) sc__law_draw.nd (by rfl) (by first | exact Or.inl rfl | exact Or.inr rfl) (pe_op op_modD (pe_callTy cl_int (by rfl) T.z_int (by decide +kernel) (pa_cons (pe_op op_add (pe_op op_mulX (pv 6) (pe_op op_add (pe_op op_mulX pe_int (pv 3)) pe_int)) (pv 5)) pa_nil)) pe_int))
      (pss_cons (ps_set (i := 7) sc__law_draw.nd (by rfl) (by first | exact Or.inl rfl | exact Or.inr rfl) (pe_op op_modD (pe_callTy cl_int (by rfl) T.z_int (by decide +kernel) (pa_cons (pe_op op_add (pe_op op_add (pe_op op_mulX (pv 7) (pv 7)) (pe_op op_mulX pe_int (pv 3))) (pe_dget (hu_of hr) (pv 0) pe_str (fun _ _ => rfl))) pa_nil)) pe_int))
      (pss_one (ps_ret (pe_op op_modD (pe_op op_fdivW (pe_op op_modD (pe_callTy cl_int (by rfl) T.z_int (by decide +kernel) (pa_cons (pe_op op_add (pe_op op_mulX (pv 7) pe_int) (pv 3)) pa_nil)) pe_int) pe_int) (pv 1))))))))))), ?_⟩
    rw [show start N__law_draw [.ref m, .int below] = [some (.ref m), some (.int below), none, none, none, none, none, none] from rfl]
    obtain ⟨left, seed, spot, ns, m1, m2, m3, m4, m5, m6, m7, m8, m9⟩ := hm
    try dsimp only [cxK]
    walk_at "w"
    refine w_iteD (fun hl => ?_) (fun hl => ?_)
    · walk_at "w"
      refine w_dpS m1 mo_put_left mo_len fun H1 e1 m1' => ?_
      walk_at "w"
      exact q _ H1 (Int.emod_nonneg _ (by omega)) (Int.emod_lt_of_pos _ hb0) e1 ⟨_, seed, spot, ns, m1', e1.l m2, m3, m4, m5, m6, m7, m8, by omega⟩
    · walk_at "w"
      refine w_dpS m1 mo_put_spot mo_len fun H1 e1 m1' => ?_
      have m2' := e1.l m2
      have dC : Dp K H1 (.ref c) (.list (ns.map PyData.int)) := .lst (.of m2') (dpa_ints ns)
      walk_at "w"
      rw [List.length_map]
      refine w_ixLI dC (Int.emod_nonneg _ (by omega)) (Int.emod_lt_of_pos _ (by omega)) fun z hz => ?_
      have hz2 := m5 z (List.mem_of_getElem? hz)
      walk_at "w"
      refine w_rI (hz2.mul (by omega)) ?_
      walk_at "w0"
      refine w_rModB (by decide) fun r1 h1 h1' => ?_
      walk_at "w0"
      refine w_rModB (by decide) fun r2 h2 h2' => ?_
      walk_at "w0"
      refine w_rModB (by decide) fun r3 h3 h3' => ?_
      walk_at "w0"
      refine w_rModB hb0 fun r4 h4 h4' => ?_
      walk_at "w0"
      exact q r4 H1 h4 h4' e1 ⟨left, seed, spot + 1, ns, m1', m2', m3, m4, m5, m6, m7, by omega, by omega⟩

/-! ### _law_twos -/
def sp__law_twos (K : PySem.W.Frag) : Sp := fun vs H Q _ => ∃ n : Nat, vs = [.int (n : Int)] ∧ n ≤ 200 ∧ Q (.int ((2 ^ n : Nat) : Int)) H
theorem ok__law_twos (T : Top K mg) : FnOk P w K mg base CX0 1 T.f__law_twos T.fd__law_twos ["count"] (sp__law_twos K) := by
  refine T.F__law_twos.ok sc__law_twos (fun vs H Q E h => ?_) (fun cdv A outer s H vs Q E hr h => ?_)
  · obtain ⟨n, rfl, _⟩ := h
    rfl
  · obtain ⟨n, rfl, hn, q⟩ := h
    refine ⟨_, (pss_cons (ps_set (i := 1) sc__law_twos.nd (by rfl) (by first | exact Or.inl rfl | exact Or.inr rfl) pe_int)
      (pss_cons (ps_for PassesOwn.never (by rfl) (pi_range1 (by rfl) T.z_range (pa_cons (pv 0) pa_nil)) (pg_name (i := 2) sc__law_twos.nd (by rfl) (by first | exact Or.inl rfl | exact Or.inr rfl)) (pss_one (ps_set (i := 1) sc__law_twos.nd (by rfl) (by first | exact Or.inl rfl | exact Or.inr rfl) (pe_op op_mulX pe_int (pv 1)))))
      (pss_one (ps_ret (pv 1))))), ?_⟩
    rw [show start N__law_twos [.int (n : Int)] = [some (.int (n : Int)), none, none] from rfl]
    try dsimp only [cxK]
    walk_at "wp"
    refine forR1_by (fun i σ' H' => ∃ (y : Option V) (P : Nat), P = 2 ^ i ∧ σ' = [some (.int (n : Int)), some (.int (P : Int)), y] ∧ H = H') (by omega) ⟨none, 1, rfl, rfl, rfl⟩ ?_ ?_
    · rintro i σ' H' hi ⟨y, P, hP, rfl, rfl⟩
      have hp : P ≤ 2 ^ 200 := by rw [hP]; exact Nat.pow_le_pow_right (by decide) (by omega)
      walk_at "wp"
      refine ⟨_, 2 * P, ?_, rfl, rfl⟩
      rw [hP, Nat.pow_succ']
    · rintro σ' H' ⟨y, P, rfl, rfl, rfl⟩
      walk_at "wp"
      rw [Int.toNat_natCast]
      exact q

/-! ### _law_shared -/
def sp__law_shared (K : PySem.W.Frag) : Sp := fun vs H Q _ => ∃ a b : Nat, vs = [.int (a : Int), .int (b : Int)] ∧ b < 2 ^ 190 ∧ Q (.int (Nat.gcd a b : Int)) H
theorem ok__law_shared (T : Top K mg) : FnOk P w K mg base CX0 1 T.f__law_shared T.fd__law_shared ["a", "b"] (sp__law_shared K) := by
  refine T.F__law_shared.ok sc__law_shared (fun vs H Q E h => ?_) (fun cdv A outer s H vs Q E hr h => ?_)
  · obtain ⟨a, b, rfl, _⟩ := h
    rfl
  · obtain ⟨a, b, rfl, hb, q⟩ := h
    refine ⟨_, (pss_cons (ps_for PassesOwn.never (by rfl) (pi_range1 (by rfl) T.z_range (pa_cons pe_int pa_nil)) (pg_name (i := 2) sc__law_shared.nd (by rfl) (by first | exact Or.inl rfl | exact Or.inr rfl)) (pss_cons (ps_if (pt_cmpR op_eq (pv 1) pe_int (nomark _)) (pss_one (ps_ret (pv 0))) pss_nil)
      (pss_one (ps_par (i := 0) (j := 1) (by rfl) sc__law_shared.nd (by rfl) (by rfl) (by decide) (by rfl) (by rfl) (pa_cons (pv 1) (pa_cons (pe_op op_modD (pe_callTy cl_int (by rfl) T.z_int (by decide +kernel) (pa_cons (pv 0) pa_nil)) (pv 1)) pa_nil)) (by rfl)))))
      (pss_one (ps_ret (pv 0)))), ?_⟩
    rw [show start N__law_shared [.int (a : Int), .int (b : Int)] = [some (.int (a : Int)), some (.int (b : Int)), none] from rfl]
    try dsimp only [cxK]
    walk_at "wp"
    refine forR1_by (fun i σ' H' => ∃ (y : Option V) (a' b' : Nat), σ' = [some (.int (a' : Int)), some (.int (b' : Int)), y] ∧ H = H' ∧ Eu a b i a' b') (by omega) ⟨none, a, b, rfl, rfl, Eu.start a b⟩ ?_ ?_
    · rintro i σ' H' hi ⟨y, a', b', rfl, rfl, he⟩
      walk_at "wp"
      refine w_iteD (fun h => ?_) (fun h => ?_)
      · walk_at "wp"
        have hb0 : b' = 0 := by omega
        subst hb0
        rw [he.zero]
        exact q
      · walk_at "wp"
        exact ⟨_, b', a' % b', rfl, rfl, he.step hb (by omega)⟩
    · rintro σ' H' ⟨y, a', b', rfl, rfl, he⟩
      walk_at "wp"
      rw [he.done (by decide)]
      exact q

/-! ### _law_double -/
def sp__law_double (K : PySem.W.Frag) : Sp := fun vs H Q _ => ∃ v x, vs = [v] ∧ Dp K H v (pd x) ∧ x.1 < x.2 ∧ x.2 < 2 ^ 200 ∧ ∀ v H', Same H H' → Dp K H' v (pd (dblN x)) → Q v H'
theorem ok__law_double (T : Top K mg) : FnOk P w K mg base CX0 1 T.f__law_double T.fd__law_double ["x"] (sp__law_double K) := by
  refine T.F__law_double.ok sc__law_double (fun vs H Q E h => ?_) (fun cdv A outer s H vs Q E hr h => ?_)
  · obtain ⟨v, x, rfl, _⟩ := h
    rfl
  · obtain ⟨v, x, rfl, hv, hx, hx2, q⟩ := h
    refine ⟨_, (pss_cons (ps_if (pt_cmpR op_eq (pe_op op_modD (pe_callTy cl_int (by rfl) T.z_int (by decide +kernel) (pa_cons (pe_ix (ix_tupK (K := K)) (pv 0) pe_int (fun _ _ => rfl)) pa_nil)) pe_int) pe_int (nomark _)) (pss_one (ps_ret (pe_tup (pa_cons (pe_op op_modD (pe_callTy cl_int (by rfl) T.z_int (by decide +kernel) (pa_cons (pe_ix (ix_tupK (K := K)) (pv 0) pe_int (fun _ _ => rfl)) pa_nil)) (pe_op op_fdivW (pe_ix (ix_tupK (K := K)) (pv 0) pe_int (fun _ _ => rfl)) pe_int)) (pa_cons (pe_op op_fdivW (pe_ix (ix_tupK (K := K)) (pv 0) pe_int (fun _ _ => rfl)) pe_int) pa_nil))))) pss_nil)
      (pss_one (ps_ret (pe_tup (pa_cons (pe_op op_modD (pe_callTy cl_int (by rfl) T.z_int (by decide +kernel) (pa_cons (pe_op op_mulX pe_int (pe_ix (ix_tupK (K := K)) (pv 0) pe_int (fun _ _ => rfl))) pa_nil)) (pe_ix (ix_tupK (K := K)) (pv 0) pe_int (fun _ _ => rfl))) (pa_cons (pe_ix (ix_tupK (K := K)) (pv 0) pe_int (fun _ _ => rfl)) pa_nil)))))), ?_⟩
    rw [show start N__law_double [v] = [some (v)] from rfl]
    try dsimp only [cxK]
    walk_at "wp"
    refine w_iteD (fun h => ?_) (fun h => ?_)
    · have hh : x.2 % 2 = 0 := by omega
      walk_at "wp"
      refine w_newT (K := K) (len_ok (by simp)) (.cons (.int _) (.cons (.int _) .nil)) fun t H1 n1 e1 d1 => ?_
      refine q _ H1 e1 ?_
      unfold dblN
      rw [if_pos hh]
      exact d1
    · have hh : ¬ x.2 % 2 = 0 := by omega
      walk_at "wp"
      refine w_newT (K := K) (len_ok (by simp)) (.cons (.int _) (.cons (.int _) .nil)) fun t H1 n1 e1 d1 => ?_
      refine q _ H1 e1 ?_
      unfold dblN
      rw [if_neg hh]
      exact d1

/-! ### _law_told -/
def tt__law_told {K : PySem.W.Frag} {mg : Str → Option Value} (T : Top K mg) : (XK → Hp → VK → Prop) → Hp → VK → Prop := fun tl H Q =>
  ∀ (H0 : Hp) (Ech : XK) (Qv : VK), Same H H0 → (∀ H', (∀ H'', Same H' H'' → Q (.str "refused") H'') → Ech (.ref T.c_NotPlace) none H') → (∀ v H1, (∀ p H2, Same H1 H2 → H2 p = some (.lst [v]) → Q (.ref p) H2) → Qv v H1) → tl Ech H0 Qv
theorem gv__law_told (T : Top K mg) {fL : Addr} {cdL cdg : Value} {A : Around} {outer : List Env} {s0 : Shared} {H0 : Hp} {E0 : XK} {q : Str} : GivesTo (cxOf CX0 P w K mg base N_law "law" (defScope s_law) fL cdL A outer s0 H0 E0).nox N__law_told "_law_told" (defScope s__law_told) T.f__law_told cdg (defBody s__law_told) "call" q (tt__law_told T) := by
  intro f c' s H Q tl act hc h
  refine ⟨_, (pss_cons (ps_asg (pe_tup (pa_cons pe_non (pa_cons pe_non pa_nil))) (pg_tupK (K := K) (n := 2) (by rfl) (pgs_cons (pg_name (i := 1) sc__law_told.nd (by rfl) (by first | exact Or.inl rfl | exact Or.inr rfl)) (pgs_cons (pg_name (i := 2) sc__law_told.nd (by rfl) (by first | exact Or.inl rfl | exact Or.inr rfl)) pgs_nil))))
      (pss_cons (ps_try_keep (i := 3) rfl rfl rfl sc__law_told.nd (by rfl) (by rfl) ⟨rfl, by decide, .inl T.gc_DialError⟩ L2.takes0 (fun W pn xe tk _ => (pss_one (ps_set (i := 1) sc__law_told.nd (by rfl) (by first | exact Or.inl rfl | exact Or.inr rfl) (pe_got act tk)))) (fun a oe cls d pn hz hf => (pss_one (ps_set (i := 2) sc__law_told.nd (by rfl) (by first | exact Or.inl rfl | exact Or.inr rfl) (pv 3)))))
      (pss_cons (ps_if (pt_cmpR op_isN1 (pv 2) pe_non (nomark _)) (pss_one (ps_ret (pe_lst (pa_cons (pv 1) pa_nil)))) pss_nil)
      (pss_cons (ps_if (PW.pt (pw_or (pt_not (pt_val (pe_callB (cl_isK (K := K)) (by rfl) T.z_isinstance (by decide +kernel) (pa_cons (pv 2) (pa_cons (pe_cls (by rfl) T.gc_NotPlace) pa_nil))))) (pw_or (pt_not (pt_val (pe_callB (cl_isK (K := K)) (by rfl) T.z_isinstance (by decide +kernel) (pa_cons (pv 2) (pa_cons (pe_bltn (v := .ty "ValueError") (by rfl) T.z_ValueError (by decide +kernel) rfl) pa_nil))))) (pw_or1 (pt_val (pe_callB (cl_isK (K := K)) (by rfl) T.z_isinstance (by decide +kernel) (pa_cons (pv 2) (pa_cons (pe_cls (by rfl) T.gc_NotPair) pa_nil)))))))) (pss_one (ps_ret pe_str)) pss_nil)
      (pss_one (ps_ret (pe_ifExp (PW.pt (pw_or (pt_val (pe_callB (cl_isK (K := K)) (by rfl) T.z_isinstance (by decide +kernel) (pa_cons (pv 2) (pa_cons (pe_cls (by rfl) T.gc_NotText) pa_nil)))) (pw_or1 (pt_val (pe_callB (cl_isK (K := K)) (by rfl) T.z_isinstance (by decide +kernel) (pa_cons (pv 2) (pa_cons (pe_cls (by rfl) T.gc_TooMany) pa_nil))))))) pe_str pe_str))))))), ?_⟩
  rw [show start N__law_told [.ref f] = [some (.ref f), none, none, none] from rfl]
  try dsimp only [cxK]
  walk_at "wp"
  refine w_newT (K := K) (ds := [.none, .none]) (len_ok (by simp)) (.cons .non (dpa_one .non)) fun p1 H1 n1 e1 d1 => ?_
  refine w_gTup2 d1 fun v1 v2 h1 h2 => ?_
  cases h1
  cases h2
  walk_at "wp"
  refine ⟨fun cls d H' => cls = .ref T.c_NotPlace ∧ d = none ∧ ∀ H'', Same H' H'' → Q (.str "refused") H'', ?_, rfl, e1 _ _ hc, h H1 _ _ e1 (fun H' z => ⟨rfl, rfl, z⟩) (fun v H2 z => ?_)⟩
  · rintro cls d σ' H' hl ⟨rfl, rfl, z⟩
    refine ⟨true, T.e_NotPlace_DialError, fun _ a ha => ?_, fun z => absurd z (by decide)⟩
    match σ', hl with
    | [y0, y1, y2, y3], _ =>
      obtain ⟨hk, e2, hdk⟩ := kept_new0 (D := T.c_NotPlace) ha
      walk_at "wp"
      generalize upd H' a (keO a (.ref T.c_NotPlace) none) = H2 at *
      rw [decide_eq_false (fun z => nomatch z)]
      walk_at "wp"
      refine ⟨a, _, _, _, _, true, rfl, hk, hdk, T.xc_NotPlace, fun u r => r, T.k_NotPlace_NotPlace, ?_⟩
      walk_at "wp"
      refine ⟨a, _, _, _, _, true, rfl, hk, hdk, T.xc_NotPlace, fun u r => r, T.k_NotPlace_ValueError, ?_⟩
      walk_at "wp"
      refine ⟨a, _, _, _, _, false, rfl, hk, hdk, T.xc_NotPlace, fun u r => r, T.k_NotPlace_NotPair, ?_⟩
      walk_at "wp"
      refine ⟨a, _, _, _, _, false, rfl, hk, hdk, T.xc_NotPlace, fun u r => r, T.k_NotPlace_NotText, ?_⟩
      walk_at "wp"
      refine ⟨a, _, _, _, _, false, rfl, hk, hdk, T.xc_NotPlace, fun u r => r, T.k_NotPlace_TooMany, ?_⟩
      walk_at "wp"
      exact z _ e2
  · walk_at "wp"
    rw [decide_eq_true rfl]
    walk_at "wp"
    refine ⟨len_ok (by simp), fun p hp => ?_⟩
    exact z p _ (same_new hp) upd_same

/-! ### _law_plain -/
def sp__law_plain (K : PySem.W.Frag) : Sp := fun vs H Q _ => ∃ v x, vs = [v] ∧ Dp K H v (pd x) ∧ ∀ H', Same H H' → Q (.bl true) H'
theorem ok__law_plain (T : Top K mg) : FnOk P w K mg base CX0 1 T.f__law_plain T.fd__law_plain ["found"] (sp__law_plain K) := by
  refine T.F__law_plain.ok sc__law_plain (fun vs H Q E h => ?_) (fun cdv A outer s H vs Q E hr h => ?_)
  · obtain ⟨v, x, rfl, _⟩ := h
    rfl
  · obtain ⟨v, x, rfl, hv, q⟩ := h
    refine ⟨_, (pss_cons (ps_if (PW.pt (pw_or (pt_not (pt_val (pe_callB (cl_isi (K := K)) (by rfl) T.z_isinstance (by decide +kernel) (pa_cons (pv 0) (pa_cons (pe_bltn (v := .ty "tuple") (by rfl) T.z_tuple (by decide +kernel) rfl) pa_nil))))) (pw_or1 (pt_cmpR op_ne (pe_callB (cl_len (K := K)) (by rfl) T.z_len (by decide +kernel) (pa_cons (pv 0) pa_nil)) pe_int (nomark _))))) (pss_one (ps_ret pe_bl)) pss_nil)
      (pss_one (ps_ret (pe_cmpR (op_eqK (K := K) hr.units) (pe_lc (own := [("one", 1)]) (g := gName 1) (by rfl) sc__law_plain.nd (pi_tupK (K := K) (pv 0)) (blkOk_by (own := [("one", 1)]) (N := N__law_plain) (sc := defScope s__law_plain) (by decide +kernel)) (fun _ _ _ _ _ => (pg_name (i := 1) sc__law_plain.nd (by rfl) (by first | exact Or.inl rfl | exact Or.inr rfl))) (fun _ _ _ _ _ => (pts_one (PW.pt (pw_or (pt_val (pe_callB (cl_isi (K := K)) (by rfl) T.z_isinstance (by decide +kernel) (pa_cons (pv 1) (pa_cons (pe_bltn (v := .ty "bool") (by rfl) T.z_bool (by decide +kernel) rfl) pa_nil)))) (pw_or1 (pt_not (pt_val (pe_callB (cl_isi (K := K)) (by rfl) T.z_isinstance (by decide +kernel) (pa_cons (pv 1) (pa_cons (pe_bltn (v := .ty "int") (by rfl) T.z_int (by decide +kernel) rfl) pa_nil)))))))))) (fun _ _ _ _ _ => (pv 1))) (pe_lst pa_nil) (nomark _))))), ?_⟩
    rw [show start N__law_plain [v] = [some (v), none] from rfl]
    try dsimp only [cxK]
    walk_at "wp"
    refine w_iteND (fun h => absurd rfl h) (fun _ => ?_)
    walk_at "wp"
    refine lc_tup_by (K := K) (JP H fun i es => es = []) (JP.ok rfl) hv (by simp) (fun _ => rfl) ?_ ?_
    · rintro i d y H1 es hd hy ⟨s1, rfl⟩ Yes No hyes hno
      obtain ⟨k, rfl⟩ : ∃ k, d = .int k := by
        match i, hd with
        | 0, hd => exact ⟨_, (Option.some.inj hd).symm⟩
        | 1, hd => exact ⟨_, (Option.some.inj hd).symm⟩
        | i + 2, hd => simp at hd
      cases hy
      walk_at "wp"
      exact hno _ (Keep.refl _) ⟨s1, rfl⟩
    · rintro p H1 ws es hn k1 hv1 dl ⟨s1, rfl⟩
      walk_at "wp"
      refine w_newL (K := K) (len_ok (by simp)) .nil fun p2 H2 n2 e2 f2 d2 => ?_
      refine w_eqP (dp_same e2 dl) d2 rfl rfl (fun _ => ?_) (fun h => absurd rfl h)
      exact q _ (s1.trans e2)

/-! ### _is_in_reach -/
def sp__is_in_reach (K : PySem.W.Frag) : Sp := fun vs H Q _ => ∃ b : Nat, vs = [.int (b : Nat)] ∧ 0 < b ∧ Q (.bl (reachB b)) H
theorem ok__is_in_reach (T : Top K mg) : FnOk P w K mg base CX0 2 T.f__is_in_reach T.fd__is_in_reach ["bottom"] (sp__is_in_reach K) := by
  refine T.F__is_in_reach.ok sc__is_in_reach (fun vs H Q E h => ?_) (fun cdv A outer s H vs Q E hr h => ?_)
  · obtain ⟨b, rfl, _⟩ := h
    rfl
  · obtain ⟨b, rfl, hp, q⟩ := h
    refine ⟨_, (pss_cons (ps_if (pt_cmpR op_gt (pe_bits (pv 0)) (pe_cint (by rfl) T.c_MOST_STEPS) (nomark _)) (pss_one (ps_ret pe_bl)) pss_nil)
      (pss_cons (ps_set (i := 1) sc__is_in_reach.nd (by rfl) (by first | exact Or.inl rfl | exact Or.inr rfl) (pe_call (ok__twos T) (hr.mono (by decide)) (by rfl) T.g__twos T.F__twos.kp T.b__twos .nil pass0 (pa_cons (pv 0) pa_nil)))
      (pss_cons (ps_set (i := 2) sc__is_in_reach.nd (by rfl) (by first | exact Or.inl rfl | exact Or.inr rfl) (pe_call (ok__order T) (hr.mono (by decide)) (by rfl) T.g__order T.F__order.kp T.b__order .nil pass0 (pa_cons (pe_op op_shr (pv 0) (pv 1)) pa_nil)))
      (pss_one (ps_ret (pe_and (pe_cmpR op_notN1 (pv 2) pe_non (nomark _)) (pe_one (pe_cmpR op_le (pe_op op_add (pv 1) (pv 2)) (pe_cint (by rfl) T.c_MOST_STEPS) (nomark _))))))))), ?_⟩
    rw [show start N__is_in_reach [.int (b : Nat)] = [some (.int (b : Nat)), none, none] from rfl]
    try dsimp only [cxK]
    walk_at "wp"
    refine w_iteD (fun h => ?_) (fun h => ?_)
    · walk_at "wp"
      have : reachB b = false := by
        have hb : ¬ b < 2 ^ 24 := fun z => by have := bits_le hp z; omega
        unfold reachB
        rw [decide_eq_false hb]
        rfl
      rw [← this]
      exact q
    · have hs : b < 2 ^ 24 := by
        apply Nat.lt_of_not_le
        intro z
        have := bits_gt hp z
        omega
      have ho := odd_pos hp (Nat.lt_trans hs (by decide))
      walk_at "wp"
      refine ⟨b, rfl, hp, by omega, ?_⟩
      walk_at "wp"
      have e : (b : Int) / 2 ^ (twos b : Int).toNat = ((oddOf b : Nat) : Int) := by
        rw [Int.toNat_natCast, ← show ((2 ^ twos b : Nat) : Int) = (2 : Int) ^ twos b by push_cast; rfl, ← Int.natCast_ediv]
        rfl
      rw [e]
      refine ⟨oddOf b, rfl, ho, ?_⟩
      unfold reachB at q
      rw [decide_eq_true hs] at q
      by_cases hz : ordN (oddOf b) = 0
      · rw [if_pos hz]
        rw [decide_eq_true hz] at q
        walk_at "wp"
        exact q
      · rw [if_neg hz]
        rw [decide_eq_false hz] at q
        walk_at "wp"
        rw [decide_eq_false (fun z => nomatch z)]
        walk_at "wp"
        rw [show decide ((twos b : Int) + (ordN (oddOf b) : Int) ≤ 24) = decide (twos b + ordN (oddOf b) ≤ 24) from decide_eq_decide.mpr (by omega)]
        exact q

/-! ### _law_of -/
def sp__law_of (K : PySem.W.Frag) : Sp := fun vs H Q _ => ∃ (m c : Addr) (v : V) (ds : List PyData) (b : Nat), vs = [.ref m, v] ∧ Dp K H v (.list ds) ∧ 0 < ds.length ∧ ds.length ≤ 1000 ∧ Mo H m c b ∧ b < 2 ^ 50 ∧
  ∀ y d H', d ∈ ds → Dp K H' y d → Keep H H' → Mo H' m c (b + 1) → Q y H'
theorem ok__law_of (T : Top K mg) : FnOk P w K mg base CX0 2 T.f__law_of T.fd__law_of ["m", "some"] (sp__law_of K) := by
  refine T.F__law_of.ok sc__law_of (fun vs H Q E h => ?_) (fun cdv A outer s H vs Q E hr h => ?_)
  · obtain ⟨m, c, v, ds, b, rfl, _⟩ := h
    rfl
  · obtain ⟨m, c, v, ds, b, rfl, hv, hz0, hz1, hm, hb, q⟩ := h
    refine ⟨_, (pss_one (ps_ret (pe_ix (ix_listK (K := K)) (pv 1) (pe_call (ok__law_draw T) (hr.mono (by decide)) (by rfl) T.g__law_draw T.F__law_draw.kp T.b__law_draw .nil pass0 (pa_cons (pv 0) (pa_cons (pe_callB (cl_len (K := K)) (by rfl) T.z_len (by decide +kernel) (pa_cons (pv 1) pa_nil)) pa_nil))) (fun _ _ => rfl)))), ?_⟩
    rw [show start N__law_of [.ref m, v] = [some (.ref m), some (v)] from rfl]
    try dsimp only [cxK]
    walk_at "w"
    refine ⟨m, c, _, b, rfl, by omega, by omega, hm, hb, fun r H' h0 h1 k m' => ?_⟩
    have hr : r.toNat < ds.length := by omega
    exact w_ixL (j := r.toNat) (dp_keep k hv) (by omega) (List.getElem?_eq_getElem hr) fun y hy => q y _ H' (List.getElem_mem hr) hy k m'

/-! ### _law_ratio -/
def sp__law_ratio (K : PySem.W.Frag) : Sp := fun vs H Q _ => ∃ p q : Nat, vs = [.int (p : Int), .int (q : Int)] ∧ 0 < q ∧ q < 2 ^ 190 ∧ ∀ v H', Same H H' → Dp K H' v (pd (red p q)) → Q v H'
theorem ok__law_ratio (T : Top K mg) : FnOk P w K mg base CX0 2 T.f__law_ratio T.fd__law_ratio ["a", "b"] (sp__law_ratio K) := by
  refine T.F__law_ratio.ok sc__law_ratio (fun vs H Q E h => ?_) (fun cdv A outer s H vs Q E hr h => ?_)
  · obtain ⟨p, q, rfl, _⟩ := h
    rfl
  · obtain ⟨p, q, rfl, h0, h1, q1⟩ := h
    refine ⟨_, (pss_cons (ps_set (i := 2) sc__law_ratio.nd (by rfl) (by first | exact Or.inl rfl | exact Or.inr rfl) (pe_call (ok__law_shared T) (hr.mono (by decide)) (by rfl) T.g__law_shared T.F__law_shared.kp T.b__law_shared .nil pass0 (pa_cons (pe_callB cl_abs (by rfl) T.z_abs (by decide +kernel) (pa_cons (pv 0) pa_nil)) (pa_cons (pv 1) pa_nil))))
      (pss_one (ps_ret (pe_tup (pa_cons (pe_op op_fdivW (pv 0) (pv 2)) (pa_cons (pe_op op_fdivW (pv 1) (pv 2)) pa_nil)))))), ?_⟩
    rw [show start N__law_ratio [.int (p : Int), .int (q : Int)] = [some (.int (p : Int)), some (.int (q : Int)), none] from rfl]
    try dsimp only [cxK]
    have g0 : 0 < Nat.gcd p q := Nat.gcd_pos_of_pos_right p h0
    have g1 : Nat.gcd p q ≤ q := Nat.le_of_dvd h0 (Nat.gcd_dvd_right p q)
    walk_at "wp"
    refine ⟨p, q, rfl, h1, ?_⟩
    walk_at "wp"
    refine w_newT (K := K) (len_ok (by simp)) (.cons (.int _) (.cons (.int _) .nil)) fun t H1 n1 e1 d1 => ?_
    exact q1 _ H1 e1 d1

/-! ### _law_string -/
def sp__law_string (K : PySem.W.Frag) : Sp := fun vs H Q _ => ∃ (m c : Addr) (n : Int) (b : Nat), vs = [.ref m, .int n] ∧ 0 ≤ n ∧ n ≤ 1000 ∧ Mo H m c b ∧ b < 2 ^ 45 ∧
  ∀ (l : List Nat) H', l.length = n.toNat → (∀ x ∈ l, x = 48 ∨ x = 49) → Keep H H' → Mo H' m c (b + n.toNat) → Q (.str (Sg l)) H'
theorem ok__law_string (T : Top K mg) : FnOk P w K mg base CX0 2 T.f__law_string T.fd__law_string ["m", "size"] (sp__law_string K) := by
  refine T.F__law_string.ok sc__law_string (fun vs H Q E h => ?_) (fun cdv A outer s H vs Q E hr h => ?_)
  · obtain ⟨m, c, n, b, rfl, _⟩ := h
    rfl
  · obtain ⟨m, c, n, b, rfl, hn0, hn1, hm, hb, q⟩ := h
    refine ⟨_, (pss_one (ps_ret (pe_joinD (K := K) pe_str (pe_lc (own := [("k", 2)]) (g := gName 2) (tt := tYes) (by rfl) sc__law_string.nd (pi_range1 (by rfl) T.z_range (pa_cons (pv 1) pa_nil)) (blkOk_by (own := [("k", 2)]) (N := N__law_string) (sc := defScope s__law_string) (by decide +kernel)) (fun _ _ _ _ _ => (pg_name (i := 2) sc__law_string.nd (by rfl) (by first | exact Or.inl rfl | exact Or.inr rfl))) (fun _ _ _ _ _ => pts_nil) (fun _ _ _ _ _ => (pe_callTy cl_strI (by rfl) T.z_str (by decide +kernel) (pa_cons (pe_call (ok__law_draw T) (hr.mono (by decide)) (by rfl) T.g__law_draw T.F__law_draw.kp T.b__law_draw .nil pass0 (pa_cons (pv 0) (pa_cons pe_int pa_nil))) pa_nil))))))), ?_⟩
    rw [show start N__law_string [.ref m, .int n] = [some (.ref m), some (.int n), none] from rfl]
    rw [sg_empty]
    try dsimp only [cxK]
    walk_at "w"
    refine lc_rng1_by (K := K) (JM H m c b 1 fun i es => ∃ ys : List (List Nat), es = ys.map (fun y => PyData.str (Sg y)) ∧ ys.length = i ∧ ∀ y ∈ ys, y = [48] ∨ y = [49]) (JM.ok hm ⟨[], rfl, rfl, by simp⟩) (by omega) (fun _ => rfl) ?_ ?_
    · rintro i H' es hi ⟨k, mo, ys, rfl, hl, hy⟩ Yes No hyes hno
      walk_at "w"
      refine ⟨m, c, 2, _, rfl, by decide, by decide, mo, by omega, fun r H4 h0 h1 k4 mo4 => ?_⟩
      have hr : r = 0 ∨ r = 1 := by omega
      rcases hr with rfl | rfl
      · refine w_strI (by decide) ?_
        have e : ((toString (0 : Int) : String) : Str) = Sg [48] := by decide +kernel
        rw [e]
        exact hyes _ H4 (.str (Sg [48])) k4 rfl (.str _) ⟨k.trans k4, mo4.mono (by omega), ys ++ [[48]], by simp, by simp [hl], fun y h => (List.mem_append.mp h).elim (hy y) (fun z => by simp at z; exact .inl z)⟩
      · refine w_strI (by decide) ?_
        have e : ((toString (1 : Int) : String) : Str) = Sg [49] := by decide +kernel
        rw [e]
        exact hyes _ H4 (.str (Sg [49])) k4 rfl (.str _) ⟨k.trans k4, mo4.mono (by omega), ys ++ [[49]], by simp, by simp [hl], fun y h => (List.mem_append.mp h).elim (hy y) (fun z => by simp at z; exact .inr z)⟩
    · rintro p H' vs es hn k hv dl ⟨_, mo, ys, rfl, hl, hy⟩
      have hf : ∀ ys : List (List Nat), (∀ y ∈ ys, y = [48] ∨ y = [49]) → ys.flatten.length = ys.length ∧ ∀ x ∈ ys.flatten, x = 48 ∨ x = 49 := by
        intro ys
        induction ys with
        | nil => intro _; simp
        | cons y ys ih =>
          intro h
          obtain ⟨a, b⟩ := ih fun z hz => h z (List.mem_cons_of_mem _ hz)
          have h1 := h y List.mem_cons_self
          constructor
          · rcases h1 with rfl | rfl <;> simp [a] <;> omega
          · intro x hx
            rw [List.flatten_cons, List.mem_append] at hx
            rcases hx with hx | hx
            · rcases h1 with rfl | rfl <;> simp at hx <;> omega
            · exact b x hx
      obtain ⟨f1, f2⟩ := hf ys hy
      exact w_joinSg dl (by omega) (q _ H' (by omega) f2 k (mo.mono (by omega)))

/-! ### _law_steps -/
def sp__law_steps (K : PySem.W.Frag) : Sp := fun vs H Q _ => ∃ v x, vs = [v] ∧ Dp K H v (pd x) ∧ x.1 < x.2 ∧ Nat.Coprime x.1 x.2 ∧ x.2 < 2 ^ 190 ∧ ∀ (n : Nat) H', (n ≤ 24 ↔ reachB x.2 = true) → Same H H' → Q (.int n) H'
theorem ok__law_steps (T : Top K mg) : FnOk P w K mg base CX0 2 T.f__law_steps T.fd__law_steps ["x"] (sp__law_steps K) := by
  refine T.F__law_steps.ok sc__law_steps (fun vs H Q E h => ?_) (fun cdv A outer s H vs Q E hr h => ?_)
  · obtain ⟨v, x, rfl, _⟩ := h
    rfl
  · obtain ⟨v, x, rfl, hv, hl0, hc, hb, q⟩ := h
    refine ⟨_, (pss_cons (ps_set (i := 1) sc__law_steps.nd (by rfl) (by first | exact Or.inl rfl | exact Or.inr rfl) (pe_lst (pa_cons (pv 0) pa_nil)))
      (pss_cons (ps_for PassesOwn.never (by rfl) (pi_range1 (by rfl) T.z_range (pa_cons pe_int pa_nil)) (pg_name (i := 2) sc__law_steps.nd (by rfl) (by first | exact Or.inl rfl | exact Or.inr rfl)) (pss_cons (ps_set (i := 0) sc__law_steps.nd (by rfl) (by first | exact Or.inl rfl | exact Or.inr rfl) (pe_call (ok__law_double T) (hr.mono (by decide)) (by rfl) T.g__law_double T.F__law_double.kp T.b__law_double .nil pass0 (pa_cons (pv 0) pa_nil)))
      (pss_cons (ps_if (pt_cmpR (op_inDK (K := K) (Room65 hr)) (pv 0) (pv 1) (by rfl)) (pss_one (ps_ret (pe_callB (cl_len (K := K)) (by rfl) T.z_len (by decide +kernel) (pa_cons (pv 1) pa_nil)))) pss_nil)
      (pss_one (ps_expr (pe_bm PySem.F.plainAttrs_list PySem.F.slot_list_append PySem.F.type_list_append mt_append (pv 1) (pa_cons (pv 0) pa_nil)))))))
      (pss_one (ps_ret pe_int)))), ?_⟩
    rw [show start N__law_steps [v] = [some (v), none, none] from rfl]
    try dsimp only [cxK]
    walk_at "wp"
    refine w_newL (K := K) (len_ok (by simp)) (dpa_one hv) fun p H1 n1 e1 f1 d1 => ?_
    walk_at "wp"
    refine forR1_by (fun i σ' H' => ∃ y yk ws, σ' = [some y, some (.ref p), yk] ∧ Same H H' ∧ H' p = some (.lst ws) ∧ DpAll K H' ws ((preN x (i + 1)).map pd) ∧ Dp K H' y (pd (itN i x)) ∧ ∀ j, 1 ≤ j → j ≤ i → ¬ itN j x ∈ preN x j) (by omega) ⟨v, none, [v], rfl, e1, f1, dpa_one (dp_same e1 hv), dp_same e1 hv, fun j a b => by omega⟩ ?_ ?_
    · rintro i σ' H' hi ⟨y, yk, ws, rfl, s1, f2, d2, dy, hno1⟩
      have pre : ∀ z ∈ (preN x (i + 1)).map pd, pln 8 z = true := fun z hz => by
        obtain ⟨u, _, rfl⟩ := List.mem_map.mp hz
        exact pd_pln _
      have hno : noLs ((preN x (i + 1)).map pd) = true := by
        induction preN x (i + 1) with
        | nil => rfl
        | cons u r ih => simp only [List.map_cons, noLs, pd_noL, Bool.true_and]; exact ih
      have hmem : pd (itN (i + 1) x) ∈ (preN x (i + 1)).map pd ↔ itN (i + 1) x ∈ preN x (i + 1) := by
        rw [List.mem_map]
        constructor
        · rintro ⟨u, hu, e⟩
          rw [← pd_inj e]; exact hu
        · intro h; exact ⟨_, h, rfl⟩
      obtain ⟨_, pi1, pi2, pi3⟩ := it_any hl0 hc i
      walk_at "wp"
      refine ⟨y, itN i x, rfl, dy, pi1, by omega, fun y2 H2 e2 dy2 => ?_⟩
      rw [← itN_succ] at dy2
      have d3 := dpa_same e2 d2
      have f3 := e2 _ _ f2
      walk_at "wp"
      have hl := dpa_len d2
      rw [List.length_map, pre_len] at hl
      refine w_inP dy2 (dp_newL f3 d3) (pd_pln _) pre (fun hm => ?_) (fun hm => ?_)
      · have hm := hmem.mp hm
        walk_at "wp"
        refine w_lenL (dp_newL f3 d3) ?_
        rw [List.length_map, pre_len]
        refine q (i + 1) H2 ⟨fun hle => ?_, fun hr => ?_⟩ (s1.trans e2)
        · obtain ⟨j, hj, e⟩ := List.mem_map.mp hm
          exact rep_reach hl0 hc (List.mem_range.mp hj) hle e
        · obtain ⟨L, hL1, hL2, hL3⟩ := reach_rep hl0 hc hr
          apply Nat.le_of_not_lt
          intro z
          exact hno1 L hL1 (by omega) hL3
      · have hm : ¬ itN (i + 1) x ∈ preN x (i + 1) := fun z => hm (hmem.mpr z)
        walk_at "wp"
        refine w_tyL f3 ?_
        walk_at "wp"
        refine w_append f3 (len_lt (by omega)) ?_
        have dy3 := dp_upd (o := .lst (ws ++ [y2])) f3 _ _ (pd_noL _) dy2
        walk_at "wp"
        refine ⟨y2, _, ws ++ [y2], rfl, same_mut (s1.trans e2) n1, upd_same, ?_, dy3, fun j a b => ?_⟩
        · rw [pre_succ x (i + 1), List.map_append]
          exact dpa_app (dpa_upd f3 _ _ hno d3) (dpa_one dy3)
        · by_cases z : j ≤ i
          · exact hno1 j a z
          · have : j = i + 1 := by omega
            subst this
            exact hm
    · rintro σ' H' ⟨y, yk, ws, rfl, s1, f2, d2, dy, hno1⟩
      walk_at "wp"
      refine q 25 H' ⟨fun z => absurd z (by decide), fun hr => ?_⟩ s1
      obtain ⟨L, hL1, hL2, hL3⟩ := reach_rep hl0 hc hr
      exact absurd hL3 (hno1 L hL1 (by show L ≤ 25; omega))

/-! ### is_place -/
def sp_is_place (K : PySem.W.Frag) : Sp := fun vs H Q _ => ∃ v d, vs = [v] ∧ Dp K H v d ∧ Q (.bl (plD d)) H
theorem ok_is_place (T : Top K mg) : FnOk P w K mg base CX0 3 T.f_is_place T.fd_is_place ["value"] (sp_is_place K) := by
  refine T.F_is_place.ok sc_is_place (fun vs H Q E h => ?_) (fun cdv A outer s H vs Q E hr h => ?_)
  · obtain ⟨v, d, rfl, _⟩ := h
    rfl
  · obtain ⟨v, d, rfl, hv, q⟩ := h
    refine ⟨_, (pss_cons (ps_if (PW.pt (pw_or (pt_not (pt_val (pe_callB (cl_isi (K := K)) (by rfl) T.z_isinstance (by decide +kernel) (pa_cons (pv 0) (pa_cons (pe_bltn (v := .ty "tuple") (by rfl) T.z_tuple (by decide +kernel) rfl) pa_nil))))) (pw_or1 (pt_cmpR op_ne (pe_callB (cl_len (K := K)) (by rfl) T.z_len (by decide +kernel) (pa_cons (pv 0) pa_nil)) pe_int (nomark _))))) (pss_one (ps_ret pe_bl)) pss_nil)
      (pss_cons (ps_asg (pv 0) (pg_tupK (K := K) (n := 2) (by rfl) (pgs_cons (pg_name (i := 1) sc_is_place.nd (by rfl) (by first | exact Or.inl rfl | exact Or.inr rfl)) (pgs_cons (pg_name (i := 2) sc_is_place.nd (by rfl) (by first | exact Or.inl rfl | exact Or.inr rfl)) pgs_nil))))
      (pss_cons (ps_if (pt_not (PW.pt (pw_and (pt_val (pe_call (ok_is_whole T) (hr.mono (by decide)) (by rfl) T.g_is_whole T.F_is_whole.kp T.b_is_whole .nil pass0 (pa_cons (pv 1) pa_nil))) (pw_and1 (pt_val (pe_call (ok_is_whole T) (hr.mono (by decide)) (by rfl) T.g_is_whole T.F_is_whole.kp T.b_is_whole .nil pass0 (pa_cons (pv 2) pa_nil))))))) (pss_one (ps_ret pe_bl)) pss_nil)
      (pss_one (ps_ret (pe_and (pe_chain op_le op_lt pe_int (pv 1) (pv 2)) (pe_and (pe_call (ok__is_in_reach T) (hr.mono (by decide)) (by rfl) T.g__is_in_reach T.F__is_in_reach.kp T.b__is_in_reach .nil pass0 (pa_cons (pv 2) pa_nil)) (pe_one (pe_cmpR op_eq (pe_callBfun cr_gcd (by rfl) T.i_gcd (pa_cons (pv 1) (pa_cons (pv 2) pa_nil))) pe_int (nomark _)))))))))), ?_⟩
    rw [show start N_is_place [v] = [some (v), none, none] from rfl]
    try dsimp only [cxK]
    match d, hv, q with
    | .none, hv, q => cases hv; walk_at "wp"; exact q
    | .bool b, hv, q => cases hv; walk_at "wp"; exact q
    | .int i, hv, q => cases hv; walk_at "wp"; exact q
    | .str s, hv, q => cases hv; walk_at "wp"; exact q
    | .list ds, hv, q => walk_at "wp"; exact q
    | .dict _, hv, _ => cases hv
    | .tuple ds, hv, q =>
      walk_at "wp"
      by_cases hl : ds.length = 2
      · obtain ⟨d1, d2, rfl⟩ : ∃ d1 d2, ds = [d1, d2] := by
          match ds, hl with
          | [d1, d2], _ => exact ⟨d1, d2, rfl⟩
        rw [show decide ((([d1, d2] : List PyData).length : Int) = 2) = true by rfl]
        walk_at "wp"
        refine w_gTup2 hv fun v1 v2 h1 h2 => ?_
        walk_at "wp"
        refine ⟨v1, d1, rfl, h1, ?_⟩
        walk_at "wp"
        by_cases hi1 : isI d1 = true
        · rw [hi1]
          walk_at "wp"
          refine ⟨v2, d2, rfl, h2, ?_⟩
          by_cases hi2 : isI d2 = true
          · rw [hi2]
            obtain ⟨a, rfl⟩ : ∃ a, d1 = .int a := by cases d1 <;> simp [isI] at hi1; exact ⟨_, rfl⟩
            obtain ⟨b, rfl⟩ : ∃ b, d2 = .int b := by cases d2 <;> simp [isI] at hi2; exact ⟨_, rfl⟩
            cases h1
            cases h2
            have q' : Q (.bl (decide (0 ≤ a) && decide (a < b) && reachB b.toNat && decide (Nat.gcd a.toNat b.toNat = 1))) H := q
            walk_at "wp"
            by_cases h0 : 0 ≤ a
            · obtain ⟨a, rfl⟩ := Int.eq_ofNat_of_zero_le h0
              rw [decide_eq_true h0] at q' ⊢
              walk_at "wp"
              by_cases hab : (a : Int) < b
              · obtain ⟨b, rfl⟩ := Int.eq_ofNat_of_zero_le (show 0 ≤ b by omega)
                rw [decide_eq_true hab] at q' ⊢
                rw [Int.toNat_natCast, Int.toNat_natCast] at q'
                walk_at "wp"
                refine ⟨b, rfl, by omega, ?_⟩
                by_cases hr : reachB b = true
                · rw [hr] at q' ⊢
                  walk_at "wp"
                  rw [show decide (((Nat.gcd a b : Nat) : Int) = 1) = decide (Nat.gcd a b = 1) from decide_eq_decide.mpr (by omega)]
                  exact q'
                · rw [Bool.eq_false_iff.mpr hr] at q' ⊢
                  walk_at "wp"
                  exact q'
              · rw [decide_eq_false hab] at q' ⊢
                walk_at "wp"
                exact q'
            · rw [decide_eq_false h0] at q' ⊢
              walk_at "wp"
              exact q'
          · rw [Bool.eq_false_iff.mpr hi2]
            have hf : plD (.tuple [d1, d2]) = false := by cases d1 <;> first | rfl | (cases d2 <;> first | rfl | (simp [isI] at hi2))
            rw [hf] at q
            walk_at "wp"
            exact q
        · rw [Bool.eq_false_iff.mpr hi1]
          have hf : plD (.tuple [d1, d2]) = false := by cases d1 <;> first | rfl | (simp [isI] at hi1)
          rw [hf] at q
          walk_at "wp"
          exact q
      · have hf : plD (.tuple ds) = false := by
          match ds, hl with
          | [], _ => rfl
          | [x], _ => cases x <;> rfl
          | [_, _], h => exact absurd rfl h
          | x :: y :: _ :: _, _ => cases x <;> first | rfl | (cases y <;> rfl)
        rw [hf] at q
        rw [decide_eq_false (show ¬ ((ds.length : Int) = 2) by omega)]
        walk_at "wp"
        exact q

/-! ### _law_binary -/
def sp__law_binary (K : PySem.W.Frag) : Sp := fun vs H Q _ => ∃ h c : List Nat, vs = [.str (Sg h), .str (Sg c)] ∧ Dg h ∧ Dg c ∧ c ≠ [] ∧ h.length + c.length ≤ 80 ∧ ∀ v H', Same H H' → Dp K H' v (pd (binN h c)) → Q v H'
theorem ok__law_binary (T : Top K mg) : FnOk P w K mg base CX0 3 T.f__law_binary T.fd__law_binary ["head", "cycle"] (sp__law_binary K) := by
  refine T.F__law_binary.ok sc__law_binary (fun vs H Q E h => ?_) (fun cdv A outer s H vs Q E hr h => ?_)
  · obtain ⟨h, c, rfl, _⟩ := h
    rfl
  · obtain ⟨h, c, rfl, dh, dc, hc, hl, q⟩ := h
    refine ⟨_, (pss_cons (ps_asg (pe_tup (pa_cons pe_int (pa_cons pe_int pa_nil))) (pg_tupK (K := K) (n := 2) (by rfl) (pgs_cons (pg_name (i := 2) sc__law_binary.nd (by rfl) (by first | exact Or.inl rfl | exact Or.inr rfl)) (pgs_cons (pg_name (i := 3) sc__law_binary.nd (by rfl) (by first | exact Or.inl rfl | exact Or.inr rfl)) pgs_nil))))
      (pss_cons (ps_for PassesOwn.never (by rfl) (pi_str (pv 0)) (pg_name (i := 4) sc__law_binary.nd (by rfl) (by first | exact Or.inl rfl | exact Or.inr rfl)) (pss_one (ps_set (i := 2) sc__law_binary.nd (by rfl) (by first | exact Or.inl rfl | exact Or.inr rfl) (pe_op op_add (pe_op op_mulX pe_int (pv 2)) (pe_callTy cl_intS (by rfl) T.z_int (by decide +kernel) (pa_cons (pv 4) pa_nil))))))
      (pss_cons (ps_for PassesOwn.never (by rfl) (pi_str (pv 1)) (pg_name (i := 4) sc__law_binary.nd (by rfl) (by first | exact Or.inl rfl | exact Or.inr rfl)) (pss_one (ps_set (i := 3) sc__law_binary.nd (by rfl) (by first | exact Or.inl rfl | exact Or.inr rfl) (pe_op op_add (pe_op op_mulX pe_int (pv 3)) (pe_callTy cl_intS (by rfl) T.z_int (by decide +kernel) (pa_cons (pv 4) pa_nil))))))
      (pss_cons (ps_set (i := 5) sc__law_binary.nd (by rfl) (by first | exact Or.inl rfl | exact Or.inr rfl) (pe_op op_sub (pe_call (ok__law_twos T) (hr.mono (by decide)) (by rfl) T.g__law_twos T.F__law_twos.kp T.b__law_twos .nil pass0 (pa_cons (pe_callB (cl_len (K := K)) (by rfl) T.z_len (by decide +kernel) (pa_cons (pv 1) pa_nil)) pa_nil)) pe_int))
      (pss_cons (ps_set (i := 6) sc__law_binary.nd (by rfl) (by first | exact Or.inl rfl | exact Or.inr rfl) (pe_op op_mulX (pe_call (ok__law_twos T) (hr.mono (by decide)) (by rfl) T.g__law_twos T.F__law_twos.kp T.b__law_twos .nil pass0 (pa_cons (pe_callB (cl_len (K := K)) (by rfl) T.z_len (by decide +kernel) (pa_cons (pv 0) pa_nil)) pa_nil)) (pv 5)))
      (pss_one (ps_ret (pe_call (ok__law_ratio T) (hr.mono (by decide)) (by rfl) T.g__law_ratio T.F__law_ratio.kp T.b__law_ratio .nil pass0 (pa_cons (pe_op op_modD (pe_callTy cl_int (by rfl) T.z_int (by decide +kernel) (pa_cons (pe_op op_add (pe_op op_mulX (pv 2) (pv 5)) (pv 3)) pa_nil)) (pv 6)) (pa_cons (pv 6) pa_nil)))))))))), ?_⟩
    rw [show start N__law_binary [.str (Sg h), .str (Sg c)] = [some (.str (Sg h)), some (.str (Sg c)), none, none, none, none, none] from rfl]
    try dsimp only [cxK]
    have hp : 0 < c.length := List.length_pos_iff.mpr hc
    walk_at "wp"
    refine w_newT (K := K) (len_ok (by simp)) (.cons (.int _) (.cons (.int _) .nil)) fun t0 H0 n0 e0 d0 => ?_
    refine w_gTupP (x := (0, 0)) d0 ?_
    walk_at "wp"
    refine forS_by (fun i σ' H' => ∃ (y4 y5 y6 : Option V), σ' = [some (.str (Sg h)), some (.str (Sg c)), some (.int (bv (h.take i) : Int)), some (.int 0), y4, y5, y6] ∧ H0 = H') ⟨none, none, none, rfl, rfl⟩ ?_ ?_
    · rintro i x σ' H' hx ⟨y4, y5, y6, rfl, rfl⟩
      rw [sg_tl] at hx
      have hm : x = 48 ∨ x = 49 := dh x (List.mem_of_getElem? hx)
      have hb := bv_lt (h.take i) (fun z hz => dh z (List.mem_of_mem_take hz))
      have hb2 : 2 ^ (h.take i).length ≤ 2 ^ 80 := Nat.pow_le_pow_right (by decide) (by rw [List.length_take]; omega)
      rw [sg_one]
      walk_at "wp"
      refine w_intS hm ?_
      walk_at "wp"
      have e : bv (h.take (i + 1)) = 2 * bv (h.take i) + (x - 48) := by
        rw [List.take_add_one, hx, Option.toList_some, bv_snoc]
      rw [e]
      exact ⟨_, _, _, rfl, rfl⟩
    · rintro σ' H' ⟨y4, y5, y6, rfl, rfl⟩
      rw [sg_len, List.take_length]
      walk_at "wp"
      refine forS_by (fun i σ' H' => ∃ (y4 y5 y6 : Option V), σ' = [some (.str (Sg h)), some (.str (Sg c)), some (.int (bv h : Int)), some (.int (bv (c.take i) : Int)), y4, y5, y6] ∧ H0 = H') ⟨_, _, _, rfl, rfl⟩ ?_ ?_
      · rintro i x σ' H' hx ⟨y4, y5, y6, rfl, rfl⟩
        rw [sg_tl] at hx
        have hm : x = 48 ∨ x = 49 := dc x (List.mem_of_getElem? hx)
        have hb := bv_lt (c.take i) (fun z hz => dc z (List.mem_of_mem_take hz))
        have hb2 : 2 ^ (c.take i).length ≤ 2 ^ 80 := Nat.pow_le_pow_right (by decide) (by rw [List.length_take]; omega)
        rw [sg_one]
        walk_at "wp"
        refine w_intS hm ?_
        walk_at "wp"
        have e : bv (c.take (i + 1)) = 2 * bv (c.take i) + (x - 48) := by
          rw [List.take_add_one, hx, Option.toList_some, bv_snoc]
        rw [e]
        exact ⟨_, _, _, rfl, rfl⟩
      · rintro σ' H' ⟨y4, y5, y6, rfl, rfl⟩
        rw [sg_len, List.take_length]
        walk_at "wp"
        refine ⟨c.length, rfl, by omega, ?_⟩
        walk_at "wp"
        refine ⟨h.length, rfl, by omega, ?_⟩
        have b0 := bv_lt h dh
        have b1 := bv_lt c dc
        have b2 : 2 ^ h.length ≤ 2 ^ 80 := Nat.pow_le_pow_right (by decide) (by omega)
        have b3 : 2 ^ c.length ≤ 2 ^ 80 := Nat.pow_le_pow_right (by decide) (by omega)
        have b4 := two_pow_pos c.length
        have b5 := two_pow_pos h.length
        have b6 := botN_pos (h := h) hc
        have b7 : botN h c < 2 ^ 160 := by
          unfold botN
          calc 2 ^ h.length * (2 ^ c.length - 1) < 2 ^ h.length * 2 ^ c.length := Nat.mul_lt_mul_of_pos_left (by omega) b5
            _ ≤ 2 ^ 80 * 2 ^ 80 := Nat.mul_le_mul b2 b3
            _ = 2 ^ 160 := by rw [← Nat.pow_add]
        have e1 : (((2 ^ c.length : Nat) : Int) - 1) = ((2 ^ c.length - 1 : Nat) : Int) := by omega
        rw [e1]
        have e2 : ((2 ^ h.length : Nat) : Int) * ((2 ^ c.length - 1 : Nat) : Int) = ((botN h c : Nat) : Int) := rfl
        generalize hB : botN h c = B at *
        generalize hP : 2 ^ h.length = P at *
        generalize hW : 2 ^ c.length - 1 = W at *
        have c1 : (W : Int) < 2 ^ 80 := by omega
        have c2 : (P : Int) ≤ 2 ^ 80 := by omega
        have c3 : (bv h : Int) < 2 ^ 80 := by omega
        walk_at "wp"
        rw [e2]
        walk_at "wp"
        refine ⟨(bv h * W + bv c) % B, B, rfl, b6, by omega, fun v H1 e d => q v H1 (e0.trans e) ?_⟩
        unfold binN
        rw [hB, hW]
        exact d

/-! ### _law_is_place -/
def sp__law_is_place (K : PySem.W.Frag) : Sp := fun vs H Q _ => ∃ v d, vs = [v] ∧ Dp K H v d ∧ (∀ a b, d = .tuple [.int a, .int b] → b < 2 ^ 180) ∧ ∀ H', Same H H' → Q (.bl (plD d)) H'
theorem ok__law_is_place (T : Top K mg) : FnOk P w K mg base CX0 3 T.f__law_is_place T.fd__law_is_place ["value"] (sp__law_is_place K) := by
  refine T.F__law_is_place.ok sc__law_is_place (fun vs H Q E h => ?_) (fun cdv A outer s H vs Q E hr h => ?_)
  · obtain ⟨v, d, rfl, _⟩ := h
    rfl
  · obtain ⟨v, d, rfl, hv, hb, q⟩ := h
    refine ⟨_, (pss_cons (ps_if (PW.pt (pw_or (pt_not (pt_val (pe_callB (cl_isi (K := K)) (by rfl) T.z_isinstance (by decide +kernel) (pa_cons (pv 0) (pa_cons (pe_bltn (v := .ty "tuple") (by rfl) T.z_tuple (by decide +kernel) rfl) pa_nil))))) (pw_or1 (pt_cmpR op_ne (pe_callB (cl_len (K := K)) (by rfl) T.z_len (by decide +kernel) (pa_cons (pv 0) pa_nil)) pe_int (nomark _))))) (pss_one (ps_ret pe_bl)) pss_nil)
      (pss_cons (ps_for PassesOwn.never (by rfl) (pi_tupK (K := K) (pv 0)) (pg_name (i := 1) sc__law_is_place.nd (by rfl) (by first | exact Or.inl rfl | exact Or.inr rfl)) (pss_one (ps_if (PW.pt (pw_or (pt_not (pt_val (pe_callB (cl_isi (K := K)) (by rfl) T.z_isinstance (by decide +kernel) (pa_cons (pv 1) (pa_cons (pe_bltn (v := .ty "int") (by rfl) T.z_int (by decide +kernel) rfl) pa_nil))))) (pw_or1 (pt_val (pe_callB (cl_isi (K := K)) (by rfl) T.z_isinstance (by decide +kernel) (pa_cons (pv 1) (pa_cons (pe_bltn (v := .ty "bool") (by rfl) T.z_bool (by decide +kernel) rfl) pa_nil))))))) (pss_one (ps_ret pe_bl)) pss_nil)))
      (pss_cons (ps_if (PW.pt (pw_or (pt_not (pt_chain op_le op_lt pe_int (pe_ix (ix_tupK (K := K)) (pv 0) pe_int (fun _ _ => rfl)) (pe_ix (ix_tupK (K := K)) (pv 0) pe_int (fun _ _ => rfl)))) (pw_or1 (pt_cmpR op_ne (pe_call (ok__law_shared T) (hr.mono (by decide)) (by rfl) T.g__law_shared T.F__law_shared.kp T.b__law_shared .nil pass0 (pa_cons (pe_ix (ix_tupK (K := K)) (pv 0) pe_int (fun _ _ => rfl)) (pa_cons (pe_ix (ix_tupK (K := K)) (pv 0) pe_int (fun _ _ => rfl)) pa_nil))) pe_int (nomark _))))) (pss_one (ps_ret pe_bl)) pss_nil)
      (pss_one (ps_ret (pe_cmpR op_le (pe_call (ok__law_steps T) (hr.mono (by decide)) (by rfl) T.g__law_steps T.F__law_steps.kp T.b__law_steps .nil pass0 (pa_cons (pv 0) pa_nil)) pe_int (nomark _))))))), ?_⟩
    rw [show start N__law_is_place [v] = [some (v), none] from rfl]
    try dsimp only [cxK]
    match d, hv, hb, q with
    | .none, hv, _, q => cases hv; walk_at "wp"; exact q _ (Same.refl _)
    | .bool b, hv, _, q => cases hv; walk_at "wp"; exact q _ (Same.refl _)
    | .int i, hv, _, q => cases hv; walk_at "wp"; exact q _ (Same.refl _)
    | .str s, hv, _, q => cases hv; walk_at "wp"; exact q _ (Same.refl _)
    | .list ds, hv, _, q => walk_at "wp"; exact q _ (Same.refl _)
    | .dict _, hv, _, _ => cases hv
    | .tuple ds, hv, hb, q =>
      walk_at "wp"
      by_cases hl : ds.length = 2
      · obtain ⟨d1, d2, rfl⟩ : ∃ d1 d2, ds = [d1, d2] := by
          match ds, hl with
          | [d1, d2], _ => exact ⟨d1, d2, rfl⟩
        rw [show (([d1, d2] : List PyData).length : Int) = 2 from rfl]
        have two : ∀ {R : V → Hp → Prop}, R (.bl (plD (.tuple [d1, d2]))) H → R (.bl (plD (.tuple [d1, d2]))) H := fun h => h
        refine w_iteND (fun h => absurd rfl h) (fun _ => ?_)
        walk_at "wp"
        refine forT_by (fun i σ' H' => ∃ y, σ' = [some v, y] ∧ H = H' ∧ (i ≤ 0 ∨ isI d1 = true) ∧ (i ≤ 1 ∨ isI d2 = true)) hv ⟨_, rfl, rfl, .inl (by omega), .inl (by omega)⟩ (fun i σ' H' _ ⟨y, _, e, _⟩ => e ▸ Keep.refl _) ?_ ?_
        · rintro i d y σ' H' hd dy ⟨y2, rfl, rfl, r1, r2⟩
          obtain ⟨next, stay⟩ : (isI d = true → (i + 1 ≤ 0 ∨ isI d1 = true) ∧ (i + 1 ≤ 1 ∨ isI d2 = true)) ∧ (¬ isI d = true → plD (.tuple [d1, d2]) = false) := by
            match i, hd with
            | 0, hd =>
              cases hd
              exact ⟨fun z => ⟨.inr z, .inl (by omega)⟩, fun z => by cases d1 <;> first | rfl | (simp [isI] at z)⟩
            | 1, hd =>
              cases hd
              exact ⟨fun z => ⟨.inr (r1.resolve_left (by omega)), .inr z⟩, fun z => by cases d1 <;> first | rfl | (cases d2 <;> first | rfl | (simp [isI] at z))⟩
            | i + 2, hd => simp at hd
          have bad : ¬ isI d = true → Q (.bl false) H := fun z => by have := q H (Same.refl _); rw [stay z] at this; exact this
          cases d with
          | int k => cases dy; walk_at "wp"; exact ⟨_, rfl, rfl, (next rfl).1, (next rfl).2⟩
          | none => cases dy; walk_at "wp"; exact bad (by simp [isI])
          | bool b => cases dy; walk_at "wp"; exact bad (by simp [isI])
          | str s => cases dy; walk_at "wp"; exact bad (by simp [isI])
          | list ds => walk_at "wp"; exact bad (by simp [isI])
          | tuple ds => walk_at "wp"; exact bad (by simp [isI])
          | dict _ => cases dy
        · rintro σ' H' ⟨y2, rfl, rfl, r1, r2⟩
          have r1 := r1.resolve_left (by simp)
          have r2 := r2.resolve_left (by simp)
          obtain ⟨a, rfl⟩ : ∃ a, d1 = .int a := by cases d1 <;> simp [isI] at r1; exact ⟨_, rfl⟩
          obtain ⟨b, rfl⟩ : ∃ b, d2 = .int b := by cases d2 <;> simp [isI] at r2; exact ⟨_, rfl⟩
          have hbb := hb a b rfl
          have q' : ∀ H', Same H H' → Q (.bl (decide (0 ≤ a) && decide (a < b) && reachB b.toNat && decide (Nat.gcd a.toNat b.toNat = 1))) H' := q
          walk_at "wp"
          refine w_ixT (j := 0) hv rfl rfl fun v1 h1 => ?_
          cases h1
          walk_at "wp"
          by_cases h0 : 0 ≤ a
          · obtain ⟨a, rfl⟩ := Int.eq_ofNat_of_zero_le h0
            rw [decide_eq_true h0] at q' ⊢
            walk_at "wp"
            refine w_ixT (j := 1) hv rfl rfl fun v2 h2 => ?_
            cases h2
            walk_at "wp"
            by_cases hab : (a : Int) < b
            · obtain ⟨b, rfl⟩ := Int.eq_ofNat_of_zero_le (show 0 ≤ b by omega)
              rw [decide_eq_true hab] at q' ⊢
              rw [Int.toNat_natCast, Int.toNat_natCast] at q'
              walk_at "wp"
              refine w_ixT (j := 0) hv rfl rfl fun v3 h3 => ?_
              cases h3
              walk_at "wp"
              refine w_ixT (j := 1) hv rfl rfl fun v4 h4 => ?_
              cases h4
              walk_at "wp"
              refine ⟨a, b, rfl, by omega, ?_⟩
              walk_at "wp"
              refine w_iteND (fun hg => ?_) (fun hg => ?_)
              · have hg : ¬ Nat.gcd a b = 1 := fun z => hg (by rw [z]; rfl)
                rw [decide_eq_false hg] at q'
                walk_at "wp"
                have := q' _ (Same.refl _)
                rw [Bool.and_false] at this
                exact this
              · have hg : Nat.gcd a b = 1 := by omega
                rw [decide_eq_true hg] at q'
                walk_at "wp"
                refine ⟨v, (a, b), rfl, hv, by show a < b; omega, hg, by show b < 2 ^ 190; omega, fun n H1 hn e1 => ?_⟩
                walk_at "wp"
                have hd : decide ((n : Int) ≤ 24) = reachB b := by
                  rw [Bool.eq_iff_iff, decide_eq_true_eq, ← hn]
                  omega
                rw [hd]
                have := q' _ e1
                simpa using this
            · rw [decide_eq_false hab] at q' ⊢
              walk_at "wp"
              exact q' _ (Same.refl _)
          · rw [decide_eq_false h0] at q' ⊢
            walk_at "wp"
            exact q' _ (Same.refl _)
      · have hf : plD (.tuple ds) = false := by
          match ds, hl with
          | [], _ => rfl
          | [x], _ => cases x <;> rfl
          | [_, _], h => exact absurd rfl h
          | x :: y :: _ :: _, _ => cases x <;> first | rfl | (cases y <;> rfl)
        rw [hf] at q
        rw [decide_eq_false (show ¬ ((ds.length : Int) = 2) by omega)]
        walk_at "wp"
        exact q _ (Same.refl _)

/-! ### _law_bottoms -/
def sp__law_bottoms (K : PySem.W.Frag) : Sp := fun vs H Q _ => ∃ (m c : Addr) (b : Nat), vs = [.ref m] ∧ Mo H m c b ∧ b < 2 ^ 40 ∧ ∀ (n : Nat) H', 1 ≤ n → n < 2 ^ 101 → Keep H H' → Mo H' m c (b + 1) → Q (.int n) H'
theorem ok__law_bottoms (T : Top K mg) : FnOk P w K mg base CX0 3 T.f__law_bottoms T.fd__law_bottoms ["m"] (sp__law_bottoms K) := by
  refine T.F__law_bottoms.ok sc__law_bottoms (fun vs H Q E h => ?_) (fun cdv A outer s H vs Q E hr h => ?_)
  · obtain ⟨m, c, b, rfl, _⟩ := h
    rfl
  · obtain ⟨m, c, b, rfl, hm, hb, q⟩ := h
    refine ⟨_, (pss_cons (ps_set (i := 1) sc__law_bottoms.nd (by rfl) (by first | exact Or.inl rfl | exact Or.inr rfl) (pe_lst (pa_cons (pe_op op_pow pe_int pe_int) (pa_cons (pe_op op_pow pe_int pe_int) (pa_cons (pe_op op_sub (pe_op op_pow pe_int pe_int) pe_int) (pa_cons (pe_op op_sub (pe_op op_pow pe_int pe_int) pe_int) (pa_cons (pe_op op_mulX (pe_op op_pow pe_int pe_int) pe_int) (pa_cons (pe_op op_mulX (pe_op op_pow pe_int pe_int) pe_int) (pa_cons pe_int (pa_cons pe_int (pa_cons (pe_op op_mulX pe_int (pe_op op_pow pe_int pe_int)) (pa_cons (pe_op op_mulX pe_int (pe_op op_pow pe_int pe_int)) pa_nil))))))))))))
      (pss_cons (ps_expr (pe_bm PySem.F.plainAttrs_list PySem.F.slot_list_extend PySem.F.type_list_extend mt_extend (pv 1) (pa_cons (pe_lst (pa_cons (pe_op op_mulX pe_int pe_int) (pa_cons pe_int (pa_cons pe_int (pa_cons pe_int (pa_cons (pe_op op_add (pe_op op_pow pe_int pe_int) pe_int) (pa_cons pe_int (pa_cons pe_int pa_nil)))))))) pa_nil)))
      (pss_one (ps_ret (pe_call (ok__law_of T) (hr.mono (by decide)) (by rfl) T.g__law_of T.F__law_of.kp T.b__law_of .nil pass0 (pa_cons (pv 0) (pa_cons (pv 1) pa_nil))))))), ?_⟩
    rw [show start N__law_bottoms [.ref m] = [some (.ref m), none] from rfl]
    try dsimp only [cxK]
    repeat first | walk_at "e" | walk_at "s" | refine w_rI (C := CPow) ⟨by decide, by decide, by decide⟩ ?_ | refine w_rI (C := CMulX) (mulS ⟨by decide, by decide⟩ ⟨by decide, by decide⟩) ?_
    refine w_newL (K := K) (ds := ([8388608, 16777216, 16777215, 33554431, 16773120, 33546240, 25, 29, 12582912, 25165824] : List Int).map PyData.int) (len_ok (by simp)) (dpa_ints [8388608, 16777216, 16777215, 33554431, 16773120, 33546240, 25, 29, 12582912, 25165824]) fun p1 H1 n1 e1 f1 d1 => ?_
    walk_at "w"
    refine w_tyL f1 ?_
    repeat first | walk_at "e" | walk_at "s" | refine w_rI (C := CPow) ⟨by decide, by decide, by decide⟩ ?_ | refine w_rI (C := CMulX) (mulS ⟨by decide, by decide⟩ ⟨by decide, by decide⟩) ?_
    refine w_newL (K := K) (ds := ([33542145, 241, 227, 1000003, 1000000000000000000000000000057, 1, 2] : List Int).map PyData.int) (len_ok (by simp)) (dpa_ints [33542145, 241, 227, 1000003, 1000000000000000000000000000057, 1, 2]) fun p2 H2 n2 e2 f2 d2 => ?_
    walk_at "w"
    refine w_extend (e2 _ _ f1) f2 (by simp) ?_
    walk_at "w"
    have hm2 := (hm.same e1).same e2
    have hne : c ≠ p1 := hm.ne n1
    have hm3 := hm2.upd (o := .lst (([8388608, 16777216, 16777215, 33554431, 16773120, 33546240, 25, 29, 12582912, 25165824] : List Int).map V.int ++ ([33542145, 241, 227, 1000003, 1000000000000000000000000000057, 1, 2] : List Int).map V.int)) (e2 _ _ f1) hne
    have kk : Keep H (upd H2 p1 (.lst (([8388608, 16777216, 16777215, 33554431, 16773120, 33546240, 25, 29, 12582912, 25165824] : List Int).map V.int ++ ([33542145, 241, 227, 1000003, 1000000000000000000000000000057, 1, 2] : List Int).map V.int))) := Keep.of (same_mut (e1.trans e2) n1)
    have dd : Dp K (upd H2 p1 (.lst (([8388608, 16777216, 16777215, 33554431, 16773120, 33546240, 25, 29, 12582912, 25165824] : List Int).map V.int ++ ([33542145, 241, 227, 1000003, 1000000000000000000000000000057, 1, 2] : List Int).map V.int))) (.ref p1) (.list (([8388608, 16777216, 16777215, 33554431, 16773120, 33546240, 25, 29, 12582912, 25165824, 33542145, 241, 227, 1000003, 1000000000000000000000000000057, 1, 2] : List Int).map PyData.int)) := dp_newL upd_same (dpa_ints [8388608, 16777216, 16777215, 33554431, 16773120, 33546240, 25, 29, 12582912, 25165824, 33542145, 241, 227, 1000003, 1000000000000000000000000000057, 1, 2])
    refine ⟨m, c, _, _, _, rfl, dd, by simp, by simp, hm3, by omega, fun y d H5 hd hy k5 m5 => ?_⟩
    obtain ⟨n, hn, rfl⟩ := List.mem_map.mp hd
    cases hy
    have hb : ∀ n ∈ ([8388608, 16777216, 16777215, 33554431, 16773120, 33546240, 25, 29, 12582912, 25165824, 33542145, 241, 227, 1000003, 1000000000000000000000000000057, 1, 2] : List Int), 1 ≤ n ∧ n < 2 ^ 101 := by decide +kernel
    obtain ⟨b1, b2⟩ := hb n hn
    have := q n.toNat H5 (by omega) (by omega) (kk.trans k5) m5
    rw [Int.toNat_of_nonneg (by omega)] at this
    exact this

/-! ### check_place -/
def sp_check_place {K : PySem.W.Frag} {mg : Str → Option Value} (T : Top K mg) : Sp := fun vs H Q E => ∃ v d, vs = [v] ∧ Dp K H v d ∧ (plD d = true → Q v H) ∧ (¬ plD d = true → E (.ref T.c_NotPlace) none H)
theorem ok_check_place (T : Top K mg) : FnOk P w K mg base (CX P w) 4 T.f_check_place T.fd_check_place ["value"] (sp_check_place T) := by
  refine T.F_check_place.okX sc_check_place (fun vs H Q E h => ?_) (fun cdv A outer s H vs Q E hr h => ?_)
  · obtain ⟨v, d, rfl, _⟩ := h
    rfl
  · obtain ⟨v, d, rfl, hv, q, qe⟩ := h
    refine ⟨_, (pss_cons (ps_if (pt_not (pt_val (pe_call (ok_is_place T) (hr.mono (by decide)) (by rfl) T.g_is_place T.F_is_place.kp T.b_is_place .nil pass0 (pa_cons (pv 0) pa_nil)))) (pss_one (ps_raise rfl (takes_of rfl rfl rfl rfl) (pmk_own PySem.F.excBase_ValueError T.xq_NotPlace T.gc_NotPlace T.x_NotPlace.o.kC (raises_own T.x_NotPlace.o.exC T.x_NotPlace.o.tyC) (by rfl)))) pss_nil)
      (PSs.nox (pss_one (ps_ret (pv 0))))), ?_⟩
    rw [show start N_check_place [v] = [some (v)] from rfl]
    try dsimp only [cxK]
    walk_at "wp"
    refine ⟨v, d, rfl, hv, ?_⟩
    by_cases hd : plD d = true
    · rw [hd]
      walk_at "wp"
      exact q hd
    · rw [Bool.eq_false_iff.mpr hd]
      walk_at "wp"
      exact qe hd

/-! ### _law_place -/
def sp__law_place (K : PySem.W.Frag) : Sp := fun vs H Q _ => ∃ (m c : Addr) (n k : Int) (b : Nat), vs = [.ref m, .int n, .int k] ∧ 0 ≤ n ∧ 1 ≤ k ∧ n + k ≤ 80 ∧ Mo H m c b ∧ b < 2 ^ 44 ∧ ∀ (h t : List Nat) v H', h.length = n.toNat → t.length = k.toNat → Dg h → Dg t → Keep H H' → Mo H' m c (b + 80) → Dp K H' v (pd (binN h t)) → Q v H'
theorem ok__law_place (T : Top K mg) : FnOk P w K mg base CX0 4 T.f__law_place T.fd__law_place ["m", "ahead", "again"] (sp__law_place K) := by
  refine T.F__law_place.ok sc__law_place (fun vs H Q E h => ?_) (fun cdv A outer s H vs Q E hr h => ?_)
  · obtain ⟨m, c, n, k, b, rfl, _⟩ := h
    rfl
  · obtain ⟨m, c, n, k, b, rfl, h0, h1, h2, hm, hb, q⟩ := h
    refine ⟨_, (pss_one (ps_ret (pe_call (ok__law_binary T) (hr.mono (by decide)) (by rfl) T.g__law_binary T.F__law_binary.kp T.b__law_binary .nil pass0 (pa_cons (pe_call (ok__law_string T) (hr.mono (by decide)) (by rfl) T.g__law_string T.F__law_string.kp T.b__law_string .nil pass0 (pa_cons (pv 0) (pa_cons (pv 1) pa_nil))) (pa_cons (pe_call (ok__law_string T) (hr.mono (by decide)) (by rfl) T.g__law_string T.F__law_string.kp T.b__law_string .nil pass0 (pa_cons (pv 0) (pa_cons (pv 2) pa_nil))) pa_nil))))), ?_⟩
    rw [show start N__law_place [.ref m, .int n, .int k] = [some (.ref m), some (.int n), some (.int k)] from rfl]
    try dsimp only [cxK]
    walk_at "wp"
    refine ⟨m, c, n, b, rfl, h0, by omega, hm, by omega, fun h H1 l1 dh k1 m1 => ?_⟩
    walk_at "wp"
    refine ⟨m, c, k, _, rfl, by omega, by omega, m1, by omega, fun t H2 l2 dt k2 m2 => ?_⟩
    walk_at "wp"
    refine ⟨h, t, rfl, dh, dt, fun z => ?_, by omega, fun v H3 e3 d3 => ?_⟩
    · rw [z] at l2
      simp at l2
      omega
    · exact q h t v H3 l1 l2 dh dt ((k1.trans k2).trans (Keep.of e3)) ((m2.same e3).mono (by omega)) d3

/-! ### place -/
def sp_place {K : PySem.W.Frag} {mg : Str → Option Value} (T : Top K mg) : Sp := fun vs H Q E => ∃ p q : Int, vs = [.int p, .int q] ∧ q ≠ 0 ∧ q.natAbs < 2 ^ 150 ∧ CMulX p ((CN : Nat) : Int) ∧
  (reachB (madeN p q).2 = true → ∀ v H', Same H H' → Dp K H' v (pd (madeN p q)) → Q v H') ∧ (¬ reachB (madeN p q).2 = true → ∀ H', Same H H' → E (.ref T.c_NotPlace) none H')
theorem ok_place (T : Top K mg) : FnOk P w K mg base (CX P w) 5 T.f_place T.fd_place ["top", "bottom"] (sp_place T) := by
  refine T.F_place.okX sc_place (fun vs H Q E h => ?_) (fun cdv A outer s H vs Q E hr h => ?_)
  · obtain ⟨p, q, rfl, _⟩ := h
    rfl
  · obtain ⟨p, q, rfl, h0, h1, hm, q1, q2⟩ := h
    refine ⟨_, (pss_cons (ps_asg (pe_callB cl_divmodZ (by rfl) T.z_divmod (by decide +kernel) (pa_cons (pe_op op_mulX (pv 0) (pe_cint (by rfl) T.c_COMMON)) (pa_cons (pv 1) pa_nil))) (pg_tupK (K := K) (n := 2) (by rfl) (pgs_cons (pg_name (i := 2) sc_place.nd (by rfl) (by first | exact Or.inl rfl | exact Or.inr rfl)) (pgs_cons (pg_name (i := 3) sc_place.nd (by rfl) (by first | exact Or.inl rfl | exact Or.inr rfl)) pgs_nil))))
      (pss_cons (ps_if (pt_cmpR op_ne (pv 3) pe_int (nomark _)) (pss_one (ps_raise rfl (takes_of rfl rfl rfl rfl) (pmk_own PySem.F.excBase_ValueError T.xq_NotPlace T.gc_NotPlace T.x_NotPlace.o.kC (raises_own T.x_NotPlace.o.exC T.x_NotPlace.o.tyC) (by rfl)))) pss_nil)
      (pss_cons (ps_ret (pe_call (ok_check_place T) (hr.mono (by decide)) (by rfl) T.g_check_place T.F_check_place.kp T.b_check_place .nil (passes_call (takes_of rfl rfl rfl rfl) (fun _ _ _ _ h => h)) (pa_cons (pe_call (ok_reduced T) (hr.mono (by decide)) (by rfl) T.g_reduced T.F_reduced.kp T.b_reduced .nil pass0 (pa_cons (pe_op op_modD (pv 2) (pe_cint (by rfl) T.c_COMMON)) (pa_cons (pe_cint (by rfl) T.c_COMMON) pa_nil))) pa_nil)))
      pss_nil))), ?_⟩
    rw [show start N_place [.int p, .int q] = [some (.int p), some (.int q), none, none] from rfl]
    try dsimp only [cxK]
    have hC := CN_lt
    have hC0 := CN_pos
    walk_at "wp"
    refine w_divmodZ (K := K) h0 (by omega) fun p3 H1 e1 d1 => ?_
    refine w_gTup2 d1 fun v1 v2 dv1 dv2 => ?_
    cases dv1
    cases dv2
    walk_at "wp"
    by_cases hd : q ∣ p * ((CN : Nat) : Int)
    · have r0 : (p * ((CN : Nat) : Int)).fmod q = 0 := Int.fmod_eq_zero_of_dvd hd
      have hs : (p * ((CN : Nat) : Int)).fdiv q * q = p * ((CN : Nat) : Int) := Int.fdiv_mul_cancel hd
      have hg := made_good h0 hs
      have hml := made_lt (p := p) h0
      rw [r0]
      generalize (p * ((CN : Nat) : Int)).fdiv q = S at *
      refine w_iteND (fun h => absurd rfl h) (fun _ => ?_)
      walk_at "wp"
      have b1 := Int.emod_nonneg S (show ((CN : Nat) : Int) ≠ 0 by omega)
      refine ⟨(S % ((CN : Nat) : Int)).toNat, CN, by rw [Int.toNat_of_nonneg b1]; rfl, hC0, hC, fun v2 H2 e2 d2 => ?_⟩
      rw [hg] at d2
      have hpd : plD (pd (madeN p q)) = reachB (madeN p q).2 := plD_pd (red_lt hml) (red_coprime (by omega))
      walk_at "wp"
      refine ⟨v2, _, rfl, d2, fun z => ?_, fun z => ?_⟩
      · exact q1 (hpd ▸ z) v2 H2 (e1.trans e2) d2
      · exact q2 (hpd ▸ z) H2 (e1.trans e2)
    · have r0 : ¬ (p * ((CN : Nat) : Int)).fmod q = 0 := fun z => hd (Int.dvd_of_fmod_eq_zero z)
      refine w_iteND (fun _ => ?_) (fun z => absurd z r0)
      walk_at "wp"
      exact q2 (made_bad h0 hd) H1 e1

/-! ### _law_any_place -/
def sp__law_any_place (K : PySem.W.Frag) : Sp := fun vs H Q _ => ∃ (m c : Addr) (n : Int) (b : Nat), vs = [.ref m, .int n] ∧ 1 ≤ n ∧ n ≤ 60 ∧ Mo H m c b ∧ b < 2 ^ 43 ∧ ∀ (h t : List Nat) v H', (h.length : Int) + t.length ≤ n → t ≠ [] → Dg h → Dg t → Keep H H' → Mo H' m c (b + 82) → Dp K H' v (pd (binN h t)) → Q v H'
theorem ok__law_any_place (T : Top K mg) : FnOk P w K mg base CX0 5 T.f__law_any_place T.fd__law_any_place ["m", "limit"] (sp__law_any_place K) := by
  refine T.F__law_any_place.ok sc__law_any_place (fun vs H Q E h => ?_) (fun cdv A outer s H vs Q E hr h => ?_)
  · obtain ⟨m, c, n, b, rfl, _⟩ := h
    rfl
  · obtain ⟨m, c, n, b, rfl, h0, h1, hm, hb, q⟩ := h
    refine ⟨_, (pss_cons (ps_set (i := 2) sc__law_any_place.nd (by rfl) (by first | exact Or.inl rfl | exact Or.inr rfl) (pe_op op_add pe_int (pe_call (ok__law_draw T) (hr.mono (by decide)) (by rfl) T.g__law_draw T.F__law_draw.kp T.b__law_draw .nil pass0 (pa_cons (pv 0) (pa_cons (pv 1) pa_nil)))))
      (pss_one (ps_ret (pe_call (ok__law_place T) (hr.mono (by decide)) (by rfl) T.g__law_place T.F__law_place.kp T.b__law_place .nil pass0 (pa_cons (pv 0) (pa_cons (pe_call (ok__law_draw T) (hr.mono (by decide)) (by rfl) T.g__law_draw T.F__law_draw.kp T.b__law_draw .nil pass0 (pa_cons (pv 0) (pa_cons (pe_op op_add (pe_op op_sub (pv 1) (pv 2)) pe_int) pa_nil))) (pa_cons (pv 2) pa_nil))))))), ?_⟩
    rw [show start N__law_any_place [.ref m, .int n] = [some (.ref m), some (.int n), none] from rfl]
    try dsimp only [cxK]
    walk_at "wp"
    refine ⟨m, c, n, b, rfl, by omega, by omega, hm, by omega, fun r H1 r0 r1 k1 m1 => ?_⟩
    walk_at "wp"
    refine ⟨m, c, _, _, rfl, by omega, by omega, m1, by omega, fun r2 H2 r20 r21 k2 m2 => ?_⟩
    walk_at "wp"
    refine ⟨m, c, r2, 1 + r, _, rfl, by omega, by omega, by omega, m2, by omega, fun h t v H3 l1 l2 dh dt k3 m3 d3 => ?_⟩
    exact q h t v H3 (by omega) (fun z => by rw [z] at l2; simp at l2; omega) dh dt ((k1.trans k2).trans k3) (m3.mono (by omega)) d3

/-! ### law -/
def sp_law (K : PySem.W.Frag) (PP : Addr) : Sp := fun vs H Q _ => ∃ (a : Addr) (ns : List Int), vs = [.ref a] ∧ SqL K H a (ns.map V.int) ∧ ns.length ≤ 63 ∧ (∀ z ∈ ns, Builtin.Int.intBits z ≤ 1048576) ∧ H PP = some (.tbl #[]) ∧ ∀ H', Q (.bl true) H'
theorem ok_law (T : Top K mg) {cc PP : Addr} (hcc : T.fd_law.code = .ref cc) (TB : TabB base mg cc PP) : FnOk P w K mg base CX0 8 T.f_law T.fd_law ["script"] (sp_law K PP) := by
  refine okC T.F_law hcc sc_law (fun vs H Q E h => ?_) (fun A outer s H vs Q E hr h => ?_)
  · obtain ⟨a, ns, rfl, _⟩ := h
    rfl
  · obtain ⟨a, ns, rfl, hS, hl, hB, hP, q⟩ := h
    refine ⟨_, (pss_cons (ps_for PassesOwn.never (by rfl) (pi_range1 (by rfl) T.z_range (pa_cons (pe_callB (cl_max2 (by rfl)) (by rfl) T.z_max (by decide +kernel) (pa_cons pe_int (pa_cons (pe_callB (cl_min2 (by rfl)) (by rfl) T.z_min (by decide +kernel) (pa_cons (pe_callB (cl_len (K := K)) (by rfl) T.z_len (by decide +kernel) (pa_cons (pv 0) pa_nil)) (pa_cons pe_int pa_nil))) pa_nil))) pa_nil)) (pg_name (i := 1) sc_law.nd (by rfl) (by first | exact Or.inl rfl | exact Or.inr rfl)) (pss_cons (ps_set (i := 2) sc_law.nd (by rfl) (by first | exact Or.inl rfl | exact Or.inr rfl) (pe_call (ok__law_begun T) (hr.mono (by decide)) (by rfl) T.g__law_begun T.F__law_begun.kp T.b__law_begun .nil pass0 (pa_cons (pv 0) (pa_cons (pv 1) pa_nil))))
      (pss_cons (ps_set (i := 3) sc_law.nd (by rfl) (by first | exact Or.inl rfl | exact Or.inr rfl) (pe_call (ok__law_any_place T) (hr.mono (by decide)) (by rfl) T.g__law_any_place T.F__law_any_place.kp T.b__law_any_place .nil pass0 (pa_cons (pv 2) (pa_cons pe_int pa_nil))))
      (pss_cons (ps_set (i := 4) sc_law.nd (by rfl) (by first | exact Or.inl rfl | exact Or.inr rfl) (pe_lst (pa_cons (pv 3) (pa_cons (pe_tup (pa_cons (pe_op op_sub (pe_op op_add (pe_ix (ix_tupK (K := K)) (pv 3) pe_int (fun _ _ => rfl)) (pe_call (ok__law_draw T) (hr.mono (by decide)) (by rfl) T.g__law_draw T.F__law_draw.kp T.b__law_draw .nil pass0 (pa_cons (pv 2) (pa_cons pe_int pa_nil)))) pe_int) (pa_cons (pe_ix (ix_tupK (K := K)) (pv 3) pe_int (fun _ _ => rfl)) pa_nil))) (pa_cons (pe_tup (pa_cons (pe_ix (ix_tupK (K := K)) (pv 3) pe_int (fun _ _ => rfl)) (pa_cons (pe_op op_sub (pe_op op_add (pe_ix (ix_tupK (K := K)) (pv 3) pe_int (fun _ _ => rfl)) (pe_call (ok__law_draw T) (hr.mono (by decide)) (by rfl) T.g__law_draw T.F__law_draw.kp T.b__law_draw .nil pass0 (pa_cons (pv 2) (pa_cons pe_int pa_nil)))) pe_int) pa_nil))) (pa_cons (pe_tup (pa_cons (pe_op op_mulX pe_int (pe_ix (ix_tupK (K := K)) (pv 3) pe_int (fun _ _ => rfl))) (pa_cons (pe_op op_mulX pe_int (pe_ix (ix_tupK (K := K)) (pv 3) pe_int (fun _ _ => rfl))) pa_nil))) pa_nil))))))
      (pss_cons (ps_set (i := 5) sc_law.nd (by rfl) (by first | exact Or.inl rfl | exact Or.inr rfl) (pe_call (ok__law_bottoms T) (hr.mono (by decide)) (by rfl) T.g__law_bottoms T.F__law_bottoms.kp T.b__law_bottoms .nil pass0 (pa_cons (pv 2) pa_nil)))
      (pss_cons (ps_expr (pe_bm PySem.F.plainAttrs_list PySem.F.slot_list_extend PySem.F.type_list_extend mt_extend (pv 4) (pa_cons (pe_lst (pa_cons (pe_tup (pa_cons pe_int (pa_cons (pv 5) pa_nil))) (pa_cons (pe_tup (pa_cons (pe_op op_sub (pv 5) pe_int) (pa_cons (pv 5) pa_nil))) (pa_cons (pe_tup (pa_cons (pe_call (ok__law_draw T) (hr.mono (by decide)) (by rfl) T.g__law_draw T.F__law_draw.kp T.b__law_draw .nil pass0 (pa_cons (pv 2) (pa_cons pe_int pa_nil))) (pa_cons (pv 5) pa_nil))) pa_nil)))) pa_nil)))
      (pss_cons (ps_expr (pe_bm PySem.F.plainAttrs_list PySem.F.slot_list_append PySem.F.type_list_append mt_append (pv 4) (pa_cons (pe_call (ok__law_of T) (hr.mono (by decide)) (by rfl) T.g__law_of T.F__law_of.kp T.b__law_of .nil pass0 (pa_cons (pv 2) (pa_cons (pe_lst (pa_cons pe_non (pa_cons (pe_tup pa_nil) (pa_cons (pe_lst (pa_cons (pe_ix (ix_tupK (K := K)) (pv 3) pe_int (fun _ _ => rfl)) (pa_cons (pe_ix (ix_tupK (K := K)) (pv 3) pe_int (fun _ _ => rfl)) pa_nil))) (pa_cons (pe_tup (pa_cons (pe_ix (ix_tupK (K := K)) (pv 3) pe_int (fun _ _ => rfl)) (pa_cons (pe_ix (ix_tupK (K := K)) (pv 3) pe_int (fun _ _ => rfl)) (pa_cons pe_int pa_nil)))) (pa_cons (pe_tup (pa_cons pe_bl (pa_cons pe_int pa_nil))) (pa_cons (pe_tup (pa_cons pe_int (pa_cons pe_bl pa_nil))) (pa_cons pe_str (pa_cons pe_int (pa_cons (pe_tup (pa_cons (pv 3) pa_nil)) pa_nil)))))))))) pa_nil))) pa_nil)))
      (pss_cons (ps_for PassesOwn.never (by rfl) (pi_listK (K := K) (pv 4)) (pg_name (i := 6) sc_law.nd (by rfl) (by first | exact Or.inl rfl | exact Or.inr rfl)) (pss_cons (ps_set (i := 7) sc_law.nd (by rfl) (by first | exact Or.inl rfl | exact Or.inr rfl) (pe_ifExp (pt_val (pe_call (ok__law_is_place T) (hr.mono (by decide)) (by rfl) T.g__law_is_place T.F__law_is_place.kp T.b__law_is_place .nil pass0 (pa_cons (pv 6) pa_nil))) (pe_lst (pa_cons (pv 6) pa_nil)) pe_str))
      (pss_one (ps_if (pt_cmpR (op_neK (K := K) hr.units) (pe_lam (k := 4) (by rfl) T.g__law_told T.F__law_told T.b__law_told sc__law_told (by rfl) (Or.inl rfl) (fun cdg => gv__law_told T) TB (by rfl) (hr.mono (by decide)) (lamS_by (by show lamSB (defScope s_law) _ = true; decide +kernel)) (by rfl) (fun _ _ _ _ _ => by rfl) (fun A outer s H E f c hr => (pe_call (ok_check_place T) (hr.mono (by decide)) (by rfl) T.g_check_place T.F_check_place.kp T.b_check_place .nil (passes_call (takes_of rfl rfl rfl rfl) (fun _ _ _ _ h => h)) (pa_cons (pv 6) pa_nil)))) (pv 7) (nomark _)) (pss_one (ps_ret pe_bl)) pss_nil))))
      (pss_cons (ps_par (i := 8) (j := 9) (by rfl) sc_law.nd (by rfl) (by rfl) (by decide) (by rfl) (by rfl) (pa_cons (pe_op op_sub (pe_call (ok__law_draw T) (hr.mono (by decide)) (by rfl) T.g__law_draw T.F__law_draw.kp T.b__law_draw .nil pass0 (pa_cons (pv 2) (pa_cons pe_int pa_nil))) pe_int) (pa_cons (pe_op op_add pe_int (pe_call (ok__law_draw T) (hr.mono (by decide)) (by rfl) T.g__law_draw T.F__law_draw.kp T.b__law_draw .nil pass0 (pa_cons (pv 2) (pa_cons pe_int pa_nil)))) pa_nil)) (by rfl))
      (pss_cons (ps_set (i := 10) sc_law.nd (by rfl) (by first | exact Or.inl rfl | exact Or.inr rfl) (pe_ifExp (pt_cmpR op_lt (pv 1) (pe_callB (cl_len (K := K)) (by rfl) T.z_len (by decide +kernel) (pa_cons (pv 0) pa_nil)) (nomark _)) (pe_ix (ix_listK (K := K)) (pv 0) (pv 1) (fun _ _ => rfl)) (pe_op op_add (pe_op op_pow pe_int pe_int) (pv 1))))
      (pss_cons (ps_set (i := 11) sc_law.nd (by rfl) (by first | exact Or.inl rfl | exact Or.inr rfl) (pe_lst (pa_cons (pe_tup (pa_cons (pv 8) (pa_cons (pv 9) pa_nil))) (pa_cons (pe_tup (pa_cons (pv 8) (pa_cons (pe_un un_neg (pv 9)) pa_nil))) (pa_cons (pe_tup (pa_cons (pe_op op_add (pe_ix (ix_tupK (K := K)) (pv 3) pe_int (fun _ _ => rfl)) (pe_op op_mulX (pv 10) (pe_ix (ix_tupK (K := K)) (pv 3) pe_int (fun _ _ => rfl)))) (pa_cons (pe_ix (ix_tupK (K := K)) (pv 3) pe_int (fun _ _ => rfl)) pa_nil))) (pa_cons (pe_tup (pa_cons (pe_op op_mulX (pe_un un_neg pe_int) (pe_ix (ix_tupK (K := K)) (pv 3) pe_int (fun _ _ => rfl))) (pa_cons (pe_op op_mulX pe_int (pe_ix (ix_tupK (K := K)) (pv 3) pe_int (fun _ _ => rfl))) pa_nil))) (pa_cons (pe_tup (pa_cons (pv 10) (pa_cons (pv 5) pa_nil))) (pa_cons (pe_tup (pa_cons pe_int (pa_cons (pe_un un_neg (pv 9)) pa_nil))) pa_nil))))))))
      (pss_one (ps_for PassesOwn.never (by rfl) (pi_listK (K := K) (pv 11)) (pg_tupK (K := K) (n := 2) (by rfl) (pgs_cons (pg_name (i := 12) sc_law.nd (by rfl) (by first | exact Or.inl rfl | exact Or.inr rfl)) (pgs_cons (pg_name (i := 13) sc_law.nd (by rfl) (by first | exact Or.inl rfl | exact Or.inr rfl)) pgs_nil))) (pss_cons (ps_set (i := 14) sc_law.nd (by rfl) (by first | exact Or.inl rfl | exact Or.inr rfl) (pe_ifExp (pt_cmpR op_gt (pv 13) pe_int (nomark _)) (pv 12) (pe_un un_neg (pv 12))))
      (pss_cons (ps_set (i := 15) sc_law.nd (by rfl) (by first | exact Or.inl rfl | exact Or.inr rfl) (pe_call (ok__law_ratio T) (hr.mono (by decide)) (by rfl) T.g__law_ratio T.F__law_ratio.kp T.b__law_ratio .nil pass0 (pa_cons (pe_op op_modD (pe_callTy cl_int (by rfl) T.z_int (by decide +kernel) (pa_cons (pv 14) pa_nil)) (pe_callB cl_abs (by rfl) T.z_abs (by decide +kernel) (pa_cons (pv 13) pa_nil))) (pa_cons (pe_callB cl_abs (by rfl) T.z_abs (by decide +kernel) (pa_cons (pv 13) pa_nil)) pa_nil))))
      (pss_cons (ps_set (i := 7) sc_law.nd (by rfl) (by first | exact Or.inl rfl | exact Or.inr rfl) (pe_ifExp (pt_val (pe_call (ok__law_is_place T) (hr.mono (by decide)) (by rfl) T.g__law_is_place T.F__law_is_place.kp T.b__law_is_place .nil pass0 (pa_cons (pv 15) pa_nil))) (pe_lst (pa_cons (pv 15) pa_nil)) pe_str))
      (pss_cons (ps_set (i := 16) sc_law.nd (by rfl) (by first | exact Or.inl rfl | exact Or.inr rfl) (pe_lam (k := 5) (by rfl) T.g__law_told T.F__law_told T.b__law_told sc__law_told (by rfl) (Or.inl rfl) (fun cdg => gv__law_told T) TB (by rfl) (hr.mono (by decide)) (lamS_by (by show lamSB (defScope s_law) _ = true; decide +kernel)) (by rfl) (fun _ _ _ _ _ => by rfl) (fun A outer s H E f c hr => (pe_call (ok_place T) (hr.mono (by decide)) (by rfl) T.g_place T.F_place.kp T.b_place .nil (passes_call (takes_of rfl rfl rfl rfl) (fun _ _ _ _ h => h)) (pa_cons (pv 12) (pa_cons (pv 13) pa_nil))))))
      (pss_one (ps_if (PW.pt (pw_or (pt_cmpR (op_neK (K := K) hr.units) (pv 16) (pv 7) (nomark _)) (pw_or1 (PW.pt (pw_and (pt_cmpR (op_neK (K := K) hr.units) (pv 16) pe_str (nomark _)) (pw_and1 (pt_not (pt_val (pe_call (ok__law_plain T) (hr.mono (by decide)) (by rfl) T.g__law_plain T.F__law_plain.kp T.b__law_plain .nil pass0 (pa_cons (pe_ix (ix_listK (K := K)) (pv 16) pe_int (fun _ _ => rfl)) pa_nil)))))))))) (pss_one (ps_ret pe_bl)) pss_nil)))))))))))))))))))
      (pss_one (ps_ret pe_bl))), ?_⟩
    rw [show start N_law [.ref a] = [some (.ref a), none, none, none, none, none, none, none, none, none, none, none, none, none, none, none, none] from rfl]
    try dsimp only [cxK]
    generalize hLQ : (cxOf CX0 P w K mg base N_law (Str.ofString "law") (defScope s_law) T.f_law (Value.ref cc) A outer s H E).env.qual ++ Str.ofString "<lambda>" = LQ
    have hBig : ∀ n ∈ ns, Big n := fun n hn => Big.bits (hB n hn)
    have dS : Dp K H (.ref a) (.list (ns.map PyData.int)) := .lst hS (dpa_ints ns)
    have hT0 : Tabs [(PP, LQ)] H := fun p hp => by
      rw [List.mem_singleton.mp hp]
      exact TabS.nil hP
    walk_at "wp"
    rename_i r1 er1 r2 er2
    try rw [List.length_map] at er1
    try rw [List.length_map] at er2
    refine forR1_by (fun i σ' H' => ∃ (y1 y2 y3 y4 y5 y6 y7 y8 y9 y10 y11 y12 y13 y14 y15 y16 : Option V), σ' = [some (.ref a), y1, y2, y3, y4, y5, y6, y7, y8, y9, y10, y11, y12, y13, y14, y15, y16] ∧ KeepN H H' ∧ Tabs [(PP, LQ)] H') (by omega) ⟨_, _, _, _, _, _, _, _, _, _, _, _, _, _, _, _, rfl, KeepN.refl _, hT0⟩ ?_ ?_
    · rintro i σ' H' hi ⟨y1, y2, y3, y4, y5, y6, y7, y8, y9, y10, y11, y12, y13, y14, y15, y16, rfl, k0, hT⟩
      walk_at "wp"
      refine ⟨a, ns, _, rfl, k0.seqL hS, hl, hBig, by omega, by omega, fun m c H1 e1 n1 m1 => ?_⟩
      walk_at "wp"
      refine ⟨m, c, 24, _, rfl, by decide, by decide, m1, by decide, fun h t' v2 H2 hlen ht' dh dt k2 m2 d2 => ?_⟩
      have px := bin_plc (h := h) ht' (by omega)
      generalize binN h t' = x at *
      have hs := px.small
      have hlt := px.lt
      have hp := px.pos
      walk_at "wp"
      refine ⟨m, c, 5, _, rfl, by decide, by decide, m2, by decide, fun q1 H3 q10 q11 k3 m3 => ?_⟩
      have d3 := dp_keep k3 d2
      walk_at "wp"
      refine w_newT (K := K) (ds := [.int ((x.1 : Int) + q1 - 2), .int (x.2 : Int)]) (len_ok (by simp)) (.cons (.int _) (dpa_one (.int _))) fun p4 H4 n4 e4 d4 => ?_
      have d24 := dp_same e4 d3
      walk_at "wp"
      refine ⟨m, c, 5, _, rfl, by decide, by decide, m3.same e4, by decide, fun q2 H5 q20 q21 k5 m5 => ?_⟩
      have d25 := dp_keep k5 d24
      walk_at "wp"
      refine w_newT (K := K) (ds := [.int (x.1 : Int), .int ((x.2 : Int) + q2 - 2)]) (len_ok (by simp)) (.cons (.int _) (dpa_one (.int _))) fun p6 H6 n6 e6 d6 => ?_
      have d26 := dp_same e6 d25
      walk_at "wp"
      refine w_newT (K := K) (ds := [.int (2 * (x.1 : Int)), .int (2 * (x.2 : Int))]) (len_ok (by simp)) (.cons (.int _) (dpa_one (.int _))) fun p7 H7 n7 e7 d7 => ?_
      have d27 := dp_same e7 d26
      have dv1 : DpAll K H7 [v2, .ref p4, .ref p6, .ref p7] [pd x, .tuple [.int ((x.1 : Int) + q1 - 2), .int (x.2 : Int)], .tuple [.int (x.1 : Int), .int ((x.2 : Int) + q2 - 2)], .tuple [.int (2 * (x.1 : Int)), .int (2 * (x.2 : Int))]] :=
        .cons d27 (.cons (dp_same e7 (dp_same e6 (dp_keep k5 d4))) (.cons (dp_same e7 d6) (dpa_one d7)))
      walk_at "wp"
      refine w_newL (K := K) (len_ok (by simp)) dv1 fun p8 H8 n8 e8 f8 d8 => ?_
      walk_at "wp"
      refine ⟨m, c, _, rfl, ((m5.same e6).same e7).same e8, by decide, fun B H9 hB1 hB2 k9 m9 => ?_⟩
      have f9 := k9.l f8
      have dv9 := dpa_keep k9 (dpa_same e8 dv1)
      have d29 := dp_keep k9 (dp_same e8 d27)
      walk_at "wp"
      refine w_tyL f9 ?_
      walk_at "wp"
      refine w_newT (K := K) (ds := [.int 1, .int (B : Int)]) (len_ok (by simp)) (.cons (.int _) (dpa_one (.int _))) fun p10 H10 n10 e10 d10 => ?_
      walk_at "wp"
      refine w_newT (K := K) (ds := [.int ((B : Int) - 1), .int (B : Int)]) (len_ok (by simp)) (.cons (.int _) (dpa_one (.int _))) fun p11 H11 n11 e11 d11 => ?_
      walk_at "wp"
      refine ⟨m, c, 200, _, rfl, by decide, by decide, (m9.same e10).same e11, by decide, fun q3 H12 q30 q31 k12 m12 => ?_⟩
      walk_at "wp"
      refine w_newT (K := K) (ds := [.int q3, .int (B : Int)]) (len_ok (by simp)) (.cons (.int _) (dpa_one (.int _))) fun p13 H13 n13 e13 d13 => ?_
      have dv13 : DpAll K H13 [.ref p10, .ref p11, .ref p13] [.tuple [.int 1, .int (B : Int)], .tuple [.int ((B : Int) - 1), .int (B : Int)], .tuple [.int q3, .int (B : Int)]] :=
        .cons (dp_same e13 (dp_keep k12 (dp_same e11 d10))) (.cons (dp_same e13 (dp_keep k12 d11)) (dpa_one d13))
      walk_at "wp"
      walk_at "wp"
      refine w_newL (K := K) (len_ok (by simp)) dv13 fun p14 H14 n14 e14 f14 d14 => ?_
      walk_at "wp"
      have k914 : Keep H9 H14 := ((Keep.of (e10.trans e11)).trans k12).trans (Keep.of (e13.trans e14))
      have f8' := k914.l f9
      refine w_extend f8' f14 (by simp) ?_
      have m14 := ((m12.same e13).same e14)
      have K17 : Keep H' H7 := (((Keep.of e1).trans k2).trans k3).trans ((((Keep.of e4).trans k5).trans (Keep.of e6)).trans (Keep.of e7))
      have m7 := ((m5.same e6).same e7)
      have hcp8 : c ≠ p8 := m7.ne n8
      have K714 : Keep H7 H14 := ((Keep.of e8).trans k9).trans k914
      have dvA := dpa_upd (o := .lst ([v2, .ref p4, .ref p6, .ref p7] ++ [.ref p10, .ref p11, .ref p13])) f8' _ _ rfl (dpa_app (dpa_keep k914 dv9) (dpa_same e14 dv13))
      have K715 : Keep H7 (upd H14 p8 (.lst ([v2, .ref p4, .ref p6, .ref p7] ++ [.ref p10, .ref p11, .ref p13]))) := keep_mut K714 n8
      have m15 := m14.upd (o := .lst ([v2, .ref p4, .ref p6, .ref p7] ++ [.ref p10, .ref p11, .ref p13])) f8' hcp8
      have f15 : upd H14 p8 (.lst ([v2, .ref p4, .ref p6, .ref p7] ++ [.ref p10, .ref p11, .ref p13])) p8 = some (.lst ([v2, .ref p4, .ref p6, .ref p7] ++ [.ref p10, .ref p11, .ref p13])) := upd_same
      have d215 : Dp K (upd H14 p8 (.lst ([v2, .ref p4, .ref p6, .ref p7] ++ [.ref p10, .ref p11, .ref p13]))) v2 (pd x) := dp_upd f8' _ _ rfl (dp_keep k914 d29)
      clear f8' f14 d14 e14 n14 dv13 e13 n13 d13 k12 m12 e11 n11 d11 e10 n10 d10 dv9 d29 f9 k9 m9 d8 f8 e8 k914 m14 m5 K714 d7 e7 d6 e6 n6 n7 k5 d4 e4 n4 k3 m3 k2 m2 m1
      generalize upd H14 p8 (.lst ([v2, .ref p4, .ref p6, .ref p7] ++ [.ref p10, .ref p11, .ref p13])) = H15 at *
      walk_at "wp"
      refine w_tyL f15 ?_
      walk_at "wp"
      refine w_newT (K := K) (ds := []) (len_ok (by simp)) .nil fun p16 H16 n16 e16 d16 => ?_
      have d216 := dp_same e16 d215
      walk_at "wp"
      refine w_newL (K := K) (ds := [(x.1 : Int), (x.2 : Int)].map PyData.int) (len_ok (by simp)) (dpa_ints [(x.1 : Int), (x.2 : Int)]) fun p17 H17 n17 e17 f17 d17 => ?_
      have d217 := dp_same e17 d216
      walk_at "wp"
      refine w_newT (K := K) (ds := [.int (x.1 : Int), .int (x.2 : Int), .int 1]) (len_ok (by simp)) (.cons (.int _) (.cons (.int _) (dpa_one (.int _)))) fun p18 H18 n18 e18 d18 => ?_
      walk_at "wp"
      refine w_newT (K := K) (ds := [.bool true, .int 2]) (len_ok (by simp)) (.cons (.bl _) (dpa_one (.int _))) fun p19 H19 n19 e19 d19 => ?_
      walk_at "wp"
      refine w_newT (K := K) (ds := [.int 0, .bool true]) (len_ok (by simp)) (.cons (.int _) (dpa_one (.bl _))) fun p20 H20 n20 e20 d20 => ?_
      have d220 := dp_same ((e18.trans e19).trans e20) d217
      walk_at "wp"
      refine w_newT (K := K) (ds := [pd x]) (len_ok (by simp)) (dpa_one d220) fun p21 H21 n21 e21 d21 => ?_
      walk_at "wp"
      refine w_newL (K := K) (ds := [.none, .tuple [], .list ([(x.1 : Int), (x.2 : Int)].map PyData.int), .tuple [.int (x.1 : Int), .int (x.2 : Int), .int 1], .tuple [.bool true, .int 2], .tuple [.int 0, .bool true], .str "01", .int 0, .tuple [pd x]]) (len_ok (by simp))
        (.cons .non (.cons (dp_same ((((e17.trans e18).trans e19).trans e20).trans e21) d16) (.cons (dp_same (((e18.trans e19).trans e20).trans e21) d17) (.cons (dp_same ((e19.trans e20).trans e21) d18) (.cons (dp_same (e20.trans e21) d19) (.cons (dp_same e21 d20) (.cons (.str _) (.cons (.int _) (dpa_one d21))))))))) fun p22 H22 n22 e22 f22 d22 => ?_
      have e1522 : Same H15 H22 := (((((e16.trans e17).trans e18).trans e19).trans e20).trans e21).trans e22
      walk_at "wp"
      refine ⟨m, c, _, _, _, rfl, d22, by simp, by simp, m15.same e1522, by decide, fun yv d H23 hd hy k23 m23 => ?_⟩
      have f23 := k23.l (e1522 _ _ f15)
      have dvB := dpa_keep k23 (dpa_same e1522 dvA)
      walk_at "wp"
      refine w_append f23 (len_lt (by simp)) ?_
      have K723 : Keep H7 H23 := (K715.trans (Keep.of e1522)).trans k23
      have hy2 : Dp K (upd H23 p8 (.lst (([v2, .ref p4, .ref p6, .ref p7] ++ [.ref p10, .ref p11, .ref p13]) ++ [yv]))) yv d := by
        by_cases hz : d = .list ([(x.1 : Int), (x.2 : Int)].map PyData.int)
        · subst hz
          exact dp_updL f23 (by simp) hy
        · refine dp_upd f23 _ _ ?_ hy
          simp only [List.mem_cons, List.not_mem_nil, or_false] at hd
          rcases hd with rfl | rfl | rfl | rfl | rfl | rfl | rfl | rfl | rfl <;> first | rfl | exact absurd rfl hz
      have dvC := dpa_app (dpa_upd (o := .lst (([v2, .ref p4, .ref p6, .ref p7] ++ [.ref p10, .ref p11, .ref p13]) ++ [yv])) f23 _ _ rfl dvB) (dpa_one hy2)
      have d2C : Dp K (upd H23 p8 (.lst (([v2, .ref p4, .ref p6, .ref p7] ++ [.ref p10, .ref p11, .ref p13]) ++ [yv]))) v2 (pd x) := dp_upd f23 _ _ rfl (dp_keep k23 (dp_same e1522 d215))
      have K7C : Keep H7 (upd H23 p8 (.lst (([v2, .ref p4, .ref p6, .ref p7] ++ [.ref p10, .ref p11, .ref p13]) ++ [yv]))) := keep_mut K723 n8
      have mC := m23.upd (o := .lst (([v2, .ref p4, .ref p6, .ref p7] ++ [.ref p10, .ref p11, .ref p13]) ++ [yv])) f23 hcp8
      have dV := dp_newL (H := upd H23 p8 (.lst (([v2, .ref p4, .ref p6, .ref p7] ++ [.ref p10, .ref p11, .ref p13]) ++ [yv]))) upd_same dvC
      have okd : ∀ z ∈ ([pd x, .tuple [.int ((x.1 : Int) + q1 - 2), .int (x.2 : Int)], .tuple [.int (x.1 : Int), .int ((x.2 : Int) + q2 - 2)], .tuple [.int (2 * (x.1 : Int)), .int (2 * (x.2 : Int))]] ++ [.tuple [.int 1, .int (B : Int)], .tuple [.int ((B : Int) - 1), .int (B : Int)], .tuple [.int q3, .int (B : Int)]]) ++ [d], ∀ a b, z = .tuple [.int a, .int b] → b < 2 ^ 180 := by
        intro z hz a b e
        subst e
        simp only [List.mem_append, List.mem_cons, List.not_mem_nil, or_false, pd, PyData.tuple.injEq, List.cons.injEq, PyData.int.injEq, and_true] at hz
        rcases hz with (hz | hz) | hz
        · omega
        · omega
        · subst hz
          simp [pd] at hd
      generalize ([pd x, .tuple [.int ((x.1 : Int) + q1 - 2), .int (x.2 : Int)], .tuple [.int (x.1 : Int), .int ((x.2 : Int) + q2 - 2)], .tuple [.int (2 * (x.1 : Int)), .int (2 * (x.2 : Int))]] ++ [.tuple [.int 1, .int (B : Int)], .tuple [.int ((B : Int) - 1), .int (B : Int)], .tuple [.int q3, .int (B : Int)]]) ++ [d] = DS at *
      clear dvC dvB hy2 f23 dvA d22 f22 e22 d21 e21 d20 e20 d19 e19 d18 e18 d17 f17 e17 d16 e16 e1522 k23 m23 hy hd f15 d215 m15 K715 K723
      generalize upd H23 p8 (.lst (([v2, .ref p4, .ref p6, .ref p7] ++ [.ref p10, .ref p11, .ref p13]) ++ [yv])) = H24 at *
      have k24 : KeepN H H24 := k0.trans (KeepN.of (K17.trans K7C))
      have hT24 := tabs_keep hT (K17.trans K7C)
      walk_at "wp"
      refine forL_byN (fun j σ' H' => ∃ (y6 y7 : Option V), σ' = [some (.ref a), some (.int (i : Int)), some (.ref m), some v2, some (.ref p8), some (.int (B : Int)), y6, y7, y8, y9, y10, y11, y12, y13, y14, y15, y16] ∧ KeepN H24 H' ∧ Tabs [(PP, LQ)] H' ∧ ∃ b, Mo H' m c b ∧ b < 2 ^ 20) dV ⟨_, _, rfl, KeepN.refl _, hT24, _, mC, by decide⟩ (fun j σ' H' _ ⟨y6, y7, _, z, _⟩ => z) ?_ ?_
      · rintro j d5 yv5 σ' H25 hd5 hy5 ⟨y6', y7', rfl, k25, hT25, b25, m25, hb25⟩
        have ok5 := okd d5 (List.mem_of_getElem? hd5)
        walk_at "wp"
        refine ⟨yv5, d5, rfl, hy5, ok5, fun H26 e26 => ?_⟩
        have hy26 := dp_same e26 hy5
        by_cases hpl : plD d5 = true
        · rw [hpl]
          have hp5 : pln 8 d5 = true := by
            match d5, hpl with
            | .tuple [.int a, .int b], _ => rfl
          walk_at "wp"
          refine w_newL (K := K) (ds := [d5]) (len_ok (by simp)) (dpa_one hy26) fun p27 H27 n27 e27 f27 d27 => ?_
          have hy27 := dp_same e27 hy26
          walk_at "wp"
          refine w_lam (tabs_same hT25 (e26.trans e27)) (fun H28 eN28 hT28 => ?_)
          intro H29 Ech Qv e29 hE hQ
          have k29 : KeepN H27 H29 := (KeepN.ofE eN28).trans (KeepN.ofS e29)
          have m29 := (((m25.same e26).same e27).extN eN28).same e29
          show tCall _ _ _ _ _ _ _
          walk_at "wp"
          refine ⟨yv5, d5, rfl, dp_keepN k29 hy27, fun _ => hQ _ _ fun p30 H30 e30 f30 => ?_, fun ng => absurd hpl ng⟩
          have d30 : Dp K H30 (.ref p30) (.list [d5]) := dp_newL f30 (dpa_one (dp_same e30 (dp_keepN k29 hy27)))
          walk_at "wp"
          refine w_neP d30 (dp_same e30 (dp_keepN k29 d27)) (pln_list fun z hz => by rw [List.mem_singleton.mp hz]; exact hp5) (pln_list fun z hz => by rw [List.mem_singleton.mp hz]; exact hp5) (fun _ => ?_) (fun h => absurd rfl h)
          walk_at "wp"
          exact ⟨_, _, rfl, (k25.trans (KeepN.ofS (e26.trans e27))).trans (k29.trans (KeepN.ofS e30)), tabs_same hT28 (e29.trans e30), _, m29.same e30, hb25⟩
        · rw [Bool.eq_false_iff.mpr hpl]
          walk_at "wp"
          refine w_lam (tabs_same hT25 e26) (fun H28 eN28 hT28 => ?_)
          intro H29 Ech Qv e29 hE hQ
          have k29 : KeepN H26 H29 := (KeepN.ofE eN28).trans (KeepN.ofS e29)
          have m29 := ((m25.same e26).extN eN28).same e29
          show tCall _ _ _ _ _ _ _
          walk_at "wp"
          refine ⟨yv5, d5, rfl, dp_keepN k29 hy26, fun z => absurd z hpl, fun _ => hE _ fun H30 e30 => ?_⟩
          walk_at "wp"
          refine w_neP (.str _) (.str _) (d := .str "refused") (e := .str "refused") (by decide +kernel) (by decide +kernel) (fun _ => ?_) (fun h => absurd rfl h)
          walk_at "wp"
          exact ⟨_, _, rfl, (k25.trans (KeepN.ofS e26)).trans (k29.trans (KeepN.ofS e30)), tabs_same hT28 (e29.trans e30), _, m29.same e30, hb25⟩
      · rintro σ' H25 ⟨y6', y7', rfl, k25, hT25, b25, m25, hb25⟩
        walk_at "wp"
        have d225 := dp_keepN k25 d2C
        refine ⟨m, c, 2000, _, rfl, by decide, by decide, m25, by omega, fun q5 H26 q50 q51 k26 m26 => ?_⟩
        walk_at "wp"
        refine ⟨m, c, 70, _, rfl, by decide, by decide, m26, by omega, fun q6 H27 q60 q61 k27 m27 => ?_⟩
        have k2527 := k26.trans k27
        have d227 := dp_keep k2527 d225
        have k027 : KeepN H H27 := (k24.trans k25).trans (KeepN.of k2527)
        have dS27 := dp_keepN k027 dS
        have hT27 := tabs_keep hT25 k2527
        refine w_rI0 ?_
        refine w_nil ?_
        refine w_par2 ?_
        dsimp only
        with_reducible refine w_seq ?_
        with_reducible refine w_asg ?_
        refine w_meet (fun v H' => ∃ z, v = .int z ∧ Big z ∧ H27 = H') (fun Q' hQ' => ?_) ?_
        · walk_at "wp"
          refine w_iteD (fun hc1 => ?_) (fun hc1 => ?_)
          · rw [List.length_map] at hc1
            walk_at "wp"
            refine w_ixLI dS27 (by omega) hc1 fun z hz => ?_
            exact hQ' _ _ ⟨z, rfl, hBig z (List.mem_of_getElem? hz), rfl⟩
          · walk_at "wp"
            refine w_rI (C := CPow) ⟨by decide, by decide, by decide⟩ ?_
            walk_at "wp"
            exact hQ' _ _ ⟨_, rfl, Big.small (by
              have : (10 : Int) ^ Int.toNat 25 = 10000000000000000000000000 := by decide +kernel
              rw [this]
              omega), rfl⟩
        · rintro _ _ ⟨cz, rfl, hcz, rfl⟩
          generalize ht1 : q5 - 1000 = t1
          generalize hl1 : 1 + q6 = l1
          walk_at "wp"
          refine w_newT (K := K) (ds := [.int t1, .int l1]) (len_ok (by simp)) (.cons (.int _) (dpa_one (.int _))) fun p28 H28 n28 e28 d28 => ?_
          walk_at "wp"
          refine w_newT (K := K) (ds := [.int t1, .int (-l1)]) (len_ok (by simp)) (.cons (.int _) (dpa_one (.int _))) fun p29 H29 n29 e29 d29 => ?_
          have d229 := dp_same (e28.trans e29) d227
          walk_at "wp"
          refine w_rI (Big.mul hcz ⟨by omega, by omega⟩) ?_
          walk_at "wp"
          refine w_newT (K := K) (ds := [.int ((x.1 : Int) + cz * (x.2 : Int)), .int (x.2 : Int)]) (len_ok (by simp)) (.cons (.int _) (dpa_one (.int _))) fun p30 H30 n30 e30 d30 => ?_
          have d230 := dp_same e30 d229
          walk_at "wp"
          refine w_newT (K := K) (ds := [.int (-3 * (x.1 : Int)), .int (3 * (x.2 : Int))]) (len_ok (by simp)) (.cons (.int _) (dpa_one (.int _))) fun p31 H31 n31 e31 d31 => ?_
          walk_at "wp"
          refine w_newT (K := K) (ds := [.int cz, .int (B : Int)]) (len_ok (by simp)) (.cons (.int _) (dpa_one (.int _))) fun p32 H32 n32 e32 d32 => ?_
          walk_at "wp"
          refine w_newT (K := K) (ds := [.int 0, .int (-l1)]) (len_ok (by simp)) (.cons (.int _) (dpa_one (.int _))) fun p33 H33 n33 e33 d33 => ?_
          walk_at "wp"
          refine w_newL (K := K) (ds := [.tuple [.int t1, .int l1], .tuple [.int t1, .int (-l1)], .tuple [.int ((x.1 : Int) + cz * (x.2 : Int)), .int (x.2 : Int)], .tuple [.int (-3 * (x.1 : Int)), .int (3 * (x.2 : Int))], .tuple [.int cz, .int (B : Int)], .tuple [.int 0, .int (-l1)]]) (len_ok (by simp))
            (.cons (dp_same ((((e29.trans e30).trans e31).trans e32).trans e33) d28) (.cons (dp_same (((e30.trans e31).trans e32).trans e33) d29) (.cons (dp_same ((e31.trans e32).trans e33) d30) (.cons (dp_same (e32.trans e33) d31) (.cons (dp_same e33 d32) (dpa_one d33)))))) fun p34 H34 n34 e34 f34 d34 => ?_
          have e2734 : Same H27 H34 := (((((e28.trans e29).trans e30).trans e31).trans e32).trans e33).trans e34
          have okp : ∀ z ∈ [PyData.tuple [.int t1, .int l1], .tuple [.int t1, .int (-l1)], .tuple [.int ((x.1 : Int) + cz * (x.2 : Int)), .int (x.2 : Int)], .tuple [.int (-3 * (x.1 : Int)), .int (3 * (x.2 : Int))], .tuple [.int cz, .int (B : Int)], .tuple [.int 0, .int (-l1)]], ∃ p q : Int, z = .tuple [.int p, .int q] ∧ q ≠ 0 ∧ q.natAbs < 2 ^ 150 ∧ Big2 p := by
            intro z hz
            simp only [List.mem_cons, List.not_mem_nil, or_false] at hz
            rcases hz with rfl | rfl | rfl | rfl | rfl | rfl
            · exact ⟨_, _, rfl, by omega, by omega, Big2.small (by omega)⟩
            · exact ⟨_, _, rfl, by omega, by omega, Big2.small (by omega)⟩
            · exact ⟨_, _, rfl, by omega, by omega, Big2.lin hcz (by omega) (by omega)⟩
            · exact ⟨_, _, rfl, by omega, by omega, Big2.small (by omega)⟩
            · exact ⟨_, _, rfl, by omega, by omega, Big2.big hcz⟩
            · exact ⟨_, _, rfl, by omega, by omega, Big2.small (by omega)⟩
          generalize [PyData.tuple [.int t1, .int l1], .tuple [.int t1, .int (-l1)], .tuple [.int ((x.1 : Int) + cz * (x.2 : Int)), .int (x.2 : Int)], .tuple [.int (-3 * (x.1 : Int)), .int (3 * (x.2 : Int))], .tuple [.int cz, .int (B : Int)], .tuple [.int 0, .int (-l1)]] = PS at *
          have hT34 := tabs_same hT27 e2734
          have k034 : KeepN H H34 := k027.trans (KeepN.ofS e2734)
          clear d33 e33 n33 d32 e32 n32 d31 e31 n31 d30 e30 n30 d29 e29 n29 d28 e28 n28 d230 d229 m26 m27
          walk_at "wp"
          refine forL_byN (fun j σ' H' => ∃ (z7 z12 z13 z14 z15 z16 : Option V), σ' = [some (.ref a), some (.int (i : Int)), some (.ref m), some v2, some (.ref p8), some (.int (B : Int)), y6', z7, some (.int t1), some (.int l1), some (.int cz), some (.ref p34), z12, z13, z14, z15, z16] ∧ KeepN H34 H' ∧ Tabs [(PP, LQ)] H') d34 ⟨_, _, _, _, _, _, rfl, KeepN.refl _, hT34⟩ (fun j σ' H' _ ⟨_, _, _, _, _, _, _, z, _⟩ => z) ?_ ?_
          · rintro j dj yj σ' H35 hdj hyj ⟨z7, z12, z13, z14, z15, z16, rfl, k35, hT35⟩
            obtain ⟨pz, qz, rfl, hq0, hqb, hpb⟩ := okp dj (List.mem_of_getElem? hdj)
            refine w_gTup2 hyj fun v1 v2' h1 h2 => ?_
            cases h1
            cases h2
            dsimp only
            with_reducible refine w_seq ?_
            with_reducible refine w_asg ?_
            refine w_meet (fun v H' => v = .int (upZ pz qz) ∧ H35 = H') (fun Q' hQ' => ?_) ?_
            · walk_at "wp"
              refine w_iteD (fun hc1 => ?_) (fun hc1 => ?_)
              · walk_at "wp"
                exact hQ' _ _ ⟨by unfold upZ; rw [if_pos hc1], rfl⟩
              · walk_at "wp"
                exact hQ' _ _ ⟨by unfold upZ; rw [if_neg hc1], rfl⟩
            · rintro _ _ ⟨rfl, rfl⟩
              have hml := made_lt (p := pz) hq0
              have hb1 := Int.emod_nonneg (upZ pz qz) (show (qz.natAbs : Int) ≠ 0 by omega)
              have hpd : plD (pd (madeN pz qz)) = reachB (madeN pz qz).2 := plD_pd (red_lt hml) (red_coprime (by omega))
              have hle : (madeN pz qz).2 ≤ qz.natAbs := red_le
              walk_at "wp"
              refine ⟨(upZ pz qz % (qz.natAbs : Int)).toNat, qz.natAbs, by rw [Int.toNat_of_nonneg hb1]; rfl, by omega, by omega, fun v36 H36 e36 d36 => ?_⟩
              have d36' : Dp K H36 v36 (pd (madeN pz qz)) := d36
              generalize hmk : madeN pz qz = mk' at *
              walk_at "wp"
              refine ⟨v36, pd mk', rfl, d36', fun a b e => ?_, fun H37 e37 => ?_⟩
              · have e' : [PyData.int (mk'.1 : Int), .int (mk'.2 : Int)] = [.int a, .int b] := PyData.tuple.inj e
                have : b = (mk'.2 : Int) := (PyData.int.inj (List.cons.inj (List.cons.inj e').2).1).symm
                omega
              · rw [hpd]
                have d37 := dp_same e37 d36'
                by_cases hr : reachB mk'.2 = true
                · rw [hr]
                  walk_at "wp"
                  refine w_newL (K := K) (ds := [pd mk']) (len_ok (by simp)) (dpa_one d37) fun p38 H38 n38 e38 f38 d38 => ?_
                  walk_at "wp"
                  refine w_lam (tabs_same hT35 ((e36.trans e37).trans e38)) (fun H39 eN39 hT39 => ?_)
                  intro H40 Ech Qv e40 hE hQ
                  have k40 : KeepN H38 H40 := (KeepN.ofE eN39).trans (KeepN.ofS e40)
                  show tCall _ _ _ _ _ _ _
                  walk_at "wp"
                  refine ⟨pz, qz, rfl, hq0, hqb, hpb.mul, fun _ v41 H41 e41 d41 => hQ _ _ fun p42 H42 e42 f42 => ?_, fun ng => absurd (hmk ▸ hr) ng⟩
                  rw [hmk] at d41
                  have d42 : Dp K H42 (.ref p42) (.list [pd mk']) := dp_newL f42 (dpa_one (dp_same e42 d41))
                  have k42 : KeepN H38 H42 := k40.trans (KeepN.ofS (e41.trans e42))
                  have hT42 := tabs_same hT39 ((e40.trans e41).trans e42)
                  walk_at "wp"
                  refine w_neP d42 (dp_keepN k42 d38) rfl rfl (fun _ => ?_) (fun h => absurd rfl h)
                  walk_at "wp"
                  refine w_neP d42 (.str _) rfl (e := .str "refused") (by decide +kernel) (fun h => nomatch h) (fun _ => ?_)
                  walk_at "wp"
                  refine w_ixL (j := 0) d42 rfl rfl fun v43 d43 => ?_
                  walk_at "wp"
                  refine ⟨v43, mk', rfl, d43, fun H44 e44 => ?_⟩
                  walk_at "wp"
                  exact ⟨_, _, _, _, _, _, rfl, (k35.trans (KeepN.ofS ((e36.trans e37).trans e38))).trans (k42.trans (KeepN.ofS e44)), tabs_same hT42 e44⟩
                · rw [Bool.eq_false_iff.mpr hr]
                  walk_at "wp"
                  refine w_lam (tabs_same hT35 (e36.trans e37)) (fun H39 eN39 hT39 => ?_)
                  intro H40 Ech Qv e40 hE hQ
                  have k40 : KeepN H37 H40 := (KeepN.ofE eN39).trans (KeepN.ofS e40)
                  show tCall _ _ _ _ _ _ _
                  walk_at "wp"
                  refine ⟨pz, qz, rfl, hq0, hqb, hpb.mul, fun z => absurd (hmk ▸ z) hr, fun _ H41 e41 => hE _ fun H42 e42 => ?_⟩
                  have k42 : KeepN H37 H42 := k40.trans (KeepN.ofS (e41.trans e42))
                  have hT42 := tabs_same hT39 ((e40.trans e41).trans e42)
                  walk_at "wp"
                  refine w_neP (.str _) (.str _) (d := .str "refused") (e := .str "refused") (by decide +kernel) (by decide +kernel) (fun _ => ?_) (fun h => absurd rfl h)
                  walk_at "wp"
                  refine w_neP (.str _) (.str _) (d := .str "refused") (e := .str "refused") (by decide +kernel) (by decide +kernel) (fun _ => ?_) (fun h => absurd rfl h)
                  walk_at "wp"
                  exact ⟨_, _, _, _, _, _, rfl, (k35.trans (KeepN.ofS (e36.trans e37))).trans k42, hT42⟩
          · rintro σ' H35 ⟨z7, z12, z13, z14, z15, z16, rfl, k35, hT35⟩
            walk_at "wp"
            exact ⟨_, _, _, _, _, _, _, _, _, _, _, _, _, _, _, _, rfl, k034.trans k35, hT35⟩
    · rintro σ' H' ⟨y1, y2, y3, y4, y5, y6, y7, y8, y9, y10, y11, y12, y13, y14, y15, y16, rfl, k0, hT⟩
      walk_at "wp"
      exact q H'

end
end Tw
namespace Tw
open PySem PySem.Spec PyProof.Rows L2 LamX
set_option maxHeartbeats 4000000 in
def top_mk {K : PySem.W.Frag} {h : Heap} {mg : Str → Option Value} (X : K.In h) (G : h.Ns mainGlobals mg) {f_NotText__init f_TooMany__init f_is_whole f_reduced f_check_place f_is_place f_place f__is_in_reach f__twos f__order f__law_begun f__law_draw f__law_of f__law_twos f__law_shared f__law_ratio f__law_double f__law_binary f__law_string f__law_place f__law_any_place f__law_steps f__law_is_place f__law_told f__law_plain f__law_bottoms f_law : Addr} {od_NotText__init an_NotText__init od_TooMany__init an_TooMany__init od_is_whole an_is_whole od_reduced an_reduced od_check_place an_check_place od_is_place an_is_place od_place an_place od__is_in_reach an__is_in_reach od__twos an__twos od__order an__order od__law_begun an__law_begun od__law_draw an__law_draw od__law_of an__law_of od__law_twos an__law_twos od__law_shared an__law_shared od__law_ratio an__law_ratio od__law_double an__law_double od__law_binary an__law_binary od__law_string an__law_string od__law_place an__law_place od__law_any_place an__law_any_place od__law_steps an__law_steps od__law_is_place an__law_is_place od__law_told an__law_told od__law_plain an__law_plain od__law_bottoms an__law_bottoms od_law an_law : Option Addr} {oc_NotText__init kV_NotText__init dc_NotText__init pm_NotText__init cd_NotText__init ct_NotText__init oc_TooMany__init kV_TooMany__init dc_TooMany__init pm_TooMany__init cd_TooMany__init ct_TooMany__init oc_is_whole kV_is_whole dc_is_whole pm_is_whole cd_is_whole ct_is_whole oc_reduced kV_reduced dc_reduced pm_reduced cd_reduced ct_reduced oc_check_place kV_check_place dc_check_place pm_check_place cd_check_place ct_check_place oc_is_place kV_is_place dc_is_place pm_is_place cd_is_place ct_is_place oc_place kV_place dc_place pm_place cd_place ct_place oc__is_in_reach kV__is_in_reach dc__is_in_reach pm__is_in_reach cd__is_in_reach ct__is_in_reach oc__twos kV__twos dc__twos pm__twos cd__twos ct__twos oc__order kV__order dc__order pm__order cd__order ct__order oc__law_begun kV__law_begun dc__law_begun pm__law_begun cd__law_begun ct__law_begun oc__law_draw kV__law_draw dc__law_draw pm__law_draw cd__law_draw ct__law_draw oc__law_of kV__law_of dc__law_of pm__law_of cd__law_of ct__law_of oc__law_twos kV__law_twos dc__law_twos pm__law_twos cd__law_twos ct__law_twos oc__law_shared kV__law_shared dc__law_shared pm__law_shared cd__law_shared ct__law_shared oc__law_ratio kV__law_ratio dc__law_ratio pm__law_ratio cd__law_ratio ct__law_ratio oc__law_double kV__law_double dc__law_double pm__law_double cd__law_double ct__law_double oc__law_binary kV__law_binary dc__law_binary pm__law_binary cd__law_binary ct__law_binary oc__law_string kV__law_string dc__law_string pm__law_string cd__law_string ct__law_string oc__law_place kV__law_place dc__law_place pm__law_place cd__law_place ct__law_place oc__law_any_place kV__law_any_place dc__law_any_place pm__law_any_place cd__law_any_place ct__law_any_place oc__law_steps kV__law_steps dc__law_steps pm__law_steps cd__law_steps ct__law_steps oc__law_is_place kV__law_is_place dc__law_is_place pm__law_is_place cd__law_is_place ct__law_is_place oc__law_told kV__law_told dc__law_told pm__law_told cd__law_told ct__law_told oc__law_plain kV__law_plain dc__law_plain pm__law_plain cd__law_plain ct__law_plain oc__law_bottoms kV__law_bottoms dc__law_bottoms pm__law_bottoms cd__law_bottoms ct__law_bottoms oc_law kV_law dc_law pm_law cd_law ct_law : Value} {sl_NotText__init sl_TooMany__init sl_is_whole sl_reduced sl_check_place sl_is_place sl_place sl__is_in_reach sl__twos sl__order sl__law_begun sl__law_draw sl__law_of sl__law_twos sl__law_shared sl__law_ratio sl__law_double sl__law_binary sl__law_string sl__law_place sl__law_any_place sl__law_steps sl__law_is_place sl__law_told sl__law_plain sl__law_bottoms sl_law : Array (Option Value)} {c_DialError N_DialError : Addr} {nm_DialError q_DialError : Str} {bs_DialError sub_DialError : List Value} {sn_DialError : List Str} {ab_DialError : Bool} {col_DialError : Option Bool} {dd_DialError : Option Addr} {m0_DialError m1_DialError m2_DialError m3_DialError m5_DialError : Option Value} {c_NotPlace N_NotPlace : Addr} {nm_NotPlace q_NotPlace : Str} {bs_NotPlace sub_NotPlace : List Value} {sn_NotPlace : List Str} {ab_NotPlace : Bool} {col_NotPlace : Option Bool} {dd_NotPlace : Option Addr} {m0_NotPlace m1_NotPlace m2_NotPlace m3_NotPlace m5_NotPlace : Option Value} {c_NotText N_NotText : Addr} {nm_NotText q_NotText : Str} {bs_NotText sub_NotText : List Value} {sn_NotText : List Str} {ab_NotText : Bool} {col_NotText : Option Bool} {dd_NotText : Option Addr} {m0_NotText m1_NotText m2_NotText m3_NotText m5_NotText : Option Value} {c_NotPair N_NotPair : Addr} {nm_NotPair q_NotPair : Str} {bs_NotPair sub_NotPair : List Value} {sn_NotPair : List Str} {ab_NotPair : Bool} {col_NotPair : Option Bool} {dd_NotPair : Option Addr} {m0_NotPair m1_NotPair m2_NotPair m3_NotPair m5_NotPair : Option Value} {c_TooMany N_TooMany : Addr} {nm_TooMany q_TooMany : Str} {bs_TooMany sub_TooMany : List Value} {sn_TooMany : List Str} {ab_TooMany : Bool} {col_TooMany : Option Bool} {dd_TooMany : Option Addr} {m0_TooMany m1_TooMany m2_TooMany m3_TooMany m5_TooMany : Option Value} {t_COMMON t_MOST_STEPS : Tok}
    (gc_DialError : PySem.W.nsIn K mainGlobals "DialError" = some (some (.ref c_DialError)))
    (xL_DialError : K.lookup c_DialError = some (excClassObj nm_DialError q_DialError c_DialError N_DialError bs_DialError ([.type "ValueError", .type "Exception", .type "BaseException", .type "object"]) true sn_DialError sub_DialError ab_DialError col_DialError dd_DialError m0_DialError m1_DialError m2_DialError m3_DialError m5_DialError "ValueError.__new__"))
    (sa_DialError : PySem.W.findIn K (.ref c_DialError) "__setattr__" = some (some (.builtin "object.__setattr__")))
    (eC_DialError : PySem.W.subIn K (.ref c_DialError) (.type "BaseException") = some true)
    (tC_DialError : PySem.W.typeIn K (.ref c_DialError) = some (.type "type"))
    (kC_DialError : PySem.W.keepIn K (.ref c_DialError) = true)
    (ga_DialError : PySem.W.findIn K (.ref c_DialError) "__getattribute__" = some (some (.builtin "BaseException.__getattribute__")))
    (gg_DialError : PySem.W.findIn K (.ref c_DialError) "__getattr__" = some none)
    (hC_DialError : PySem.W.hasDictIn K c_DialError = true)
    (ys_DialError : PySem.W.specialIn K (.ref c_DialError) "__getattribute__" = some (some (.builtin "type.__getattribute__")))
    (yr_DialError : PySem.W.readsIn K c_DialError (.type "type") = true)
    (yf_DialError : PySem.W.findCls K (.ref c_DialError) (.type "type") "__init__" = some (.val (.builtin "ValueError.__init__")))
    (gc_NotPlace : PySem.W.nsIn K mainGlobals "NotPlace" = some (some (.ref c_NotPlace)))
    (xL_NotPlace : K.lookup c_NotPlace = some (excClassObj nm_NotPlace q_NotPlace c_NotPlace N_NotPlace bs_NotPlace (.ref c_DialError :: [.type "ValueError", .type "Exception", .type "BaseException", .type "object"]) true sn_NotPlace sub_NotPlace ab_NotPlace col_NotPlace dd_NotPlace m0_NotPlace m1_NotPlace m2_NotPlace m3_NotPlace m5_NotPlace "ValueError.__new__"))
    (sa_NotPlace : PySem.W.findIn K (.ref c_NotPlace) "__setattr__" = some (some (.builtin "object.__setattr__")))
    (eC_NotPlace : PySem.W.subIn K (.ref c_NotPlace) (.type "BaseException") = some true)
    (tC_NotPlace : PySem.W.typeIn K (.ref c_NotPlace) = some (.type "type"))
    (kC_NotPlace : PySem.W.keepIn K (.ref c_NotPlace) = true)
    (ga_NotPlace : PySem.W.findIn K (.ref c_NotPlace) "__getattribute__" = some (some (.builtin "BaseException.__getattribute__")))
    (gg_NotPlace : PySem.W.findIn K (.ref c_NotPlace) "__getattr__" = some none)
    (hC_NotPlace : PySem.W.hasDictIn K c_NotPlace = true)
    (xq_NotPlace : PySem.W.excIn K c_NotPlace [.type "ValueError", .type "Exception", .type "BaseException", .type "object"] "ValueError.__new__" = true)
    (gc_NotText : PySem.W.nsIn K mainGlobals "NotText" = some (some (.ref c_NotText)))
    (xL_NotText : K.lookup c_NotText = some (excClassObj nm_NotText q_NotText c_NotText N_NotText bs_NotText (.ref c_DialError :: [.type "ValueError", .type "Exception", .type "BaseException", .type "object"]) true sn_NotText sub_NotText ab_NotText col_NotText dd_NotText m0_NotText m1_NotText m2_NotText m3_NotText m5_NotText "ValueError.__new__"))
    (sa_NotText : PySem.W.findIn K (.ref c_NotText) "__setattr__" = some (some (.builtin "object.__setattr__")))
    (eC_NotText : PySem.W.subIn K (.ref c_NotText) (.type "BaseException") = some true)
    (tC_NotText : PySem.W.typeIn K (.ref c_NotText) = some (.type "type"))
    (kC_NotText : PySem.W.keepIn K (.ref c_NotText) = true)
    (ga_NotText : PySem.W.findIn K (.ref c_NotText) "__getattribute__" = some (some (.builtin "BaseException.__getattribute__")))
    (gg_NotText : PySem.W.findIn K (.ref c_NotText) "__getattr__" = some none)
    (hC_NotText : PySem.W.hasDictIn K c_NotText = true)
    (iC_NotText : PySem.W.findIn K (.ref c_NotText) "__init__" = some (some (.ref f_NotText__init))) (tI_NotText : PySem.W.typeIn K (.ref f_NotText__init) = some (.type "function"))
    (n_NotText_place : PySem.W.findIn K (.ref c_NotText) "place" = some none)
    (gc_NotPair : PySem.W.nsIn K mainGlobals "NotPair" = some (some (.ref c_NotPair)))
    (xL_NotPair : K.lookup c_NotPair = some (excClassObj nm_NotPair q_NotPair c_NotPair N_NotPair bs_NotPair (.ref c_DialError :: [.type "ValueError", .type "Exception", .type "BaseException", .type "object"]) true sn_NotPair sub_NotPair ab_NotPair col_NotPair dd_NotPair m0_NotPair m1_NotPair m2_NotPair m3_NotPair m5_NotPair "ValueError.__new__"))
    (sa_NotPair : PySem.W.findIn K (.ref c_NotPair) "__setattr__" = some (some (.builtin "object.__setattr__")))
    (eC_NotPair : PySem.W.subIn K (.ref c_NotPair) (.type "BaseException") = some true)
    (tC_NotPair : PySem.W.typeIn K (.ref c_NotPair) = some (.type "type"))
    (kC_NotPair : PySem.W.keepIn K (.ref c_NotPair) = true)
    (ga_NotPair : PySem.W.findIn K (.ref c_NotPair) "__getattribute__" = some (some (.builtin "BaseException.__getattribute__")))
    (gg_NotPair : PySem.W.findIn K (.ref c_NotPair) "__getattr__" = some none)
    (hC_NotPair : PySem.W.hasDictIn K c_NotPair = true)
    (gc_TooMany : PySem.W.nsIn K mainGlobals "TooMany" = some (some (.ref c_TooMany)))
    (xL_TooMany : K.lookup c_TooMany = some (excClassObj nm_TooMany q_TooMany c_TooMany N_TooMany bs_TooMany (.ref c_DialError :: [.type "ValueError", .type "Exception", .type "BaseException", .type "object"]) true sn_TooMany sub_TooMany ab_TooMany col_TooMany dd_TooMany m0_TooMany m1_TooMany m2_TooMany m3_TooMany m5_TooMany "ValueError.__new__"))
    (sa_TooMany : PySem.W.findIn K (.ref c_TooMany) "__setattr__" = some (some (.builtin "object.__setattr__")))
    (eC_TooMany : PySem.W.subIn K (.ref c_TooMany) (.type "BaseException") = some true)
    (tC_TooMany : PySem.W.typeIn K (.ref c_TooMany) = some (.type "type"))
    (kC_TooMany : PySem.W.keepIn K (.ref c_TooMany) = true)
    (ga_TooMany : PySem.W.findIn K (.ref c_TooMany) "__getattribute__" = some (some (.builtin "BaseException.__getattribute__")))
    (gg_TooMany : PySem.W.findIn K (.ref c_TooMany) "__getattr__" = some none)
    (hC_TooMany : PySem.W.hasDictIn K c_TooMany = true)
    (iC_TooMany : PySem.W.findIn K (.ref c_TooMany) "__init__" = some (some (.ref f_TooMany__init))) (tI_TooMany : PySem.W.typeIn K (.ref f_TooMany__init) = some (.type "function"))
    (n_TooMany_limit : PySem.W.findIn K (.ref c_TooMany) "limit" = some none)
    (e_NotPlace_DialError : PySem.W.subIn K (.ref c_NotPlace) (.ref c_DialError) = some true)
    (hnG : PySem.W.specialIn K (.builtin "object.__class__") "__get__" = some (some (.builtin "getset_descriptor.__get__"))) (htG : PySem.W.takesIn K (.builtin "object.__class__") = some true)
    (ha_NotPlace : PySem.W.findIn K (.ref c_NotPlace) "__class__" = some (some (.builtin "object.__class__"))) (hm_NotPlace : PySem.W.mroIn K c_NotPlace (.type "object") = some true)
    (iL_NotPair : PySem.W.isClsIn K c_NotPair = true)
    (e_NotPlace_NotPair : PySem.W.subIn K (.ref c_NotPlace) (.ref c_NotPair) = some false)
    (ne_NotPlace_NotPair : c_NotPlace = c_NotPair → false = true)
    (iL_NotPlace : PySem.W.isClsIn K c_NotPlace = true)
    (e_NotPlace_NotPlace : PySem.W.subIn K (.ref c_NotPlace) (.ref c_NotPlace) = some true)
    (iL_NotText : PySem.W.isClsIn K c_NotText = true)
    (e_NotPlace_NotText : PySem.W.subIn K (.ref c_NotPlace) (.ref c_NotText) = some false)
    (ne_NotPlace_NotText : c_NotPlace = c_NotText → false = true)
    (iL_TooMany : PySem.W.isClsIn K c_TooMany = true)
    (e_NotPlace_TooMany : PySem.W.subIn K (.ref c_NotPlace) (.ref c_TooMany) = some false)
    (ne_NotPlace_TooMany : c_NotPlace = c_TooMany → false = true)
    (et_NotPlace_ValueError : PySem.W.subIn K (.ref c_NotPlace) (.type "ValueError") = some true)
    (iL_DialError : PySem.W.isClsIn K c_DialError = true)
    (l_NotText__init : K.lookup f_NotText__init = some ⟨oc_NotText__init, od_NotText__init, .func (PySem.W.fnOf "__init__" "NotText.__init__" (defArgs s_NotText__init) (defBody s_NotText__init) (defScope s_NotText__init) .none kV_NotText__init dc_NotText__init pm_NotText__init an_NotText__init cd_NotText__init ct_NotText__init), sl_NotText__init⟩) (c_NotText__init : PySem.W.codeIn K cd_NotText__init "NotText.__init__" = true) (k_NotText__init : PySem.W.keepIn K (.ref f_NotText__init) = true)
    (l_TooMany__init : K.lookup f_TooMany__init = some ⟨oc_TooMany__init, od_TooMany__init, .func (PySem.W.fnOf "__init__" "TooMany.__init__" (defArgs s_TooMany__init) (defBody s_TooMany__init) (defScope s_TooMany__init) .none kV_TooMany__init dc_TooMany__init pm_TooMany__init an_TooMany__init cd_TooMany__init ct_TooMany__init), sl_TooMany__init⟩) (c_TooMany__init : PySem.W.codeIn K cd_TooMany__init "TooMany.__init__" = true) (k_TooMany__init : PySem.W.keepIn K (.ref f_TooMany__init) = true)
    (a_is_whole : PySem.W.nsIn K mainGlobals "is_whole" = some (some (.ref f_is_whole)))
    (l_is_whole : K.lookup f_is_whole = some ⟨oc_is_whole, od_is_whole, .func (PySem.W.fnOf "is_whole" "is_whole" (defArgs s_is_whole) (defBody s_is_whole) (defScope s_is_whole) .none kV_is_whole dc_is_whole pm_is_whole an_is_whole cd_is_whole ct_is_whole), sl_is_whole⟩) (c_is_whole : PySem.W.codeIn K cd_is_whole "is_whole" = true) (k_is_whole : PySem.W.keepIn K (.ref f_is_whole) = true)
    (a_reduced : PySem.W.nsIn K mainGlobals "reduced" = some (some (.ref f_reduced)))
    (l_reduced : K.lookup f_reduced = some ⟨oc_reduced, od_reduced, .func (PySem.W.fnOf "reduced" "reduced" (defArgs s_reduced) (defBody s_reduced) (defScope s_reduced) .none kV_reduced dc_reduced pm_reduced an_reduced cd_reduced ct_reduced), sl_reduced⟩) (c_reduced : PySem.W.codeIn K cd_reduced "reduced" = true) (k_reduced : PySem.W.keepIn K (.ref f_reduced) = true)
    (a_check_place : PySem.W.nsIn K mainGlobals "check_place" = some (some (.ref f_check_place)))
    (l_check_place : K.lookup f_check_place = some ⟨oc_check_place, od_check_place, .func (PySem.W.fnOf "check_place" "check_place" (defArgs s_check_place) (defBody s_check_place) (defScope s_check_place) .none kV_check_place dc_check_place pm_check_place an_check_place cd_check_place ct_check_place), sl_check_place⟩) (c_check_place : PySem.W.codeIn K cd_check_place "check_place" = true) (k_check_place : PySem.W.keepIn K (.ref f_check_place) = true)
    (a_is_place : PySem.W.nsIn K mainGlobals "is_place" = some (some (.ref f_is_place)))
    (l_is_place : K.lookup f_is_place = some ⟨oc_is_place, od_is_place, .func (PySem.W.fnOf "is_place" "is_place" (defArgs s_is_place) (defBody s_is_place) (defScope s_is_place) .none kV_is_place dc_is_place pm_is_place an_is_place cd_is_place ct_is_place), sl_is_place⟩) (c_is_place : PySem.W.codeIn K cd_is_place "is_place" = true) (k_is_place : PySem.W.keepIn K (.ref f_is_place) = true)
    (a_place : PySem.W.nsIn K mainGlobals "place" = some (some (.ref f_place)))
    (l_place : K.lookup f_place = some ⟨oc_place, od_place, .func (PySem.W.fnOf "place" "place" (defArgs s_place) (defBody s_place) (defScope s_place) .none kV_place dc_place pm_place an_place cd_place ct_place), sl_place⟩) (c_place : PySem.W.codeIn K cd_place "place" = true) (k_place : PySem.W.keepIn K (.ref f_place) = true)
    (a__is_in_reach : PySem.W.nsIn K mainGlobals "_is_in_reach" = some (some (.ref f__is_in_reach)))
    (l__is_in_reach : K.lookup f__is_in_reach = some ⟨oc__is_in_reach, od__is_in_reach, .func (PySem.W.fnOf "_is_in_reach" "_is_in_reach" (defArgs s__is_in_reach) (defBody s__is_in_reach) (defScope s__is_in_reach) .none kV__is_in_reach dc__is_in_reach pm__is_in_reach an__is_in_reach cd__is_in_reach ct__is_in_reach), sl__is_in_reach⟩) (c__is_in_reach : PySem.W.codeIn K cd__is_in_reach "_is_in_reach" = true) (k__is_in_reach : PySem.W.keepIn K (.ref f__is_in_reach) = true)
    (a__twos : PySem.W.nsIn K mainGlobals "_twos" = some (some (.ref f__twos)))
    (l__twos : K.lookup f__twos = some ⟨oc__twos, od__twos, .func (PySem.W.fnOf "_twos" "_twos" (defArgs s__twos) (defBody s__twos) (defScope s__twos) .none kV__twos dc__twos pm__twos an__twos cd__twos ct__twos), sl__twos⟩) (c__twos : PySem.W.codeIn K cd__twos "_twos" = true) (k__twos : PySem.W.keepIn K (.ref f__twos) = true)
    (a__order : PySem.W.nsIn K mainGlobals "_order" = some (some (.ref f__order)))
    (l__order : K.lookup f__order = some ⟨oc__order, od__order, .func (PySem.W.fnOf "_order" "_order" (defArgs s__order) (defBody s__order) (defScope s__order) .none kV__order dc__order pm__order an__order cd__order ct__order), sl__order⟩) (c__order : PySem.W.codeIn K cd__order "_order" = true) (k__order : PySem.W.keepIn K (.ref f__order) = true)
    (a__law_begun : PySem.W.nsIn K mainGlobals "_law_begun" = some (some (.ref f__law_begun)))
    (l__law_begun : K.lookup f__law_begun = some ⟨oc__law_begun, od__law_begun, .func (PySem.W.fnOf "_law_begun" "_law_begun" (defArgs s__law_begun) (defBody s__law_begun) (defScope s__law_begun) .none kV__law_begun dc__law_begun pm__law_begun an__law_begun cd__law_begun ct__law_begun), sl__law_begun⟩) (c__law_begun : PySem.W.codeIn K cd__law_begun "_law_begun" = true) (k__law_begun : PySem.W.keepIn K (.ref f__law_begun) = true)
    (a__law_draw : PySem.W.nsIn K mainGlobals "_law_draw" = some (some (.ref f__law_draw)))
    (l__law_draw : K.lookup f__law_draw = some ⟨oc__law_draw, od__law_draw, .func (PySem.W.fnOf "_law_draw" "_law_draw" (defArgs s__law_draw) (defBody s__law_draw) (defScope s__law_draw) .none kV__law_draw dc__law_draw pm__law_draw an__law_draw cd__law_draw ct__law_draw), sl__law_draw⟩) (c__law_draw : PySem.W.codeIn K cd__law_draw "_law_draw" = true) (k__law_draw : PySem.W.keepIn K (.ref f__law_draw) = true)
    (a__law_of : PySem.W.nsIn K mainGlobals "_law_of" = some (some (.ref f__law_of)))
    (l__law_of : K.lookup f__law_of = some ⟨oc__law_of, od__law_of, .func (PySem.W.fnOf "_law_of" "_law_of" (defArgs s__law_of) (defBody s__law_of) (defScope s__law_of) .none kV__law_of dc__law_of pm__law_of an__law_of cd__law_of ct__law_of), sl__law_of⟩) (c__law_of : PySem.W.codeIn K cd__law_of "_law_of" = true) (k__law_of : PySem.W.keepIn K (.ref f__law_of) = true)
    (a__law_twos : PySem.W.nsIn K mainGlobals "_law_twos" = some (some (.ref f__law_twos)))
    (l__law_twos : K.lookup f__law_twos = some ⟨oc__law_twos, od__law_twos, .func (PySem.W.fnOf "_law_twos" "_law_twos" (defArgs s__law_twos) (defBody s__law_twos) (defScope s__law_twos) .none kV__law_twos dc__law_twos pm__law_twos an__law_twos cd__law_twos ct__law_twos), sl__law_twos⟩) (c__law_twos : PySem.W.codeIn K cd__law_twos "_law_twos" = true) (k__law_twos : PySem.W.keepIn K (.ref f__law_twos) = true)
    (a__law_shared : PySem.W.nsIn K mainGlobals "_law_shared" = some (some (.ref f__law_shared)))
    (l__law_shared : K.lookup f__law_shared = some ⟨oc__law_shared, od__law_shared, .func (PySem.W.fnOf "_law_shared" "_law_shared" (defArgs s__law_shared) (defBody s__law_shared) (defScope s__law_shared) .none kV__law_shared dc__law_shared pm__law_shared an__law_shared cd__law_shared ct__law_shared), sl__law_shared⟩) (c__law_shared : PySem.W.codeIn K cd__law_shared "_law_shared" = true) (k__law_shared : PySem.W.keepIn K (.ref f__law_shared) = true)
    (a__law_ratio : PySem.W.nsIn K mainGlobals "_law_ratio" = some (some (.ref f__law_ratio)))
    (l__law_ratio : K.lookup f__law_ratio = some ⟨oc__law_ratio, od__law_ratio, .func (PySem.W.fnOf "_law_ratio" "_law_ratio" (defArgs s__law_ratio) (defBody s__law_ratio) (defScope s__law_ratio) .none kV__law_ratio dc__law_ratio pm__law_ratio an__law_ratio cd__law_ratio ct__law_ratio), sl__law_ratio⟩) (c__law_ratio : PySem.W.codeIn K cd__law_ratio "_law_ratio" = true) (k__law_ratio : PySem.W.keepIn K (.ref f__law_ratio) = true)
    (a__law_double : PySem.W.nsIn K mainGlobals "_law_double" = some (some (.ref f__law_double)))
    (l__law_double : K.lookup f__law_double = some ⟨oc__law_double, od__law_double, .func (PySem.W.fnOf "_law_double" "_law_double" (defArgs s__law_double) (defBody s__law_double) (defScope s__law_double) .none kV__law_double dc__law_double pm__law_double an__law_double cd__law_double ct__law_double), sl__law_double⟩) (c__law_double : PySem.W.codeIn K cd__law_double "_law_double" = true) (k__law_double : PySem.W.keepIn K (.ref f__law_double) = true)
    (a__law_binary : PySem.W.nsIn K mainGlobals "_law_binary" = some (some (.ref f__law_binary)))
    (l__law_binary : K.lookup f__law_binary = some ⟨oc__law_binary, od__law_binary, .func (PySem.W.fnOf "_law_binary" "_law_binary" (defArgs s__law_binary) (defBody s__law_binary) (defScope s__law_binary) .none kV__law_binary dc__law_binary pm__law_binary an__law_binary cd__law_binary ct__law_binary), sl__law_binary⟩) (c__law_binary : PySem.W.codeIn K cd__law_binary "_law_binary" = true) (k__law_binary : PySem.W.keepIn K (.ref f__law_binary) = true)
    (a__law_string : PySem.W.nsIn K mainGlobals "_law_string" = some (some (.ref f__law_string)))
    (l__law_string : K.lookup f__law_string = some ⟨oc__law_string, od__law_string, .func (PySem.W.fnOf "_law_string" "_law_string" (defArgs s__law_string) (defBody s__law_string) (defScope s__law_string) .none kV__law_string dc__law_string pm__law_string an__law_string cd__law_string ct__law_string), sl__law_string⟩) (c__law_string : PySem.W.codeIn K cd__law_string "_law_string" = true) (k__law_string : PySem.W.keepIn K (.ref f__law_string) = true)
    (a__law_place : PySem.W.nsIn K mainGlobals "_law_place" = some (some (.ref f__law_place)))
    (l__law_place : K.lookup f__law_place = some ⟨oc__law_place, od__law_place, .func (PySem.W.fnOf "_law_place" "_law_place" (defArgs s__law_place) (defBody s__law_place) (defScope s__law_place) .none kV__law_place dc__law_place pm__law_place an__law_place cd__law_place ct__law_place), sl__law_place⟩) (c__law_place : PySem.W.codeIn K cd__law_place "_law_place" = true) (k__law_place : PySem.W.keepIn K (.ref f__law_place) = true)
    (a__law_any_place : PySem.W.nsIn K mainGlobals "_law_any_place" = some (some (.ref f__law_any_place)))
    (l__law_any_place : K.lookup f__law_any_place = some ⟨oc__law_any_place, od__law_any_place, .func (PySem.W.fnOf "_law_any_place" "_law_any_place" (defArgs s__law_any_place) (defBody s__law_any_place) (defScope s__law_any_place) .none kV__law_any_place dc__law_any_place pm__law_any_place an__law_any_place cd__law_any_place ct__law_any_place), sl__law_any_place⟩) (c__law_any_place : PySem.W.codeIn K cd__law_any_place "_law_any_place" = true) (k__law_any_place : PySem.W.keepIn K (.ref f__law_any_place) = true)
    (a__law_steps : PySem.W.nsIn K mainGlobals "_law_steps" = some (some (.ref f__law_steps)))
    (l__law_steps : K.lookup f__law_steps = some ⟨oc__law_steps, od__law_steps, .func (PySem.W.fnOf "_law_steps" "_law_steps" (defArgs s__law_steps) (defBody s__law_steps) (defScope s__law_steps) .none kV__law_steps dc__law_steps pm__law_steps an__law_steps cd__law_steps ct__law_steps), sl__law_steps⟩) (c__law_steps : PySem.W.codeIn K cd__law_steps "_law_steps" = true) (k__law_steps : PySem.W.keepIn K (.ref f__law_steps) = true)
    (a__law_is_place : PySem.W.nsIn K mainGlobals "_law_is_place" = some (some (.ref f__law_is_place)))
    (l__law_is_place : K.lookup f__law_is_place = some ⟨oc__law_is_place, od__law_is_place, .func (PySem.W.fnOf "_law_is_place" "_law_is_place" (defArgs s__law_is_place) (defBody s__law_is_place) (defScope s__law_is_place) .none kV__law_is_place dc__law_is_place pm__law_is_place an__law_is_place cd__law_is_place ct__law_is_place), sl__law_is_place⟩) (c__law_is_place : PySem.W.codeIn K cd__law_is_place "_law_is_place" = true) (k__law_is_place : PySem.W.keepIn K (.ref f__law_is_place) = true)
    (a__law_told : PySem.W.nsIn K mainGlobals "_law_told" = some (some (.ref f__law_told)))
    (l__law_told : K.lookup f__law_told = some ⟨oc__law_told, od__law_told, .func (PySem.W.fnOf "_law_told" "_law_told" (defArgs s__law_told) (defBody s__law_told) (defScope s__law_told) .none kV__law_told dc__law_told pm__law_told an__law_told cd__law_told ct__law_told), sl__law_told⟩) (c__law_told : PySem.W.codeIn K cd__law_told "_law_told" = true) (k__law_told : PySem.W.keepIn K (.ref f__law_told) = true)
    (a__law_plain : PySem.W.nsIn K mainGlobals "_law_plain" = some (some (.ref f__law_plain)))
    (l__law_plain : K.lookup f__law_plain = some ⟨oc__law_plain, od__law_plain, .func (PySem.W.fnOf "_law_plain" "_law_plain" (defArgs s__law_plain) (defBody s__law_plain) (defScope s__law_plain) .none kV__law_plain dc__law_plain pm__law_plain an__law_plain cd__law_plain ct__law_plain), sl__law_plain⟩) (c__law_plain : PySem.W.codeIn K cd__law_plain "_law_plain" = true) (k__law_plain : PySem.W.keepIn K (.ref f__law_plain) = true)
    (a__law_bottoms : PySem.W.nsIn K mainGlobals "_law_bottoms" = some (some (.ref f__law_bottoms)))
    (l__law_bottoms : K.lookup f__law_bottoms = some ⟨oc__law_bottoms, od__law_bottoms, .func (PySem.W.fnOf "_law_bottoms" "_law_bottoms" (defArgs s__law_bottoms) (defBody s__law_bottoms) (defScope s__law_bottoms) .none kV__law_bottoms dc__law_bottoms pm__law_bottoms an__law_bottoms cd__law_bottoms ct__law_bottoms), sl__law_bottoms⟩) (c__law_bottoms : PySem.W.codeIn K cd__law_bottoms "_law_bottoms" = true) (k__law_bottoms : PySem.W.keepIn K (.ref f__law_bottoms) = true)
    (a_law : PySem.W.nsIn K mainGlobals "law" = some (some (.ref f_law)))
    (l_law : K.lookup f_law = some ⟨oc_law, od_law, .func (PySem.W.fnOf "law" "law" (defArgs s_law) (defBody s_law) (defScope s_law) .none kV_law dc_law pm_law an_law cd_law ct_law), sl_law⟩) (c_law : PySem.W.codeIn K cd_law "law" = true) (k_law : PySem.W.keepIn K (.ref f_law) = true)
    (z_ValueError : PySem.W.nsIn K mainGlobals "ValueError" = some none)
    (z_abs : PySem.W.nsIn K mainGlobals "abs" = some none)
    (z_bool : PySem.W.nsIn K mainGlobals "bool" = some none)
    (z_divmod : PySem.W.nsIn K mainGlobals "divmod" = some none)
    (z_int : PySem.W.nsIn K mainGlobals "int" = some none)
    (z_isinstance : PySem.W.nsIn K mainGlobals "isinstance" = some none)
    (z_len : PySem.W.nsIn K mainGlobals "len" = some none)
    (z_max : PySem.W.nsIn K mainGlobals "max" = some none)
    (z_min : PySem.W.nsIn K mainGlobals "min" = some none)
    (z_range : PySem.W.nsIn K mainGlobals "range" = some none)
    (z_str : PySem.W.nsIn K mainGlobals "str" = some none)
    (z_tuple : PySem.W.nsIn K mainGlobals "tuple" = some none)
    (i_gcd : PySem.W.nsIn K mainGlobals "gcd" = some (some (.builtin "math.gcd")))
    (c_COMMON : PySem.W.nsIn K mainGlobals "COMMON" = some (some (.int 56525307072677432455503587098948920087821904549333509463754043204567040000 t_COMMON)))
    (c_MOST_STEPS : PySem.W.nsIn K mainGlobals "MOST_STEPS" = some (some (.int 24 t_MOST_STEPS))) : Top K mg :=
  { f_NotText__init := f_NotText__init, fd_NotText__init := PySem.W.fnOf "__init__" "NotText.__init__" (defArgs s_NotText__init) (defBody s_NotText__init) (defScope s_NotText__init) .none kV_NotText__init dc_NotText__init pm_NotText__init an_NotText__init cd_NotText__init ct_NotText__init, F_NotText__init := fun_mk (st := s_NotText__init) l_NotText__init c_NotText__init k_NotText__init, b_NotText__init := (fun_mk (st := s_NotText__init) l_NotText__init c_NotText__init k_NotText__init).binds (ps := ["self", "place"]) fun _ _ _ _ _ _ us hl => match us, hl with | [_, _], _ => rfl,
    f_TooMany__init := f_TooMany__init, fd_TooMany__init := PySem.W.fnOf "__init__" "TooMany.__init__" (defArgs s_TooMany__init) (defBody s_TooMany__init) (defScope s_TooMany__init) .none kV_TooMany__init dc_TooMany__init pm_TooMany__init an_TooMany__init cd_TooMany__init ct_TooMany__init, F_TooMany__init := fun_mk (st := s_TooMany__init) l_TooMany__init c_TooMany__init k_TooMany__init, b_TooMany__init := (fun_mk (st := s_TooMany__init) l_TooMany__init c_TooMany__init k_TooMany__init).binds (ps := ["self", "limit"]) fun _ _ _ _ _ _ us hl => match us, hl with | [_, _], _ => rfl,
    g_is_whole := PySem.W.mg_of X G a_is_whole,
    f_is_whole := f_is_whole, fd_is_whole := PySem.W.fnOf "is_whole" "is_whole" (defArgs s_is_whole) (defBody s_is_whole) (defScope s_is_whole) .none kV_is_whole dc_is_whole pm_is_whole an_is_whole cd_is_whole ct_is_whole, F_is_whole := fun_mk (st := s_is_whole) l_is_whole c_is_whole k_is_whole, b_is_whole := (fun_mk (st := s_is_whole) l_is_whole c_is_whole k_is_whole).binds (ps := ["value"]) fun _ _ _ _ _ _ us hl => match us, hl with | [_], _ => rfl,
    g_reduced := PySem.W.mg_of X G a_reduced,
    f_reduced := f_reduced, fd_reduced := PySem.W.fnOf "reduced" "reduced" (defArgs s_reduced) (defBody s_reduced) (defScope s_reduced) .none kV_reduced dc_reduced pm_reduced an_reduced cd_reduced ct_reduced, F_reduced := fun_mk (st := s_reduced) l_reduced c_reduced k_reduced, b_reduced := (fun_mk (st := s_reduced) l_reduced c_reduced k_reduced).binds (ps := ["top", "bottom"]) fun _ _ _ _ _ _ us hl => match us, hl with | [_, _], _ => rfl,
    g_check_place := PySem.W.mg_of X G a_check_place,
    f_check_place := f_check_place, fd_check_place := PySem.W.fnOf "check_place" "check_place" (defArgs s_check_place) (defBody s_check_place) (defScope s_check_place) .none kV_check_place dc_check_place pm_check_place an_check_place cd_check_place ct_check_place, F_check_place := fun_mk (st := s_check_place) l_check_place c_check_place k_check_place, b_check_place := (fun_mk (st := s_check_place) l_check_place c_check_place k_check_place).binds (ps := ["value"]) fun _ _ _ _ _ _ us hl => match us, hl with | [_], _ => rfl,
    g_is_place := PySem.W.mg_of X G a_is_place,
    f_is_place := f_is_place, fd_is_place := PySem.W.fnOf "is_place" "is_place" (defArgs s_is_place) (defBody s_is_place) (defScope s_is_place) .none kV_is_place dc_is_place pm_is_place an_is_place cd_is_place ct_is_place, F_is_place := fun_mk (st := s_is_place) l_is_place c_is_place k_is_place, b_is_place := (fun_mk (st := s_is_place) l_is_place c_is_place k_is_place).binds (ps := ["value"]) fun _ _ _ _ _ _ us hl => match us, hl with | [_], _ => rfl,
    g_place := PySem.W.mg_of X G a_place,
    f_place := f_place, fd_place := PySem.W.fnOf "place" "place" (defArgs s_place) (defBody s_place) (defScope s_place) .none kV_place dc_place pm_place an_place cd_place ct_place, F_place := fun_mk (st := s_place) l_place c_place k_place, b_place := (fun_mk (st := s_place) l_place c_place k_place).binds (ps := ["top", "bottom"]) fun _ _ _ _ _ _ us hl => match us, hl with | [_, _], _ => rfl,
    g__is_in_reach := PySem.W.mg_of X G a__is_in_reach,
    f__is_in_reach := f__is_in_reach, fd__is_in_reach := PySem.W.fnOf "_is_in_reach" "_is_in_reach" (defArgs s__is_in_reach) (defBody s__is_in_reach) (defScope s__is_in_reach) .none kV__is_in_reach dc__is_in_reach pm__is_in_reach an__is_in_reach cd__is_in_reach ct__is_in_reach, F__is_in_reach := fun_mk (st := s__is_in_reach) l__is_in_reach c__is_in_reach k__is_in_reach, b__is_in_reach := (fun_mk (st := s__is_in_reach) l__is_in_reach c__is_in_reach k__is_in_reach).binds (ps := ["bottom"]) fun _ _ _ _ _ _ us hl => match us, hl with | [_], _ => rfl,
    g__twos := PySem.W.mg_of X G a__twos,
    f__twos := f__twos, fd__twos := PySem.W.fnOf "_twos" "_twos" (defArgs s__twos) (defBody s__twos) (defScope s__twos) .none kV__twos dc__twos pm__twos an__twos cd__twos ct__twos, F__twos := fun_mk (st := s__twos) l__twos c__twos k__twos, b__twos := (fun_mk (st := s__twos) l__twos c__twos k__twos).binds (ps := ["bottom"]) fun _ _ _ _ _ _ us hl => match us, hl with | [_], _ => rfl,
    g__order := PySem.W.mg_of X G a__order,
    f__order := f__order, fd__order := PySem.W.fnOf "_order" "_order" (defArgs s__order) (defBody s__order) (defScope s__order) .none kV__order dc__order pm__order an__order cd__order ct__order, F__order := fun_mk (st := s__order) l__order c__order k__order, b__order := (fun_mk (st := s__order) l__order c__order k__order).binds (ps := ["odd"]) fun _ _ _ _ _ _ us hl => match us, hl with | [_], _ => rfl,
    g__law_begun := PySem.W.mg_of X G a__law_begun,
    f__law_begun := f__law_begun, fd__law_begun := PySem.W.fnOf "_law_begun" "_law_begun" (defArgs s__law_begun) (defBody s__law_begun) (defScope s__law_begun) .none kV__law_begun dc__law_begun pm__law_begun an__law_begun cd__law_begun ct__law_begun, F__law_begun := fun_mk (st := s__law_begun) l__law_begun c__law_begun k__law_begun, b__law_begun := (fun_mk (st := s__law_begun) l__law_begun c__law_begun k__law_begun).binds (ps := ["script", "k"]) fun _ _ _ _ _ _ us hl => match us, hl with | [_, _], _ => rfl,
    g__law_draw := PySem.W.mg_of X G a__law_draw,
    f__law_draw := f__law_draw, fd__law_draw := PySem.W.fnOf "_law_draw" "_law_draw" (defArgs s__law_draw) (defBody s__law_draw) (defScope s__law_draw) .none kV__law_draw dc__law_draw pm__law_draw an__law_draw cd__law_draw ct__law_draw, F__law_draw := fun_mk (st := s__law_draw) l__law_draw c__law_draw k__law_draw, b__law_draw := (fun_mk (st := s__law_draw) l__law_draw c__law_draw k__law_draw).binds (ps := ["m", "below"]) fun _ _ _ _ _ _ us hl => match us, hl with | [_, _], _ => rfl,
    g__law_of := PySem.W.mg_of X G a__law_of,
    f__law_of := f__law_of, fd__law_of := PySem.W.fnOf "_law_of" "_law_of" (defArgs s__law_of) (defBody s__law_of) (defScope s__law_of) .none kV__law_of dc__law_of pm__law_of an__law_of cd__law_of ct__law_of, F__law_of := fun_mk (st := s__law_of) l__law_of c__law_of k__law_of, b__law_of := (fun_mk (st := s__law_of) l__law_of c__law_of k__law_of).binds (ps := ["m", "some"]) fun _ _ _ _ _ _ us hl => match us, hl with | [_, _], _ => rfl,
    g__law_twos := PySem.W.mg_of X G a__law_twos,
    f__law_twos := f__law_twos, fd__law_twos := PySem.W.fnOf "_law_twos" "_law_twos" (defArgs s__law_twos) (defBody s__law_twos) (defScope s__law_twos) .none kV__law_twos dc__law_twos pm__law_twos an__law_twos cd__law_twos ct__law_twos, F__law_twos := fun_mk (st := s__law_twos) l__law_twos c__law_twos k__law_twos, b__law_twos := (fun_mk (st := s__law_twos) l__law_twos c__law_twos k__law_twos).binds (ps := ["count"]) fun _ _ _ _ _ _ us hl => match us, hl with | [_], _ => rfl,
    g__law_shared := PySem.W.mg_of X G a__law_shared,
    f__law_shared := f__law_shared, fd__law_shared := PySem.W.fnOf "_law_shared" "_law_shared" (defArgs s__law_shared) (defBody s__law_shared) (defScope s__law_shared) .none kV__law_shared dc__law_shared pm__law_shared an__law_shared cd__law_shared ct__law_shared, F__law_shared := fun_mk (st := s__law_shared) l__law_shared c__law_shared k__law_shared, b__law_shared := (fun_mk (st := s__law_shared) l__law_shared c__law_shared k__law_shared).binds (ps := ["a", "b"]) fun _ _ _ _ _ _ us hl => match us, hl with | [_, _], _ => rfl,
    g__law_ratio := PySem.W.mg_of X G a__law_ratio,
    f__law_ratio := f__law_ratio, fd__law_ratio := PySem.W.fnOf "_law_ratio" "_law_ratio" (defArgs s__law_ratio) (defBody s__law_ratio) (defScope s__law_ratio) .none kV__law_ratio dc__law_ratio pm__law_ratio an__law_ratio cd__law_ratio ct__law_ratio, F__law_ratio := fun_mk (st := s__law_ratio) l__law_ratio c__law_ratio k__law_ratio, b__law_ratio := (fun_mk (st := s__law_ratio) l__law_ratio c__law_ratio k__law_ratio).binds (ps := ["a", "b"]) fun _ _ _ _ _ _ us hl => match us, hl with | [_, _], _ => rfl,
    g__law_double := PySem.W.mg_of X G a__law_double,
    f__law_double := f__law_double, fd__law_double := PySem.W.fnOf "_law_double" "_law_double" (defArgs s__law_double) (defBody s__law_double) (defScope s__law_double) .none kV__law_double dc__law_double pm__law_double an__law_double cd__law_double ct__law_double, F__law_double := fun_mk (st := s__law_double) l__law_double c__law_double k__law_double, b__law_double := (fun_mk (st := s__law_double) l__law_double c__law_double k__law_double).binds (ps := ["x"]) fun _ _ _ _ _ _ us hl => match us, hl with | [_], _ => rfl,
    g__law_binary := PySem.W.mg_of X G a__law_binary,
    f__law_binary := f__law_binary, fd__law_binary := PySem.W.fnOf "_law_binary" "_law_binary" (defArgs s__law_binary) (defBody s__law_binary) (defScope s__law_binary) .none kV__law_binary dc__law_binary pm__law_binary an__law_binary cd__law_binary ct__law_binary, F__law_binary := fun_mk (st := s__law_binary) l__law_binary c__law_binary k__law_binary, b__law_binary := (fun_mk (st := s__law_binary) l__law_binary c__law_binary k__law_binary).binds (ps := ["head", "cycle"]) fun _ _ _ _ _ _ us hl => match us, hl with | [_, _], _ => rfl,
    g__law_string := PySem.W.mg_of X G a__law_string,
    f__law_string := f__law_string, fd__law_string := PySem.W.fnOf "_law_string" "_law_string" (defArgs s__law_string) (defBody s__law_string) (defScope s__law_string) .none kV__law_string dc__law_string pm__law_string an__law_string cd__law_string ct__law_string, F__law_string := fun_mk (st := s__law_string) l__law_string c__law_string k__law_string, b__law_string := (fun_mk (st := s__law_string) l__law_string c__law_string k__law_string).binds (ps := ["m", "size"]) fun _ _ _ _ _ _ us hl => match us, hl with | [_, _], _ => rfl,
    g__law_place := PySem.W.mg_of X G a__law_place,
    f__law_place := f__law_place, fd__law_place := PySem.W.fnOf "_law_place" "_law_place" (defArgs s__law_place) (defBody s__law_place) (defScope s__law_place) .none kV__law_place dc__law_place pm__law_place an__law_place cd__law_place ct__law_place, F__law_place := fun_mk (st := s__law_place) l__law_place c__law_place k__law_place, b__law_place := (fun_mk (st := s__law_place) l__law_place c__law_place k__law_place).binds (ps := ["m", "ahead", "again"]) fun _ _ _ _ _ _ us hl => match us, hl with | [_, _, _], _ => rfl,
    g__law_any_place := PySem.W.mg_of X G a__law_any_place,
    f__law_any_place := f__law_any_place, fd__law_any_place := PySem.W.fnOf "_law_any_place" "_law_any_place" (defArgs s__law_any_place) (defBody s__law_any_place) (defScope s__law_any_place) .none kV__law_any_place dc__law_any_place pm__law_any_place an__law_any_place cd__law_any_place ct__law_any_place, F__law_any_place := fun_mk (st := s__law_any_place) l__law_any_place c__law_any_place k__law_any_place, b__law_any_place := (fun_mk (st := s__law_any_place) l__law_any_place c__law_any_place k__law_any_place).binds (ps := ["m", "limit"]) fun _ _ _ _ _ _ us hl => match us, hl with | [_, _], _ => rfl,
    g__law_steps := PySem.W.mg_of X G a__law_steps,
    f__law_steps := f__law_steps, fd__law_steps := PySem.W.fnOf "_law_steps" "_law_steps" (defArgs s__law_steps) (defBody s__law_steps) (defScope s__law_steps) .none kV__law_steps dc__law_steps pm__law_steps an__law_steps cd__law_steps ct__law_steps, F__law_steps := fun_mk (st := s__law_steps) l__law_steps c__law_steps k__law_steps, b__law_steps := (fun_mk (st := s__law_steps) l__law_steps c__law_steps k__law_steps).binds (ps := ["x"]) fun _ _ _ _ _ _ us hl => match us, hl with | [_], _ => rfl,
    g__law_is_place := PySem.W.mg_of X G a__law_is_place,
    f__law_is_place := f__law_is_place, fd__law_is_place := PySem.W.fnOf "_law_is_place" "_law_is_place" (defArgs s__law_is_place) (defBody s__law_is_place) (defScope s__law_is_place) .none kV__law_is_place dc__law_is_place pm__law_is_place an__law_is_place cd__law_is_place ct__law_is_place, F__law_is_place := fun_mk (st := s__law_is_place) l__law_is_place c__law_is_place k__law_is_place, b__law_is_place := (fun_mk (st := s__law_is_place) l__law_is_place c__law_is_place k__law_is_place).binds (ps := ["value"]) fun _ _ _ _ _ _ us hl => match us, hl with | [_], _ => rfl,
    g__law_told := PySem.W.mg_of X G a__law_told,
    f__law_told := f__law_told, fd__law_told := PySem.W.fnOf "_law_told" "_law_told" (defArgs s__law_told) (defBody s__law_told) (defScope s__law_told) .none kV__law_told dc__law_told pm__law_told an__law_told cd__law_told ct__law_told, F__law_told := fun_mk (st := s__law_told) l__law_told c__law_told k__law_told, b__law_told := (fun_mk (st := s__law_told) l__law_told c__law_told k__law_told).binds (ps := ["call"]) fun _ _ _ _ _ _ us hl => match us, hl with | [_], _ => rfl,
    g__law_plain := PySem.W.mg_of X G a__law_plain,
    f__law_plain := f__law_plain, fd__law_plain := PySem.W.fnOf "_law_plain" "_law_plain" (defArgs s__law_plain) (defBody s__law_plain) (defScope s__law_plain) .none kV__law_plain dc__law_plain pm__law_plain an__law_plain cd__law_plain ct__law_plain, F__law_plain := fun_mk (st := s__law_plain) l__law_plain c__law_plain k__law_plain, b__law_plain := (fun_mk (st := s__law_plain) l__law_plain c__law_plain k__law_plain).binds (ps := ["found"]) fun _ _ _ _ _ _ us hl => match us, hl with | [_], _ => rfl,
    g__law_bottoms := PySem.W.mg_of X G a__law_bottoms,
    f__law_bottoms := f__law_bottoms, fd__law_bottoms := PySem.W.fnOf "_law_bottoms" "_law_bottoms" (defArgs s__law_bottoms) (defBody s__law_bottoms) (defScope s__law_bottoms) .none kV__law_bottoms dc__law_bottoms pm__law_bottoms an__law_bottoms cd__law_bottoms ct__law_bottoms, F__law_bottoms := fun_mk (st := s__law_bottoms) l__law_bottoms c__law_bottoms k__law_bottoms, b__law_bottoms := (fun_mk (st := s__law_bottoms) l__law_bottoms c__law_bottoms k__law_bottoms).binds (ps := ["m"]) fun _ _ _ _ _ _ us hl => match us, hl with | [_], _ => rfl,
    g_law := PySem.W.mg_of X G a_law,
    f_law := f_law, fd_law := PySem.W.fnOf "law" "law" (defArgs s_law) (defBody s_law) (defScope s_law) .none kV_law dc_law pm_law an_law cd_law ct_law, F_law := fun_mk (st := s_law) l_law c_law k_law, b_law := (fun_mk (st := s_law) l_law c_law k_law).binds (ps := ["script"]) fun _ _ _ _ _ _ us hl => match us, hl with | [_], _ => rfl,
    c_DialError := c_DialError, gc_DialError := PySem.W.mg_of X G gc_DialError, x_DialError := ⟨⟨⟨_, _, _, _, _, _, _, _, _, _, _, _, _, _, _, xL_DialError, by rfl⟩, sa_DialError, eC_DialError, tC_DialError, kC_DialError⟩, ⟨ga_DialError, gg_DialError, eC_DialError, hC_DialError⟩⟩,
    y_DialError := ⟨ys_DialError, tC_DialError, yr_DialError, yf_DialError⟩,
    c_NotPlace := c_NotPlace, gc_NotPlace := PySem.W.mg_of X G gc_NotPlace, x_NotPlace := ⟨⟨⟨_, _, _, _, _, _, _, _, _, _, _, _, _, _, _, xL_NotPlace, by rfl⟩, sa_NotPlace, eC_NotPlace, tC_NotPlace, kC_NotPlace⟩, ⟨ga_NotPlace, gg_NotPlace, eC_NotPlace, hC_NotPlace⟩⟩,
    xq_NotPlace := xq_NotPlace,
    c_NotText := c_NotText, gc_NotText := PySem.W.mg_of X G gc_NotText, x_NotText := ⟨⟨⟨_, _, _, _, _, _, _, _, _, _, _, _, _, _, _, xL_NotText, by rfl⟩, sa_NotText, eC_NotText, tC_NotText, kC_NotText⟩, ⟨ga_NotText, gg_NotText, eC_NotText, hC_NotText⟩⟩,
    iC_NotText := iC_NotText, tI_NotText := tI_NotText,
    n_NotText_place := n_NotText_place,
    c_NotPair := c_NotPair, gc_NotPair := PySem.W.mg_of X G gc_NotPair, x_NotPair := ⟨⟨⟨_, _, _, _, _, _, _, _, _, _, _, _, _, _, _, xL_NotPair, by rfl⟩, sa_NotPair, eC_NotPair, tC_NotPair, kC_NotPair⟩, ⟨ga_NotPair, gg_NotPair, eC_NotPair, hC_NotPair⟩⟩,
    c_TooMany := c_TooMany, gc_TooMany := PySem.W.mg_of X G gc_TooMany, x_TooMany := ⟨⟨⟨_, _, _, _, _, _, _, _, _, _, _, _, _, _, _, xL_TooMany, by rfl⟩, sa_TooMany, eC_TooMany, tC_TooMany, kC_TooMany⟩, ⟨ga_TooMany, gg_TooMany, eC_TooMany, hC_TooMany⟩⟩,
    iC_TooMany := iC_TooMany, tI_TooMany := tI_TooMany,
    n_TooMany_limit := n_TooMany_limit,
    e_NotPlace_DialError := exm_ofS eC_DialError iL_DialError tC_DialError e_NotPlace_DialError,
    xc_NotPlace := ⟨ga_NotPlace, gg_NotPlace, eC_NotPlace, hC_NotPlace, ha_NotPlace, hnG, htG, hm_NotPlace⟩,
    k_NotPlace_NotPair := kit_of iL_NotPair tC_NotPair e_NotPlace_NotPair (fun z => ne_NotPlace_NotPair z),
    k_NotPlace_NotPlace := kit_of iL_NotPlace tC_NotPlace e_NotPlace_NotPlace (fun _ => rfl),
    k_NotPlace_NotText := kit_of iL_NotText tC_NotText e_NotPlace_NotText (fun z => ne_NotPlace_NotText z),
    k_NotPlace_TooMany := kit_of iL_TooMany tC_TooMany e_NotPlace_TooMany (fun z => ne_NotPlace_TooMany z),
    k_NotPlace_ValueError := kit_ty (by decide +kernel) et_NotPlace_ValueError,
    z_ValueError := PySem.W.mg_none_of X G z_ValueError,
    z_abs := PySem.W.mg_none_of X G z_abs,
    z_bool := PySem.W.mg_none_of X G z_bool,
    z_divmod := PySem.W.mg_none_of X G z_divmod,
    z_int := PySem.W.mg_none_of X G z_int,
    z_isinstance := PySem.W.mg_none_of X G z_isinstance,
    z_len := PySem.W.mg_none_of X G z_len,
    z_max := PySem.W.mg_none_of X G z_max,
    z_min := PySem.W.mg_none_of X G z_min,
    z_range := PySem.W.mg_none_of X G z_range,
    z_str := PySem.W.mg_none_of X G z_str,
    z_tuple := PySem.W.mg_none_of X G z_tuple,
    i_gcd := PySem.W.mg_of X G i_gcd,
    t_COMMON := t_COMMON, c_COMMON := PySem.W.mg_of X G c_COMMON,
    t_MOST_STEPS := t_MOST_STEPS, c_MOST_STEPS := PySem.W.mg_of X G c_MOST_STEPS }
theorem all_mk {l : PySem.W.OpenLaw} {w : World} {K : PySem.W.Frag} {h : Heap} {mg : Str → Option Value} {fa : Addr} (X : K.In h) (G : h.Ns mainGlobals mg) (hfa : mg "law" = some (.ref fa)) {cc PP : Addr} (tT : h.get? PP = some { cls := .none, data := .fields #[] }) (tC : PySem.W.CodeHd h cc PP) (tN : K.lookup PP = none) {f_NotText__init f_TooMany__init f_is_whole f_reduced f_check_place f_is_place f_place f__is_in_reach f__twos f__order f__law_begun f__law_draw f__law_of f__law_twos f__law_shared f__law_ratio f__law_double f__law_binary f__law_string f__law_place f__law_any_place f__law_steps f__law_is_place f__law_told f__law_plain f__law_bottoms f_law : Addr} {od_NotText__init an_NotText__init od_TooMany__init an_TooMany__init od_is_whole an_is_whole od_reduced an_reduced od_check_place an_check_place od_is_place an_is_place od_place an_place od__is_in_reach an__is_in_reach od__twos an__twos od__order an__order od__law_begun an__law_begun od__law_draw an__law_draw od__law_of an__law_of od__law_twos an__law_twos od__law_shared an__law_shared od__law_ratio an__law_ratio od__law_double an__law_double od__law_binary an__law_binary od__law_string an__law_string od__law_place an__law_place od__law_any_place an__law_any_place od__law_steps an__law_steps od__law_is_place an__law_is_place od__law_told an__law_told od__law_plain an__law_plain od__law_bottoms an__law_bottoms od_law an_law : Option Addr} {oc_NotText__init kV_NotText__init dc_NotText__init pm_NotText__init cd_NotText__init ct_NotText__init oc_TooMany__init kV_TooMany__init dc_TooMany__init pm_TooMany__init cd_TooMany__init ct_TooMany__init oc_is_whole kV_is_whole dc_is_whole pm_is_whole cd_is_whole ct_is_whole oc_reduced kV_reduced dc_reduced pm_reduced cd_reduced ct_reduced oc_check_place kV_check_place dc_check_place pm_check_place cd_check_place ct_check_place oc_is_place kV_is_place dc_is_place pm_is_place cd_is_place ct_is_place oc_place kV_place dc_place pm_place cd_place ct_place oc__is_in_reach kV__is_in_reach dc__is_in_reach pm__is_in_reach cd__is_in_reach ct__is_in_reach oc__twos kV__twos dc__twos pm__twos cd__twos ct__twos oc__order kV__order dc__order pm__order cd__order ct__order oc__law_begun kV__law_begun dc__law_begun pm__law_begun cd__law_begun ct__law_begun oc__law_draw kV__law_draw dc__law_draw pm__law_draw cd__law_draw ct__law_draw oc__law_of kV__law_of dc__law_of pm__law_of cd__law_of ct__law_of oc__law_twos kV__law_twos dc__law_twos pm__law_twos cd__law_twos ct__law_twos oc__law_shared kV__law_shared dc__law_shared pm__law_shared cd__law_shared ct__law_shared oc__law_ratio kV__law_ratio dc__law_ratio pm__law_ratio cd__law_ratio ct__law_ratio oc__law_double kV__law_double dc__law_double pm__law_double cd__law_double ct__law_double oc__law_binary kV__law_binary dc__law_binary pm__law_binary cd__law_binary ct__law_binary oc__law_string kV__law_string dc__law_string pm__law_string cd__law_string ct__law_string oc__law_place kV__law_place dc__law_place pm__law_place cd__law_place ct__law_place oc__law_any_place kV__law_any_place dc__law_any_place pm__law_any_place cd__law_any_place ct__law_any_place oc__law_steps kV__law_steps dc__law_steps pm__law_steps cd__law_steps ct__law_steps oc__law_is_place kV__law_is_place dc__law_is_place pm__law_is_place cd__law_is_place ct__law_is_place oc__law_told kV__law_told dc__law_told pm__law_told cd__law_told ct__law_told oc__law_plain kV__law_plain dc__law_plain pm__law_plain cd__law_plain ct__law_plain oc__law_bottoms kV__law_bottoms dc__law_bottoms pm__law_bottoms cd__law_bottoms ct__law_bottoms oc_law kV_law dc_law pm_law ct_law : Value} {sl_NotText__init sl_TooMany__init sl_is_whole sl_reduced sl_check_place sl_is_place sl_place sl__is_in_reach sl__twos sl__order sl__law_begun sl__law_draw sl__law_of sl__law_twos sl__law_shared sl__law_ratio sl__law_double sl__law_binary sl__law_string sl__law_place sl__law_any_place sl__law_steps sl__law_is_place sl__law_told sl__law_plain sl__law_bottoms sl_law : Array (Option Value)} {c_DialError N_DialError : Addr} {nm_DialError q_DialError : Str} {bs_DialError sub_DialError : List Value} {sn_DialError : List Str} {ab_DialError : Bool} {col_DialError : Option Bool} {dd_DialError : Option Addr} {m0_DialError m1_DialError m2_DialError m3_DialError m5_DialError : Option Value} {c_NotPlace N_NotPlace : Addr} {nm_NotPlace q_NotPlace : Str} {bs_NotPlace sub_NotPlace : List Value} {sn_NotPlace : List Str} {ab_NotPlace : Bool} {col_NotPlace : Option Bool} {dd_NotPlace : Option Addr} {m0_NotPlace m1_NotPlace m2_NotPlace m3_NotPlace m5_NotPlace : Option Value} {c_NotText N_NotText : Addr} {nm_NotText q_NotText : Str} {bs_NotText sub_NotText : List Value} {sn_NotText : List Str} {ab_NotText : Bool} {col_NotText : Option Bool} {dd_NotText : Option Addr} {m0_NotText m1_NotText m2_NotText m3_NotText m5_NotText : Option Value} {c_NotPair N_NotPair : Addr} {nm_NotPair q_NotPair : Str} {bs_NotPair sub_NotPair : List Value} {sn_NotPair : List Str} {ab_NotPair : Bool} {col_NotPair : Option Bool} {dd_NotPair : Option Addr} {m0_NotPair m1_NotPair m2_NotPair m3_NotPair m5_NotPair : Option Value} {c_TooMany N_TooMany : Addr} {nm_TooMany q_TooMany : Str} {bs_TooMany sub_TooMany : List Value} {sn_TooMany : List Str} {ab_TooMany : Bool} {col_TooMany : Option Bool} {dd_TooMany : Option Addr} {m0_TooMany m1_TooMany m2_TooMany m3_TooMany m5_TooMany : Option Value} {t_COMMON t_MOST_STEPS : Tok}
    (gc_DialError : PySem.W.nsIn K mainGlobals "DialError" = some (some (.ref c_DialError)))
    (xL_DialError : K.lookup c_DialError = some (excClassObj nm_DialError q_DialError c_DialError N_DialError bs_DialError ([.type "ValueError", .type "Exception", .type "BaseException", .type "object"]) true sn_DialError sub_DialError ab_DialError col_DialError dd_DialError m0_DialError m1_DialError m2_DialError m3_DialError m5_DialError "ValueError.__new__"))
    (sa_DialError : PySem.W.findIn K (.ref c_DialError) "__setattr__" = some (some (.builtin "object.__setattr__")))
    (eC_DialError : PySem.W.subIn K (.ref c_DialError) (.type "BaseException") = some true)
    (tC_DialError : PySem.W.typeIn K (.ref c_DialError) = some (.type "type"))
    (kC_DialError : PySem.W.keepIn K (.ref c_DialError) = true)
    (ga_DialError : PySem.W.findIn K (.ref c_DialError) "__getattribute__" = some (some (.builtin "BaseException.__getattribute__")))
    (gg_DialError : PySem.W.findIn K (.ref c_DialError) "__getattr__" = some none)
    (hC_DialError : PySem.W.hasDictIn K c_DialError = true)
    (ys_DialError : PySem.W.specialIn K (.ref c_DialError) "__getattribute__" = some (some (.builtin "type.__getattribute__")))
    (yr_DialError : PySem.W.readsIn K c_DialError (.type "type") = true)
    (yf_DialError : PySem.W.findCls K (.ref c_DialError) (.type "type") "__init__" = some (.val (.builtin "ValueError.__init__")))
    (gc_NotPlace : PySem.W.nsIn K mainGlobals "NotPlace" = some (some (.ref c_NotPlace)))
    (xL_NotPlace : K.lookup c_NotPlace = some (excClassObj nm_NotPlace q_NotPlace c_NotPlace N_NotPlace bs_NotPlace (.ref c_DialError :: [.type "ValueError", .type "Exception", .type "BaseException", .type "object"]) true sn_NotPlace sub_NotPlace ab_NotPlace col_NotPlace dd_NotPlace m0_NotPlace m1_NotPlace m2_NotPlace m3_NotPlace m5_NotPlace "ValueError.__new__"))
    (sa_NotPlace : PySem.W.findIn K (.ref c_NotPlace) "__setattr__" = some (some (.builtin "object.__setattr__")))
    (eC_NotPlace : PySem.W.subIn K (.ref c_NotPlace) (.type "BaseException") = some true)
    (tC_NotPlace : PySem.W.typeIn K (.ref c_NotPlace) = some (.type "type"))
    (kC_NotPlace : PySem.W.keepIn K (.ref c_NotPlace) = true)
    (ga_NotPlace : PySem.W.findIn K (.ref c_NotPlace) "__getattribute__" = some (some (.builtin "BaseException.__getattribute__")))
    (gg_NotPlace : PySem.W.findIn K (.ref c_NotPlace) "__getattr__" = some none)
    (hC_NotPlace : PySem.W.hasDictIn K c_NotPlace = true)
    (xq_NotPlace : PySem.W.excIn K c_NotPlace [.type "ValueError", .type "Exception", .type "BaseException", .type "object"] "ValueError.__new__" = true)
    (gc_NotText : PySem.W.nsIn K mainGlobals "NotText" = some (some (.ref c_NotText)))
    (xL_NotText : K.lookup c_NotText = some (excClassObj nm_NotText q_NotText c_NotText N_NotText bs_NotText (.ref c_DialError :: [.type "ValueError", .type "Exception", .type "BaseException", .type "object"]) true sn_NotText sub_NotText ab_NotText col_NotText dd_NotText m0_NotText m1_NotText m2_NotText m3_NotText m5_NotText "ValueError.__new__"))
    (sa_NotText : PySem.W.findIn K (.ref c_NotText) "__setattr__" = some (some (.builtin "object.__setattr__")))
    (eC_NotText : PySem.W.subIn K (.ref c_NotText) (.type "BaseException") = some true)
    (tC_NotText : PySem.W.typeIn K (.ref c_NotText) = some (.type "type"))
    (kC_NotText : PySem.W.keepIn K (.ref c_NotText) = true)
    (ga_NotText : PySem.W.findIn K (.ref c_NotText) "__getattribute__" = some (some (.builtin "BaseException.__getattribute__")))
    (gg_NotText : PySem.W.findIn K (.ref c_NotText) "__getattr__" = some none)
    (hC_NotText : PySem.W.hasDictIn K c_NotText = true)
    (iC_NotText : PySem.W.findIn K (.ref c_NotText) "__init__" = some (some (.ref f_NotText__init))) (tI_NotText : PySem.W.typeIn K (.ref f_NotText__init) = some (.type "function"))
    (n_NotText_place : PySem.W.findIn K (.ref c_NotText) "place" = some none)
    (gc_NotPair : PySem.W.nsIn K mainGlobals "NotPair" = some (some (.ref c_NotPair)))
    (xL_NotPair : K.lookup c_NotPair = some (excClassObj nm_NotPair q_NotPair c_NotPair N_NotPair bs_NotPair (.ref c_DialError :: [.type "ValueError", .type "Exception", .type "BaseException", .type "object"]) true sn_NotPair sub_NotPair ab_NotPair col_NotPair dd_NotPair m0_NotPair m1_NotPair m2_NotPair m3_NotPair m5_NotPair "ValueError.__new__"))
    (sa_NotPair : PySem.W.findIn K (.ref c_NotPair) "__setattr__" = some (some (.builtin "object.__setattr__")))
    (eC_NotPair : PySem.W.subIn K (.ref c_NotPair) (.type "BaseException") = some true)
    (tC_NotPair : PySem.W.typeIn K (.ref c_NotPair) = some (.type "type"))
    (kC_NotPair : PySem.W.keepIn K (.ref c_NotPair) = true)
    (ga_NotPair : PySem.W.findIn K (.ref c_NotPair) "__getattribute__" = some (some (.builtin "BaseException.__getattribute__")))
    (gg_NotPair : PySem.W.findIn K (.ref c_NotPair) "__getattr__" = some none)
    (hC_NotPair : PySem.W.hasDictIn K c_NotPair = true)
    (gc_TooMany : PySem.W.nsIn K mainGlobals "TooMany" = some (some (.ref c_TooMany)))
    (xL_TooMany : K.lookup c_TooMany = some (excClassObj nm_TooMany q_TooMany c_TooMany N_TooMany bs_TooMany (.ref c_DialError :: [.type "ValueError", .type "Exception", .type "BaseException", .type "object"]) true sn_TooMany sub_TooMany ab_TooMany col_TooMany dd_TooMany m0_TooMany m1_TooMany m2_TooMany m3_TooMany m5_TooMany "ValueError.__new__"))
    (sa_TooMany : PySem.W.findIn K (.ref c_TooMany) "__setattr__" = some (some (.builtin "object.__setattr__")))
    (eC_TooMany : PySem.W.subIn K (.ref c_TooMany) (.type "BaseException") = some true)
    (tC_TooMany : PySem.W.typeIn K (.ref c_TooMany) = some (.type "type"))
    (kC_TooMany : PySem.W.keepIn K (.ref c_TooMany) = true)
    (ga_TooMany : PySem.W.findIn K (.ref c_TooMany) "__getattribute__" = some (some (.builtin "BaseException.__getattribute__")))
    (gg_TooMany : PySem.W.findIn K (.ref c_TooMany) "__getattr__" = some none)
    (hC_TooMany : PySem.W.hasDictIn K c_TooMany = true)
    (iC_TooMany : PySem.W.findIn K (.ref c_TooMany) "__init__" = some (some (.ref f_TooMany__init))) (tI_TooMany : PySem.W.typeIn K (.ref f_TooMany__init) = some (.type "function"))
    (n_TooMany_limit : PySem.W.findIn K (.ref c_TooMany) "limit" = some none)
    (e_NotPlace_DialError : PySem.W.subIn K (.ref c_NotPlace) (.ref c_DialError) = some true)
    (hnG : PySem.W.specialIn K (.builtin "object.__class__") "__get__" = some (some (.builtin "getset_descriptor.__get__"))) (htG : PySem.W.takesIn K (.builtin "object.__class__") = some true)
    (ha_NotPlace : PySem.W.findIn K (.ref c_NotPlace) "__class__" = some (some (.builtin "object.__class__"))) (hm_NotPlace : PySem.W.mroIn K c_NotPlace (.type "object") = some true)
    (iL_NotPair : PySem.W.isClsIn K c_NotPair = true)
    (e_NotPlace_NotPair : PySem.W.subIn K (.ref c_NotPlace) (.ref c_NotPair) = some false)
    (ne_NotPlace_NotPair : c_NotPlace = c_NotPair → false = true)
    (iL_NotPlace : PySem.W.isClsIn K c_NotPlace = true)
    (e_NotPlace_NotPlace : PySem.W.subIn K (.ref c_NotPlace) (.ref c_NotPlace) = some true)
    (iL_NotText : PySem.W.isClsIn K c_NotText = true)
    (e_NotPlace_NotText : PySem.W.subIn K (.ref c_NotPlace) (.ref c_NotText) = some false)
    (ne_NotPlace_NotText : c_NotPlace = c_NotText → false = true)
    (iL_TooMany : PySem.W.isClsIn K c_TooMany = true)
    (e_NotPlace_TooMany : PySem.W.subIn K (.ref c_NotPlace) (.ref c_TooMany) = some false)
    (ne_NotPlace_TooMany : c_NotPlace = c_TooMany → false = true)
    (et_NotPlace_ValueError : PySem.W.subIn K (.ref c_NotPlace) (.type "ValueError") = some true)
    (iL_DialError : PySem.W.isClsIn K c_DialError = true)
    (l_NotText__init : K.lookup f_NotText__init = some ⟨oc_NotText__init, od_NotText__init, .func (PySem.W.fnOf "__init__" "NotText.__init__" (defArgs s_NotText__init) (defBody s_NotText__init) (defScope s_NotText__init) .none kV_NotText__init dc_NotText__init pm_NotText__init an_NotText__init cd_NotText__init ct_NotText__init), sl_NotText__init⟩) (c_NotText__init : PySem.W.codeIn K cd_NotText__init "NotText.__init__" = true) (k_NotText__init : PySem.W.keepIn K (.ref f_NotText__init) = true)
    (l_TooMany__init : K.lookup f_TooMany__init = some ⟨oc_TooMany__init, od_TooMany__init, .func (PySem.W.fnOf "__init__" "TooMany.__init__" (defArgs s_TooMany__init) (defBody s_TooMany__init) (defScope s_TooMany__init) .none kV_TooMany__init dc_TooMany__init pm_TooMany__init an_TooMany__init cd_TooMany__init ct_TooMany__init), sl_TooMany__init⟩) (c_TooMany__init : PySem.W.codeIn K cd_TooMany__init "TooMany.__init__" = true) (k_TooMany__init : PySem.W.keepIn K (.ref f_TooMany__init) = true)
    (a_is_whole : PySem.W.nsIn K mainGlobals "is_whole" = some (some (.ref f_is_whole)))
    (l_is_whole : K.lookup f_is_whole = some ⟨oc_is_whole, od_is_whole, .func (PySem.W.fnOf "is_whole" "is_whole" (defArgs s_is_whole) (defBody s_is_whole) (defScope s_is_whole) .none kV_is_whole dc_is_whole pm_is_whole an_is_whole cd_is_whole ct_is_whole), sl_is_whole⟩) (c_is_whole : PySem.W.codeIn K cd_is_whole "is_whole" = true) (k_is_whole : PySem.W.keepIn K (.ref f_is_whole) = true)
    (a_reduced : PySem.W.nsIn K mainGlobals "reduced" = some (some (.ref f_reduced)))
    (l_reduced : K.lookup f_reduced = some ⟨oc_reduced, od_reduced, .func (PySem.W.fnOf "reduced" "reduced" (defArgs s_reduced) (defBody s_reduced) (defScope s_reduced) .none kV_reduced dc_reduced pm_reduced an_reduced cd_reduced ct_reduced), sl_reduced⟩) (c_reduced : PySem.W.codeIn K cd_reduced "reduced" = true) (k_reduced : PySem.W.keepIn K (.ref f_reduced) = true)
    (a_check_place : PySem.W.nsIn K mainGlobals "check_place" = some (some (.ref f_check_place)))
    (l_check_place : K.lookup f_check_place = some ⟨oc_check_place, od_check_place, .func (PySem.W.fnOf "check_place" "check_place" (defArgs s_check_place) (defBody s_check_place) (defScope s_check_place) .none kV_check_place dc_check_place pm_check_place an_check_place cd_check_place ct_check_place), sl_check_place⟩) (c_check_place : PySem.W.codeIn K cd_check_place "check_place" = true) (k_check_place : PySem.W.keepIn K (.ref f_check_place) = true)
    (a_is_place : PySem.W.nsIn K mainGlobals "is_place" = some (some (.ref f_is_place)))
    (l_is_place : K.lookup f_is_place = some ⟨oc_is_place, od_is_place, .func (PySem.W.fnOf "is_place" "is_place" (defArgs s_is_place) (defBody s_is_place) (defScope s_is_place) .none kV_is_place dc_is_place pm_is_place an_is_place cd_is_place ct_is_place), sl_is_place⟩) (c_is_place : PySem.W.codeIn K cd_is_place "is_place" = true) (k_is_place : PySem.W.keepIn K (.ref f_is_place) = true)
    (a_place : PySem.W.nsIn K mainGlobals "place" = some (some (.ref f_place)))
    (l_place : K.lookup f_place = some ⟨oc_place, od_place, .func (PySem.W.fnOf "place" "place" (defArgs s_place) (defBody s_place) (defScope s_place) .none kV_place dc_place pm_place an_place cd_place ct_place), sl_place⟩) (c_place : PySem.W.codeIn K cd_place "place" = true) (k_place : PySem.W.keepIn K (.ref f_place) = true)
    (a__is_in_reach : PySem.W.nsIn K mainGlobals "_is_in_reach" = some (some (.ref f__is_in_reach)))
    (l__is_in_reach : K.lookup f__is_in_reach = some ⟨oc__is_in_reach, od__is_in_reach, .func (PySem.W.fnOf "_is_in_reach" "_is_in_reach" (defArgs s__is_in_reach) (defBody s__is_in_reach) (defScope s__is_in_reach) .none kV__is_in_reach dc__is_in_reach pm__is_in_reach an__is_in_reach cd__is_in_reach ct__is_in_reach), sl__is_in_reach⟩) (c__is_in_reach : PySem.W.codeIn K cd__is_in_reach "_is_in_reach" = true) (k__is_in_reach : PySem.W.keepIn K (.ref f__is_in_reach) = true)
    (a__twos : PySem.W.nsIn K mainGlobals "_twos" = some (some (.ref f__twos)))
    (l__twos : K.lookup f__twos = some ⟨oc__twos, od__twos, .func (PySem.W.fnOf "_twos" "_twos" (defArgs s__twos) (defBody s__twos) (defScope s__twos) .none kV__twos dc__twos pm__twos an__twos cd__twos ct__twos), sl__twos⟩) (c__twos : PySem.W.codeIn K cd__twos "_twos" = true) (k__twos : PySem.W.keepIn K (.ref f__twos) = true)
    (a__order : PySem.W.nsIn K mainGlobals "_order" = some (some (.ref f__order)))
    (l__order : K.lookup f__order = some ⟨oc__order, od__order, .func (PySem.W.fnOf "_order" "_order" (defArgs s__order) (defBody s__order) (defScope s__order) .none kV__order dc__order pm__order an__order cd__order ct__order), sl__order⟩) (c__order : PySem.W.codeIn K cd__order "_order" = true) (k__order : PySem.W.keepIn K (.ref f__order) = true)
    (a__law_begun : PySem.W.nsIn K mainGlobals "_law_begun" = some (some (.ref f__law_begun)))
    (l__law_begun : K.lookup f__law_begun = some ⟨oc__law_begun, od__law_begun, .func (PySem.W.fnOf "_law_begun" "_law_begun" (defArgs s__law_begun) (defBody s__law_begun) (defScope s__law_begun) .none kV__law_begun dc__law_begun pm__law_begun an__law_begun cd__law_begun ct__law_begun), sl__law_begun⟩) (c__law_begun : PySem.W.codeIn K cd__law_begun "_law_begun" = true) (k__law_begun : PySem.W.keepIn K (.ref f__law_begun) = true)
    (a__law_draw : PySem.W.nsIn K mainGlobals "_law_draw" = some (some (.ref f__law_draw)))
    (l__law_draw : K.lookup f__law_draw = some ⟨oc__law_draw, od__law_draw, .func (PySem.W.fnOf "_law_draw" "_law_draw" (defArgs s__law_draw) (defBody s__law_draw) (defScope s__law_draw) .none kV__law_draw dc__law_draw pm__law_draw an__law_draw cd__law_draw ct__law_draw), sl__law_draw⟩) (c__law_draw : PySem.W.codeIn K cd__law_draw "_law_draw" = true) (k__law_draw : PySem.W.keepIn K (.ref f__law_draw) = true)
    (a__law_of : PySem.W.nsIn K mainGlobals "_law_of" = some (some (.ref f__law_of)))
    (l__law_of : K.lookup f__law_of = some ⟨oc__law_of, od__law_of, .func (PySem.W.fnOf "_law_of" "_law_of" (defArgs s__law_of) (defBody s__law_of) (defScope s__law_of) .none kV__law_of dc__law_of pm__law_of an__law_of cd__law_of ct__law_of), sl__law_of⟩) (c__law_of : PySem.W.codeIn K cd__law_of "_law_of" = true) (k__law_of : PySem.W.keepIn K (.ref f__law_of) = true)
    (a__law_twos : PySem.W.nsIn K mainGlobals "_law_twos" = some (some (.ref f__law_twos)))
    (l__law_twos : K.lookup f__law_twos = some ⟨oc__law_twos, od__law_twos, .func (PySem.W.fnOf "_law_twos" "_law_twos" (defArgs s__law_twos) (defBody s__law_twos) (defScope s__law_twos) .none kV__law_twos dc__law_twos pm__law_twos an__law_twos cd__law_twos ct__law_twos), sl__law_twos⟩) (c__law_twos : PySem.W.codeIn K cd__law_twos "_law_twos" = true) (k__law_twos : PySem.W.keepIn K (.ref f__law_twos) = true)
    (a__law_shared : PySem.W.nsIn K mainGlobals "_law_shared" = some (some (.ref f__law_shared)))
    (l__law_shared : K.lookup f__law_shared = some ⟨oc__law_shared, od__law_shared, .func (PySem.W.fnOf "_law_shared" "_law_shared" (defArgs s__law_shared) (defBody s__law_shared) (defScope s__law_shared) .none kV__law_shared dc__law_shared pm__law_shared an__law_shared cd__law_shared ct__law_shared), sl__law_shared⟩) (c__law_shared : PySem.W.codeIn K cd__law_shared "_law_shared" = true) (k__law_shared : PySem.W.keepIn K (.ref f__law_shared) = true)
    (a__law_ratio : PySem.W.nsIn K mainGlobals "_law_ratio" = some (some (.ref f__law_ratio)))
    (l__law_ratio : K.lookup f__law_ratio = some ⟨oc__law_ratio, od__law_ratio, .func (PySem.W.fnOf "_law_ratio" "_law_ratio" (defArgs s__law_ratio) (defBody s__law_ratio) (defScope s__law_ratio) .none kV__law_ratio dc__law_ratio pm__law_ratio an__law_ratio cd__law_ratio ct__law_ratio), sl__law_ratio⟩) (c__law_ratio : PySem.W.codeIn K cd__law_ratio "_law_ratio" = true) (k__law_ratio : PySem.W.keepIn K (.ref f__law_ratio) = true)
    (a__law_double : PySem.W.nsIn K mainGlobals "_law_double" = some (some (.ref f__law_double)))
    (l__law_double : K.lookup f__law_double = some ⟨oc__law_double, od__law_double, .func (PySem.W.fnOf "_law_double" "_law_double" (defArgs s__law_double) (defBody s__law_double) (defScope s__law_double) .none kV__law_double dc__law_double pm__law_double an__law_double cd__law_double ct__law_double), sl__law_double⟩) (c__law_double : PySem.W.codeIn K cd__law_double "_law_double" = true) (k__law_double : PySem.W.keepIn K (.ref f__law_double) = true)
    (a__law_binary : PySem.W.nsIn K mainGlobals "_law_binary" = some (some (.ref f__law_binary)))
    (l__law_binary : K.lookup f__law_binary = some ⟨oc__law_binary, od__law_binary, .func (PySem.W.fnOf "_law_binary" "_law_binary" (defArgs s__law_binary) (defBody s__law_binary) (defScope s__law_binary) .none kV__law_binary dc__law_binary pm__law_binary an__law_binary cd__law_binary ct__law_binary), sl__law_binary⟩) (c__law_binary : PySem.W.codeIn K cd__law_binary "_law_binary" = true) (k__law_binary : PySem.W.keepIn K (.ref f__law_binary) = true)
    (a__law_string : PySem.W.nsIn K mainGlobals "_law_string" = some (some (.ref f__law_string)))
    (l__law_string : K.lookup f__law_string = some ⟨oc__law_string, od__law_string, .func (PySem.W.fnOf "_law_string" "_law_string" (defArgs s__law_string) (defBody s__law_string) (defScope s__law_string) .none kV__law_string dc__law_string pm__law_string an__law_string cd__law_string ct__law_string), sl__law_string⟩) (c__law_string : PySem.W.codeIn K cd__law_string "_law_string" = true) (k__law_string : PySem.W.keepIn K (.ref f__law_string) = true)
    (a__law_place : PySem.W.nsIn K mainGlobals "_law_place" = some (some (.ref f__law_place)))
    (l__law_place : K.lookup f__law_place = some ⟨oc__law_place, od__law_place, .func (PySem.W.fnOf "_law_place" "_law_place" (defArgs s__law_place) (defBody s__law_place) (defScope s__law_place) .none kV__law_place dc__law_place pm__law_place an__law_place cd__law_place ct__law_place), sl__law_place⟩) (c__law_place : PySem.W.codeIn K cd__law_place "_law_place" = true) (k__law_place : PySem.W.keepIn K (.ref f__law_place) = true)
    (a__law_any_place : PySem.W.nsIn K mainGlobals "_law_any_place" = some (some (.ref f__law_any_place)))
    (l__law_any_place : K.lookup f__law_any_place = some ⟨oc__law_any_place, od__law_any_place, .func (PySem.W.fnOf "_law_any_place" "_law_any_place" (defArgs s__law_any_place) (defBody s__law_any_place) (defScope s__law_any_place) .none kV__law_any_place dc__law_any_place pm__law_any_place an__law_any_place cd__law_any_place ct__law_any_place), sl__law_any_place⟩) (c__law_any_place : PySem.W.codeIn K cd__law_any_place "_law_any_place" = true) (k__law_any_place : PySem.W.keepIn K (.ref f__law_any_place) = true)
    (a__law_steps : PySem.W.nsIn K mainGlobals "_law_steps" = some (some (.ref f__law_steps)))
    (l__law_steps : K.lookup f__law_steps = some ⟨oc__law_steps, od__law_steps, .func (PySem.W.fnOf "_law_steps" "_law_steps" (defArgs s__law_steps) (defBody s__law_steps) (defScope s__law_steps) .none kV__law_steps dc__law_steps pm__law_steps an__law_steps cd__law_steps ct__law_steps), sl__law_steps⟩) (c__law_steps : PySem.W.codeIn K cd__law_steps "_law_steps" = true) (k__law_steps : PySem.W.keepIn K (.ref f__law_steps) = true)
    (a__law_is_place : PySem.W.nsIn K mainGlobals "_law_is_place" = some (some (.ref f__law_is_place)))
    (l__law_is_place : K.lookup f__law_is_place = some ⟨oc__law_is_place, od__law_is_place, .func (PySem.W.fnOf "_law_is_place" "_law_is_place" (defArgs s__law_is_place) (defBody s__law_is_place) (defScope s__law_is_place) .none kV__law_is_place dc__law_is_place pm__law_is_place an__law_is_place cd__law_is_place ct__law_is_place), sl__law_is_place⟩) (c__law_is_place : PySem.W.codeIn K cd__law_is_place "_law_is_place" = true) (k__law_is_place : PySem.W.keepIn K (.ref f__law_is_place) = true)
    (a__law_told : PySem.W.nsIn K mainGlobals "_law_told" = some (some (.ref f__law_told)))
    (l__law_told : K.lookup f__law_told = some ⟨oc__law_told, od__law_told, .func (PySem.W.fnOf "_law_told" "_law_told" (defArgs s__law_told) (defBody s__law_told) (defScope s__law_told) .none kV__law_told dc__law_told pm__law_told an__law_told cd__law_told ct__law_told), sl__law_told⟩) (c__law_told : PySem.W.codeIn K cd__law_told "_law_told" = true) (k__law_told : PySem.W.keepIn K (.ref f__law_told) = true)
    (a__law_plain : PySem.W.nsIn K mainGlobals "_law_plain" = some (some (.ref f__law_plain)))
    (l__law_plain : K.lookup f__law_plain = some ⟨oc__law_plain, od__law_plain, .func (PySem.W.fnOf "_law_plain" "_law_plain" (defArgs s__law_plain) (defBody s__law_plain) (defScope s__law_plain) .none kV__law_plain dc__law_plain pm__law_plain an__law_plain cd__law_plain ct__law_plain), sl__law_plain⟩) (c__law_plain : PySem.W.codeIn K cd__law_plain "_law_plain" = true) (k__law_plain : PySem.W.keepIn K (.ref f__law_plain) = true)
    (a__law_bottoms : PySem.W.nsIn K mainGlobals "_law_bottoms" = some (some (.ref f__law_bottoms)))
    (l__law_bottoms : K.lookup f__law_bottoms = some ⟨oc__law_bottoms, od__law_bottoms, .func (PySem.W.fnOf "_law_bottoms" "_law_bottoms" (defArgs s__law_bottoms) (defBody s__law_bottoms) (defScope s__law_bottoms) .none kV__law_bottoms dc__law_bottoms pm__law_bottoms an__law_bottoms cd__law_bottoms ct__law_bottoms), sl__law_bottoms⟩) (c__law_bottoms : PySem.W.codeIn K cd__law_bottoms "_law_bottoms" = true) (k__law_bottoms : PySem.W.keepIn K (.ref f__law_bottoms) = true)
    (a_law : PySem.W.nsIn K mainGlobals "law" = some (some (.ref f_law)))
    (l_law : K.lookup f_law = some ⟨oc_law, od_law, .func (PySem.W.fnOf "law" "law" (defArgs s_law) (defBody s_law) (defScope s_law) .none kV_law dc_law pm_law an_law (.ref cc) ct_law), sl_law⟩) (c_law : PySem.W.codeIn K (.ref cc) "law" = true) (k_law : PySem.W.keepIn K (.ref f_law) = true)
    (z_ValueError : PySem.W.nsIn K mainGlobals "ValueError" = some none)
    (z_abs : PySem.W.nsIn K mainGlobals "abs" = some none)
    (z_bool : PySem.W.nsIn K mainGlobals "bool" = some none)
    (z_divmod : PySem.W.nsIn K mainGlobals "divmod" = some none)
    (z_int : PySem.W.nsIn K mainGlobals "int" = some none)
    (z_isinstance : PySem.W.nsIn K mainGlobals "isinstance" = some none)
    (z_len : PySem.W.nsIn K mainGlobals "len" = some none)
    (z_max : PySem.W.nsIn K mainGlobals "max" = some none)
    (z_min : PySem.W.nsIn K mainGlobals "min" = some none)
    (z_range : PySem.W.nsIn K mainGlobals "range" = some none)
    (z_str : PySem.W.nsIn K mainGlobals "str" = some none)
    (z_tuple : PySem.W.nsIn K mainGlobals "tuple" = some none)
    (i_gcd : PySem.W.nsIn K mainGlobals "gcd" = some (some (.builtin "math.gcd")))
    (c_COMMON : PySem.W.nsIn K mainGlobals "COMMON" = some (some (.int 56525307072677432455503587098948920087821904549333509463754043204567040000 t_COMMON)))
    (c_MOST_STEPS : PySem.W.nsIn K mainGlobals "MOST_STEPS" = some (some (.int 24 t_MOST_STEPS))) :
    LamX.LawAtS l w K CX0 8 63 "script" mg fa h := by
  have e := hfa.symm.trans (PySem.W.mg_of X G a_law)
  cases e
  refine ⟨_, [(cc, PP)], sp_law K PP, fun p hp => ?_, fun p hp => ?_, fun p hp => ?_, fun s v => .of_eq rfl, fun H a ns hl hb hT hS => ⟨a, ns, rfl, hS, hl, hb, hT _ List.mem_cons_self, fun _ => rfl⟩, fun base _ _ hTB => ok_law (top_mk X G gc_DialError xL_DialError sa_DialError eC_DialError tC_DialError kC_DialError ga_DialError gg_DialError hC_DialError ys_DialError yr_DialError yf_DialError gc_NotPlace xL_NotPlace sa_NotPlace eC_NotPlace tC_NotPlace kC_NotPlace ga_NotPlace gg_NotPlace hC_NotPlace xq_NotPlace gc_NotText xL_NotText sa_NotText eC_NotText tC_NotText kC_NotText ga_NotText gg_NotText hC_NotText iC_NotText tI_NotText n_NotText_place gc_NotPair xL_NotPair sa_NotPair eC_NotPair tC_NotPair kC_NotPair ga_NotPair gg_NotPair hC_NotPair gc_TooMany xL_TooMany sa_TooMany eC_TooMany tC_TooMany kC_TooMany ga_TooMany gg_TooMany hC_TooMany iC_TooMany tI_TooMany n_TooMany_limit e_NotPlace_DialError hnG htG ha_NotPlace hm_NotPlace iL_NotPair e_NotPlace_NotPair ne_NotPlace_NotPair iL_NotPlace e_NotPlace_NotPlace iL_NotText e_NotPlace_NotText ne_NotPlace_NotText iL_TooMany e_NotPlace_TooMany ne_NotPlace_TooMany et_NotPlace_ValueError iL_DialError l_NotText__init c_NotText__init k_NotText__init l_TooMany__init c_TooMany__init k_TooMany__init a_is_whole l_is_whole c_is_whole k_is_whole a_reduced l_reduced c_reduced k_reduced a_check_place l_check_place c_check_place k_check_place a_is_place l_is_place c_is_place k_is_place a_place l_place c_place k_place a__is_in_reach l__is_in_reach c__is_in_reach k__is_in_reach a__twos l__twos c__twos k__twos a__order l__order c__order k__order a__law_begun l__law_begun c__law_begun k__law_begun a__law_draw l__law_draw c__law_draw k__law_draw a__law_of l__law_of c__law_of k__law_of a__law_twos l__law_twos c__law_twos k__law_twos a__law_shared l__law_shared c__law_shared k__law_shared a__law_ratio l__law_ratio c__law_ratio k__law_ratio a__law_double l__law_double c__law_double k__law_double a__law_binary l__law_binary c__law_binary k__law_binary a__law_string l__law_string c__law_string k__law_string a__law_place l__law_place c__law_place k__law_place a__law_any_place l__law_any_place c__law_any_place k__law_any_place a__law_steps l__law_steps c__law_steps k__law_steps a__law_is_place l__law_is_place c__law_is_place k__law_is_place a__law_told l__law_told c__law_told k__law_told a__law_plain l__law_plain c__law_plain k__law_plain a__law_bottoms l__law_bottoms c__law_bottoms k__law_bottoms a_law l_law c_law k_law z_ValueError z_abs z_bool z_divmod z_int z_isinstance z_len z_max z_min z_range z_str z_tuple i_gcd c_COMMON c_MOST_STEPS) rfl (hTB _ List.mem_cons_self)⟩
  all_goals (rw [List.mem_singleton.mp hp]; assumption)
end Tw
open PySem PySem.W PyProof.Rows
set_option maxHeartbeats 0 in
theorem PySem.Challenge.cw_twicedial_k00_places_checked_holds : PySem.Challenge.rw_twicedial_k00_places_checked.Holds := by
  w_on; o_law; k_head; (case hw => w_witness2)
  k_fill
  refine LamX.walk_ofTs (l := PySem.Challenge.rw_twicedial_k00_places_checked) (n := 63) (k := 8) (x := "script") (CX := fun _ => L2.CX0) rfl (by decide) rfl ⟨rfl, by decide, by decide⟩ (fun w h Y => PySem.W.km_in_of Y) ?F (fun _ _ _ _ _ h => h)
  case F =>
    intro w mg fa h Y KX G hmg
    refine' Tw.all_mk KX G hmg (PySem.W.km_tabs_of Y _ List.mem_cons_self) (PySem.W.codeHd_of_K KX ?tC) ?tN ?gc_DialError ?xL_DialError ?sa_DialError ?eC_DialError ?tC_DialError ?kC_DialError ?ga_DialError ?gg_DialError ?hC_DialError ?ys_DialError ?yr_DialError ?yf_DialError ?gc_NotPlace ?xL_NotPlace ?sa_NotPlace ?eC_NotPlace ?tC_NotPlace ?kC_NotPlace ?ga_NotPlace ?gg_NotPlace ?hC_NotPlace ?xq_NotPlace ?gc_NotText ?xL_NotText ?sa_NotText ?eC_NotText ?tC_NotText ?kC_NotText ?ga_NotText ?gg_NotText ?hC_NotText ?iC_NotText ?tI_NotText ?n_NotText_place ?gc_NotPair ?xL_NotPair ?sa_NotPair ?eC_NotPair ?tC_NotPair ?kC_NotPair ?ga_NotPair ?gg_NotPair ?hC_NotPair ?gc_TooMany ?xL_TooMany ?sa_TooMany ?eC_TooMany ?tC_TooMany ?kC_TooMany ?ga_TooMany ?gg_TooMany ?hC_TooMany ?iC_TooMany ?tI_TooMany ?n_TooMany_limit ?e_NotPlace_DialError ?hnG ?htG ?ha_NotPlace ?hm_NotPlace ?iL_NotPair ?e_NotPlace_NotPair ?ne_NotPlace_NotPair ?iL_NotPlace ?e_NotPlace_NotPlace ?iL_NotText ?e_NotPlace_NotText ?ne_NotPlace_NotText ?iL_TooMany ?e_NotPlace_TooMany ?ne_NotPlace_TooMany ?et_NotPlace_ValueError ?iL_DialError ?l_NotText__init ?c_NotText__init ?k_NotText__init ?l_TooMany__init ?c_TooMany__init ?k_TooMany__init ?a_is_whole ?l_is_whole ?c_is_whole ?k_is_whole ?a_reduced ?l_reduced ?c_reduced ?k_reduced ?a_check_place ?l_check_place ?c_check_place ?k_check_place ?a_is_place ?l_is_place ?c_is_place ?k_is_place ?a_place ?l_place ?c_place ?k_place ?a__is_in_reach ?l__is_in_reach ?c__is_in_reach ?k__is_in_reach ?a__twos ?l__twos ?c__twos ?k__twos ?a__order ?l__order ?c__order ?k__order ?a__law_begun ?l__law_begun ?c__law_begun ?k__law_begun ?a__law_draw ?l__law_draw ?c__law_draw ?k__law_draw ?a__law_of ?l__law_of ?c__law_of ?k__law_of ?a__law_twos ?l__law_twos ?c__law_twos ?k__law_twos ?a__law_shared ?l__law_shared ?c__law_shared ?k__law_shared ?a__law_ratio ?l__law_ratio ?c__law_ratio ?k__law_ratio ?a__law_double ?l__law_double ?c__law_double ?k__law_double ?a__law_binary ?l__law_binary ?c__law_binary ?k__law_binary ?a__law_string ?l__law_string ?c__law_string ?k__law_string ?a__law_place ?l__law_place ?c__law_place ?k__law_place ?a__law_any_place ?l__law_any_place ?c__law_any_place ?k__law_any_place ?a__law_steps ?l__law_steps ?c__law_steps ?k__law_steps ?a__law_is_place ?l__law_is_place ?c__law_is_place ?k__law_is_place ?a__law_told ?l__law_told ?c__law_told ?k__law_told ?a__law_plain ?l__law_plain ?c__law_plain ?k__law_plain ?a__law_bottoms ?l__law_bottoms ?c__law_bottoms ?k__law_bottoms ?a_law ?l_law ?c_law ?k_law ?z_ValueError ?z_abs ?z_bool ?z_divmod ?z_int ?z_isinstance ?z_len ?z_max ?z_min ?z_range ?z_str ?z_tuple ?i_gcd ?c_COMMON ?c_MOST_STEPS
    (case gc_DialError => k_is); (case xL_DialError => k_is); (case sa_DialError => k_is); (case eC_DialError => k_is); (case tC_DialError => k_is); (case kC_DialError => k_is); (case ga_DialError => k_is); (case gg_DialError => k_is); (case hC_DialError => k_is); (case ys_DialError => k_is); (case yr_DialError => k_is); (case yf_DialError => k_is); (case gc_NotPlace => k_is); (case xL_NotPlace => k_is); (case sa_NotPlace => k_is); (case eC_NotPlace => k_is); (case tC_NotPlace => k_is); (case kC_NotPlace => k_is); (case ga_NotPlace => k_is); (case gg_NotPlace => k_is); (case hC_NotPlace => k_is); (case xq_NotPlace => first | k_exc | k_is); (case gc_NotText => k_is); (case xL_NotText => k_is); (case sa_NotText => k_is); (case eC_NotText => k_is); (case tC_NotText => k_is); (case kC_NotText => k_is); (case ga_NotText => k_is); (case gg_NotText => k_is); (case hC_NotText => k_is); (case iC_NotText => k_is); (case tI_NotText => k_is); (case n_NotText_place => k_is); (case gc_NotPair => k_is); (case xL_NotPair => k_is); (case sa_NotPair => k_is); (case eC_NotPair => k_is); (case tC_NotPair => k_is); (case kC_NotPair => k_is); (case ga_NotPair => k_is); (case gg_NotPair => k_is); (case hC_NotPair => k_is); (case gc_TooMany => k_is); (case xL_TooMany => k_is); (case sa_TooMany => k_is); (case eC_TooMany => k_is); (case tC_TooMany => k_is); (case kC_TooMany => k_is); (case ga_TooMany => k_is); (case gg_TooMany => k_is); (case hC_TooMany => k_is); (case iC_TooMany => k_is); (case tI_TooMany => k_is); (case n_TooMany_limit => k_is); (case e_NotPlace_DialError => first | rfl | k_is); (case hnG => k_is); (case htG => k_is); (case ha_NotPlace => k_is); (case hm_NotPlace => k_is); (case iL_NotPair => k_is); (case e_NotPlace_NotPair => first | rfl | k_is); (case ne_NotPlace_NotPair => first | decide | k_is); (case iL_NotPlace => k_is); (case e_NotPlace_NotPlace => first | rfl | k_is); (case iL_NotText => k_is); (case e_NotPlace_NotText => first | rfl | k_is); (case ne_NotPlace_NotText => first | decide | k_is); (case iL_TooMany => k_is); (case e_NotPlace_TooMany => first | rfl | k_is); (case ne_NotPlace_TooMany => first | decide | k_is); (case et_NotPlace_ValueError => first | rfl | k_is); (case iL_DialError => k_is); (case l_NotText__init => k_is); (case c_NotText__init => k_is); (case k_NotText__init => k_is); (case l_TooMany__init => k_is); (case c_TooMany__init => k_is); (case k_TooMany__init => k_is); (case a_is_whole => k_is); (case l_is_whole => k_is); (case c_is_whole => k_is); (case k_is_whole => k_is); (case a_reduced => k_is); (case l_reduced => k_is); (case c_reduced => k_is); (case k_reduced => k_is); (case a_check_place => k_is); (case l_check_place => k_is); (case c_check_place => k_is); (case k_check_place => k_is); (case a_is_place => k_is); (case l_is_place => k_is); (case c_is_place => k_is); (case k_is_place => k_is); (case a_place => k_is); (case l_place => k_is); (case c_place => k_is); (case k_place => k_is); (case a__is_in_reach => k_is); (case l__is_in_reach => k_is); (case c__is_in_reach => k_is); (case k__is_in_reach => k_is); (case a__twos => k_is); (case l__twos => k_is); (case c__twos => k_is); (case k__twos => k_is); (case a__order => k_is); (case l__order => k_is); (case c__order => k_is); (case k__order => k_is); (case a__law_begun => k_is); (case l__law_begun => k_is); (case c__law_begun => k_is); (case k__law_begun => k_is); (case a__law_draw => k_is); (case l__law_draw => k_is); (case c__law_draw => k_is); (case k__law_draw => k_is); (case a__law_of => k_is); (case l__law_of => k_is); (case c__law_of => k_is); (case k__law_of => k_is); (case a__law_twos => k_is); (case l__law_twos => k_is); (case c__law_twos => k_is); (case k__law_twos => k_is); (case a__law_shared => k_is); (case l__law_shared => k_is); (case c__law_shared => k_is); (case k__law_shared => k_is); (case a__law_ratio => k_is); (case l__law_ratio => k_is); (case c__law_ratio => k_is); (case k__law_ratio => k_is); (case a__law_double => k_is); (case l__law_double => k_is); (case c__law_double => k_is); (case k__law_double => k_is); (case a__law_binary => k_is); (case l__law_binary => k_is); (case c__law_binary => k_is); (case k__law_binary => k_is); (case a__law_string => k_is); (case l__law_string => k_is); (case c__law_string => k_is); (case k__law_string => k_is); (case a__law_place => k_is); (case l__law_place => k_is); (case c__law_place => k_is); (case k__law_place => k_is); (case a__law_any_place => k_is); (case l__law_any_place => k_is); (case c__law_any_place => k_is); (case k__law_any_place => k_is); (case a__law_steps => k_is); (case l__law_steps => k_is); (case c__law_steps => k_is); (case k__law_steps => k_is); (case a__law_is_place => k_is); (case l__law_is_place => k_is); (case c__law_is_place => k_is); (case k__law_is_place => k_is); (case a__law_told => k_is); (case l__law_told => k_is); (case c__law_told => k_is); (case k__law_told => k_is); (case a__law_plain => k_is); (case l__law_plain => k_is); (case c__law_plain => k_is); (case k__law_plain => k_is); (case a__law_bottoms => k_is); (case l__law_bottoms => k_is); (case c__law_bottoms => k_is); (case k__law_bottoms => k_is); (case a_law => k_is); (case l_law => k_is); (case c_law => k_is); (case k_law => k_is); (case z_ValueError => k_is); (case z_abs => k_is); (case z_bool => k_is); (case z_divmod => k_is); (case z_int => k_is); (case z_isinstance => k_is); (case z_len => k_is); (case z_max => k_is); (case z_min => k_is); (case z_range => k_is); (case z_str => k_is); (case z_tuple => k_is); (case i_gcd => k_is); (case c_COMMON => k_is); (case c_MOST_STEPS => k_is)
    (case tC => first | rfl | kernel_rfl); (case tN => first | rfl | kernel_rfl)
