import PyProof.Rows.All
import Wide.All
import OpenK.AllK
import Wide.FinOn
import HandS.ForMost
import HandS.Wide
import HandS.WideBits
import HandS.Gcd
import HandS.EndBits
import HandS.Steps
import HandS.Style
import HandS.IsInst
import HandS.Deep
import HandS.StrMore
import HandS.SortRule
import HandS.TupSets
import HandS.ExcInit
import HandS.ExcOwn
import HandS.ExcField
import HandS.FStr
import HandS.TryOnly
import HandS.ForSpec
import HandS.ExcIs
import HandS.Lambda
import KE.KBits
import HandS.TupAny
import HandS.Zip
import KE.GoesMore
import PySem.Challenge.RW_twicedial_k56_star_words_judged
set_option Elab.async false
set_option linter.all false
set_option maxRecDepth 100000
set_option maxHeartbeats 8000000
namespace Tw
open PySem PySem.Spec PyProof.Rows L2
/-! ### heaps: what stays -/
/-- all tracked objects but dicts stay -/
def Keep (H H' : Hp) : Prop := ∀ b o, (∀ kvs, o ≠ .dK kvs) → H b = some o → H' b = some o
theorem Keep.refl (H : Hp) : Keep H H := fun _ _ _ h => h
theorem Keep.of {H H' : Hp} (e : Same H H') : Keep H H' := fun b o _ h => e b o h
theorem Keep.trans {H H1 H2 : Hp} (a : Keep H H1) (b : Keep H1 H2) : Keep H H2 := fun c o n h => b c o n (a c o n h)
theorem Keep.rd {H H' : Hp} {a : Addr} {u : HO} (e : Keep H H') (n : ∀ kvs, u ≠ .dK kvs) (h : Rd H a u) : Rd H' a u := by
  rcases h with h | ⟨o, h⟩
  · exact .inl (e a _ n h)
  · exact .inr ⟨o, e a _ (fun kvs z => nomatch z) h⟩
theorem Keep.seqL {K : PySem.W.Frag} {H H' : Hp} {a : Addr} {xs : List V} (e : Keep H H') (h : SqL K H a xs) : SqL K H' a xs := by
  rcases h with h | h
  · exact .inl (e.rd (fun _ z => nomatch z) h)
  · exact .inr h
theorem Keep.seqT {K : PySem.W.Frag} {H H' : Hp} {a : Addr} {xs : List V} (e : Keep H H') (h : SqT K H a xs) : SqT K H' a xs := by
  rcases h with h | h
  · exact .inl (e.rd (fun _ z => nomatch z) h)
  · exact .inr h
theorem Keep.l {H H' : Hp} {a : Addr} {xs : List V} (e : Keep H H') (h : H a = some (.lst xs)) : H' a = some (.lst xs) := e a _ (fun _ z => nomatch z) h
theorem Keep.t {H H' : Hp} {a : Addr} {xs : List V} (e : Keep H H') (h : H a = some (.tup xs)) : H' a = some (.tup xs) := e a _ (fun _ z => nomatch z) h
theorem len_ok {n : Nat} (h : n ≤ 1000) : n ≤ sizeLine := Nat.le_trans h (by decide)
theorem len_lt {n : Nat} (h : n ≤ 1000) : n < sizeLine := Nat.lt_of_le_of_lt h (by decide)
theorem same_new {H : Hp} {p : Addr} {o : HO} (h : H p = none) : Same H (upd H p o) := fun b x e => by
  rw [upd_ne (ne_of_none e h)]; exact e
/-- an object that H does not know may change -/
theorem same_mut {H H' : Hp} {p : Addr} {o : HO} (e : Same H H') (h : H p = none) : Same H (upd H' p o) := fun a u ha => by
  rw [upd_ne (ne_of_none ha h)]; exact e a u ha
theorem keep_mut {H H' : Hp} {p : Addr} {o : HO} (e : Keep H H') (h : H p = none) : Keep H (upd H' p o) := fun a u n ha => by
  rw [upd_ne (ne_of_none ha h)]; exact e a u n ha
theorem keep_dict {H : Hp} {m : Addr} {kvs : List (Key × V)} {o : HO} (h : H m = some (.dK kvs)) : Keep H (upd H m o) := fun b u n e => by
  rw [upd_ne]
  · exact e
  · intro z; subst z; rw [h] at e; exact n kvs (Option.some.inj e).symm
theorem keep_free {H H' : Hp} (e : Same H H') {l : Addr} (h : H' l = none) : H l = none := e.free h

/-! ### data -/
abbrev Dt := PyData
mutual
theorem Dpk {K : PySem.W.Frag} {H H' : Hp} (e : Keep H H') : ∀ (d : PyData) (v : V), Dp K H v d → Dp K H' v d
  | .none, _, h => by cases h; exact .non
  | .bool b, _, h => by cases h; exact .bl b
  | .int i, _, h => by cases h; exact .int i
  | .str x, _, h => by cases h; exact .str x
  | .list ds, _, h => by
    cases h with
    | lst hs ha => exact .lst (e.seqL hs) (DpkAll e ds _ ha)
  | .tuple ds, _, h => by
    cases h with
    | tup hs ha => exact .tup (e.seqT hs) (DpkAll e ds _ ha)
  | .dict _, _, h => by cases h
theorem DpkAll {K : PySem.W.Frag} {H H' : Hp} (e : Keep H H') : ∀ (ds : List PyData) (vs : List V), DpAll K H vs ds → DpAll K H' vs ds
  | [], _, h => by cases h; exact .nil
  | d :: ds, _, h => by
    cases h with
    | cons h1 h2 => exact .cons (Dpk e d _ h1) (DpkAll e ds _ h2)
end
section
variable {K : PySem.W.Frag} {H H' : Hp} {v : V} {d : PyData} {vs : List V} {ds : List PyData} {a p : Addr} {xs : List V}
theorem dp_keep (e : Keep H H') (h : Dp K H v d) : Dp K H' v d := Dpk e d v h
theorem dp_same (e : Same H H') (h : Dp K H v d) : Dp K H' v d := Dpk (Keep.of e) d v h
theorem dpa_keep (e : Keep H H') (h : DpAll K H vs ds) : DpAll K H' vs ds := DpkAll e ds vs h
theorem dpa_same (e : Same H H') (h : DpAll K H vs ds) : DpAll K H' vs ds := DpkAll (Keep.of e) ds vs h
theorem dp_int {i : Int} (h : Dp K H v (.int i)) : v = .int i := by cases h; rfl
theorem dp_str {i : Str} (h : Dp K H v (.str i)) : v = .str i := by cases h; rfl
theorem dp_bl {i : Bool} (h : Dp K H v (.bool i)) : v = .bl i := by cases h; rfl
theorem dp_non (h : Dp K H v .none) : v = .non := by cases h; rfl
theorem dp_tup (h : Dp K H v (.tuple ds)) : ∃ a xs, v = .ref a ∧ SqT K H a xs ∧ DpAll K H xs ds := by
  cases h with
  | tup hs ha => exact ⟨_, _, rfl, hs, ha⟩
theorem dp_lst (h : Dp K H v (.list ds)) : ∃ a xs, v = .ref a ∧ SqL K H a xs ∧ DpAll K H xs ds := by
  cases h with
  | lst hs ha => exact ⟨_, _, rfl, hs, ha⟩
theorem dpa_len : ∀ {vs : List V} {ds : List PyData}, DpAll K H vs ds → vs.length = ds.length
  | _, [], h => by cases h; rfl
  | _, d :: ds, h => by
    cases h with
    | cons h1 h2 => simp [dpa_len h2]
theorem dpa_get : ∀ {vs : List V} {ds : List PyData} {i : Nat} {d : PyData}, DpAll K H vs ds → ds[i]? = some d → ∃ v, vs[i]? = some v ∧ Dp K H v d
  | _, [], i, d, h, e => by simp at e
  | _, d0 :: ds, 0, d, h, e => by
    cases h with
    | cons h1 h2 => simp at e; subst e; exact ⟨_, rfl, h1⟩
  | _, d0 :: ds, i + 1, d, h, e => by
    cases h with
    | cons h1 h2 =>
      obtain ⟨v, e1, e2⟩ := dpa_get (i := i) h2 (by simpa using e)
      exact ⟨v, by simpa using e1, e2⟩
theorem dpa_get2 : ∀ {vs : List V} {ds : List PyData} {i : Nat} {v : V}, DpAll K H vs ds → vs[i]? = some v → ∃ d, ds[i]? = some d ∧ Dp K H v d := fun {vs ds i v} h e => by
  have hi : i < ds.length := by
    rw [← dpa_len h]; exact (List.getElem?_eq_some_iff.mp e).1
  obtain ⟨v', e1, e2⟩ := dpa_get h (List.getElem?_eq_getElem hi)
  rw [e] at e1
  cases e1
  exact ⟨_, List.getElem?_eq_getElem hi, e2⟩
theorem dpa_app : ∀ {vs : List V} {ds : List PyData} {ws : List V} {es : List PyData}, DpAll K H vs ds → DpAll K H ws es → DpAll K H (vs ++ ws) (ds ++ es)
  | _, [], _, _, h, g => by cases h; exact g
  | _, d :: ds, _, _, h, g => by
    cases h with
    | cons h1 h2 => exact .cons h1 (dpa_app h2 g)
theorem dpa_one (h : Dp K H v d) : DpAll K H [v] [d] := .cons h .nil
theorem dpa_take : ∀ {vs : List V} {ds : List PyData} (n : Nat), DpAll K H vs ds → DpAll K H (vs.take n) (ds.take n)
  | _, _, 0, h => by simp; exact .nil
  | _, [], n + 1, h => by cases h; exact .nil
  | _, d :: ds, n + 1, h => by
    cases h with
    | cons h1 h2 => exact .cons h1 (dpa_take n h2)
theorem dpa_drop : ∀ {vs : List V} {ds : List PyData} (n : Nat), DpAll K H vs ds → DpAll K H (vs.drop n) (ds.drop n)
  | _, _, 0, h => h
  | _, [], n + 1, h => by cases h; exact .nil
  | _, d :: ds, n + 1, h => by
    cases h with
    | cons h1 h2 => exact dpa_drop n h2
theorem dpa_ints : ∀ (ns : List Int), DpAll K H (ns.map V.int) (ns.map PyData.int)
  | [] => .nil
  | n :: ns => .cons (.int n) (dpa_ints ns)
theorem dpa_ints_inv : ∀ {vs : List V} {ns : List Int}, DpAll K H vs (ns.map PyData.int) → vs = ns.map V.int
  | _, [], h => by cases h; rfl
  | _, n :: ns, h => by
    cases h with
    | cons h1 h2 => cases h1; rw [dpa_ints_inv h2]; rfl
theorem dpa_strs : ∀ (ns : List Str), DpAll K H (ns.map V.str) (ns.map PyData.str)
  | [] => .nil
  | n :: ns => .cons (.str n) (dpa_strs ns)
theorem dpa_strs_inv : ∀ {vs : List V} {ns : List Str}, DpAll K H vs (ns.map PyData.str) → vs = ns.map V.str
  | _, [], h => by cases h; rfl
  | _, n :: ns, h => by
    cases h with
    | cons h1 h2 => cases h1; rw [dpa_strs_inv h2]; rfl
theorem dp_newL (h : H a = some (.lst xs)) (g : DpAll K H xs ds) : Dp K H (.ref a) (.list ds) := .lst (.of h) g
theorem dp_newT (h : H a = some (.tup xs)) (g : DpAll K H xs ds) : Dp K H (.ref a) (.tuple ds) := .tup (.of h) g
end

/-! ### readings, step by step -/
def rB (x : V) (H : Hp) (Q : Bool → Hp → Prop) : Prop := ∃ k, x = .bl k ∧ Q k H
def rBV (x : V) (A : Bool → Prop) : Prop := ∃ c, x = .bl c ∧ A c
def rDG (x y : V) (H : Hp) (Q : VK) : Prop := ∃ a v, x = .ref a ∧ DGet H a y (some v) ∧ Q v H
def rDP (x y v : V) (H : Hp) (Q : Hp → Prop) : Prop := ∃ a H4, x = .ref a ∧ DPut H a y v H4 ∧ Q H4
def r2V (vs : List V) (A : V → V → Prop) : Prop := ∃ v w, vs = [v, w] ∧ A v w
def rNewT (xs : List V) (H : Hp) (Q : VK) : Prop := xs.length ≤ sizeLine ∧ ∀ p, H p = none → Q (.ref p) (upd H p (.tup xs))
def rNewL (xs : List V) (H : Hp) (Q : VK) : Prop := xs.length ≤ sizeLine ∧ ∀ p, H p = none → Q (.ref p) (upd H p (.lst xs))
def rPI (x : V) (A : Option Int → Prop) : Prop := ∃ i, x = .int i ∧ A (some i)
section
variable {K : PySem.W.Frag} {σ : L2.St} {H : Hp} {Q : VK} {D : Ends} {v x y z : V} {i : Nat} {ta tb tc te : TE} {t u : TS} {c : TT} {g : TG} {tn : TA} {r : R2}
theorem w_seq (h : t { D with nx := u D } σ H) : tSeq t u D σ H := h
theorem w_next (h : D.nx σ H) : tNext D σ H := h
theorem w_asg (h : te σ H fun x H1 => D.nx (σ.set i (some x)) H1) : tAsg te (gName i) D σ H := h
theorem w_asgG (h : te σ H fun x H1 => g x σ H1 D.nx) : tAsg te g D σ H := h
theorem w_drop (h : te σ H fun _ H1 => D.nx σ H1) : tDrop te D σ H := h
theorem w_ret (h : te σ H D.rt) : tRet te D σ H := h
theorem w_retN (h : D.rt .non H) : tRetN D σ H := h
theorem w_brk (h : D.bk σ H) : tBreak D σ H := h
theorem w_cont (h : D.ct σ H) : tCont D σ H := h
theorem w_ifS (h : c σ H fun b H1 => if b = true then t D σ H1 else u D σ H1) : tIfS c t u D σ H := h
theorem w_var (h : σ[i]? = some (some v)) (q : Q v H) : tVar i σ H Q := ⟨v, h, q⟩
theorem w_c (q : Q v H) : tC v σ H Q := q
theorem w_op (h : ta σ H fun x H1 => tb σ H1 fun y H2 => r x y H2 Q) : tOp r ta tb σ H Q := h
theorem w_un {r : V → Hp → VK → Prop} (h : ta σ H fun x H1 => r x H1 Q) : tUn r ta σ H Q := h
theorem w_rI0 {g : Int → Int → V} {i j : Int} (q : Q (g i j) H) : rI0 g (.int i) (.int j) H Q := ⟨i, j, rfl, rfl, q⟩
theorem w_rI {C : Int → Int → Prop} {g : Int → Int → V} {i j : Int} (hc : C i j) (q : Q (g i j) H) : rI C g (.int i) (.int j) H Q := ⟨i, j, rfl, rfl, hc, q⟩
theorem w_rU {g : Int → V} {i : Int} (q : Q (g i) H) : rU g (.int i) H Q := ⟨i, rfl, q⟩
theorem w_eqI {i j : Int} (q : Q (.bl (decide (i = j))) H) : rEq (.int i) (.int j) H Q := ⟨rfl, by
  rw [dec_int, show (i == j) = decide (i = j) from rfl]; exact q⟩
theorem w_neI {i j : Int} (q : Q (.bl (!decide (i = j))) H) : rNe (.int i) (.int j) H Q := ⟨rfl, by
  rw [dec_int, show (i == j) = decide (i = j) from rfl]; exact q⟩
theorem w_rEq (hs : scal x y = true) (q : Q (.bl (decide (x = y))) H) : rEq x y H Q := ⟨hs, q⟩
theorem w_rNe (hs : scal x y = true) (q : Q (.bl (!decide (x = y))) H) : rNe x y H Q := ⟨hs, q⟩
theorem w_tI (h : c σ H fun b H1 => if b = true then ta σ H1 Q else tb σ H1 Q) : tIf c ta tb σ H Q := h
theorem w_tTest {Q : Bool → Hp → Prop} (h : te σ H fun x H' => rB x H' Q) : tTest te σ H Q := h
theorem w_tB {Q : Bool → Hp → Prop} (h : te σ H fun x H' => rB x H' Q) : tB te σ H Q := h
theorem w_bl {b : Bool} {Q : Bool → Hp → Prop} (h : Q b H) : rB (.bl b) H Q := ⟨b, rfl, h⟩
theorem w_blV {b : Bool} {A : Bool → Prop} (h : A b) : rBV (.bl b) A := ⟨b, rfl, h⟩
theorem w_and {t u : TT} {Q : Bool → Hp → Prop} (h : t σ H fun c H1 => if c = true then u σ H1 Q else Q false H1) : tAnd t u σ H Q := h
theorem w_or {t u : TT} {Q : Bool → Hp → Prop} (h : t σ H fun c H1 => if c = true then Q true H1 else u σ H1 Q) : tOr t u σ H Q := h
theorem w_not {t : TT} {Q : Bool → Hp → Prop} (h : t σ H fun c H1 => Q (!c) H1) : tNot t σ H Q := h
theorem w_andV (h : ta σ H fun x H1 => rBV x fun c => if c = true then tb σ H1 Q else Q (.bl false) H1) : tAndV ta tb σ H Q := h
theorem w_orV (h : ta σ H fun x H1 => rBV x fun c => if c = true then Q (.bl true) H1 else tb σ H1 Q) : tOrV ta tb σ H Q := h
theorem w_notV (h : ta σ H fun x H1 => rBV x fun c => Q (.bl (!c)) H1) : tNotV ta σ H Q := h
theorem w_chain {r r' : R2} (h : ta σ H fun x H1 => tb σ H1 fun y H2 => r x y H2 fun z H3 => rBV z fun k => if k = true then tc σ H3 fun w' H4 => r' y w' H4 Q else Q (.bl false) H3) : tChain r r' ta tb tc σ H Q := h
theorem w_nil {Q : List V → Hp → Prop} (q : Q [] H) : tNil σ H Q := q
theorem w_cons {Q : List V → Hp → Prop} (h : ta σ H fun x H1 => tn σ H1 fun xs H2 => Q (x :: xs) H2) : tCons ta tn σ H Q := h
theorem w_call {sp : Sp} {dvs : List V} {E : XK} (h : tn σ H fun vs H1 => sp (vs ++ dvs) H1 Q E) : tCall sp dvs E tn σ H Q := h
theorem w_cb {r : List V → Hp → VK → Prop} (h : tn σ H fun vs H1 => r vs H1 Q) : tCB r tn σ H Q := h
theorem w_tup (h : tn σ H fun xs H1 => rNewT xs H1 Q) : tTup tn σ H Q := h
theorem w_lst (h : tn σ H fun xs H1 => rNewL xs H1 Q) : tLst tn σ H Q := h
theorem w_newT {xs : List V} {ds : List PyData} (hl : xs.length ≤ sizeLine) (hd : DpAll K H xs ds) (q : ∀ p H', H p = none → Same H H' → Dp K H' (.ref p) (.tuple ds) → Q (.ref p) H') :
    rNewT xs H Q :=
  ⟨hl, fun p hp => q p _ hp (same_new hp) (dp_newT upd_same (dpa_same (same_new hp) hd))⟩
theorem w_newL {xs : List V} {ds : List PyData} (hl : xs.length ≤ sizeLine) (hd : DpAll K H xs ds) (q : ∀ p H', H p = none → Same H H' → H' p = some (.lst xs) → Dp K H' (.ref p) (.list ds) → Q (.ref p) H') :
    rNewL xs H Q :=
  ⟨hl, fun p hp => q p _ hp (same_new hp) upd_same (dp_newL upd_same (dpa_same (same_new hp) hd))⟩
theorem w_ite {b : Bool} {A B : Prop} (h1 : b = true → A) (h2 : b = false → B) : if b = true then A else B := by
  cases b with
  | true => rw [if_pos rfl]; exact h1 rfl
  | false => rw [if_neg Bool.false_ne_true]; exact h2 rfl
theorem w_iteD {P : Prop} [Decidable P] {A B : Prop} (h1 : P → A) (h2 : ¬ P → B) : if decide P = true then A else B := by
  by_cases h : P
  · rw [if_pos (decide_eq_true h)]; exact h1 h
  · rw [if_neg (by simpa using h)]; exact h2 h
theorem w_iteND {P : Prop} [Decidable P] {A B : Prop} (h1 : ¬ P → A) (h2 : P → B) : if (!decide P) = true then A else B := by
  by_cases h : P
  · rw [decide_eq_true h]; simpa using h2 h
  · rw [decide_eq_false h]; simpa using h1 h
theorem w_iteT {A B : Prop} (h : A) : if true = true then A else B := by rw [if_pos rfl]; exact h
theorem w_iteNT {A B : Prop} (h : B) : if (!true) = true then A else B := by rw [Bool.not_true, if_neg Bool.false_ne_true]; exact h
theorem w_iteNF {A B : Prop} (h : A) : if (!false) = true then A else B := by rw [Bool.not_false, if_pos rfl]; exact h
theorem w_iteF {A B : Prop} (h : B) : if false = true then A else B := by rw [if_neg Bool.false_ne_true]; exact h
end
end Tw
namespace Tw
open PySem PySem.Spec PyProof.Rows L2
/-! ### rules by data -/
section
variable {X : Cx}
def rLen (K : PySem.W.Frag) : List V → Hp → VK → Prop := fun xs H Q => ∃ x n, xs = [x] ∧ LenV K x H n ∧ Q (.int n) H
theorem cl_len {K : PySem.W.Frag} (h : X.K = K := by rfl) : CallR X (.builtin "len") (rLen K) := h ▸ call_len
def rInt : List V → Hp → VK → Prop := fun xs H Q => (∃ i, xs = [.int i] ∧ Q (.int i) H) ∨ ∃ k, xs = [.bl k] ∧ Q (.int (if k then 1 else 0)) H
theorem cl_int : CallR X (.type "int") rInt := call_int1
def rStrI : List V → Hp → VK → Prop := fun xs H Q => ∃ i, xs = [.int i] ∧ i.natAbs.log2 < 1920 ∧ Q (.str (toString i)) H
theorem cl_strI : CallR X (.type "str") rStrI := call_str_int
def rTupOf (K : PySem.W.Frag) : List V → Hp → VK → Prop := fun xs H Q => ∃ p ys, xs = [.ref p] ∧ ((SqL K H p ys ∧ ∀ l, H l = none → Q (.ref l) (upd H l (.tup ys))) ∨ (SqT K H p ys ∧ Q (.ref p) H))
def rMax2 : List V → Hp → VK → Prop := fun xs H Q => ∃ i j, xs = [.int i, .int j] ∧ Q (.int (if j > i then j else i)) H
theorem cl_max2 (hc : X.calm = true) : CallR X (.builtin "max") rMax2 := call_max2 hc
def rMin2 : List V → Hp → VK → Prop := fun xs H Q => ∃ i j, xs = [.int i, .int j] ∧ Q (.int (if j < i then j else i)) H
theorem cl_min2 (hc : X.calm = true) : CallR X (.builtin "min") rMin2 := call_min2 hc
theorem pe_cint {x : Str} {pos : Pos} {i : Int} {t : Tok} (hg : Gl X x) (hm : X.mg x = some (.int i t)) (hd : (x == ("__debug__" : Str)) = false := by decide) : PE X (.Name x pos) (tC (.int i)) := pe_glob hg hm (show RelV (.int i) _ from ⟨t, rfl⟩) hd
theorem cl_tup {K : PySem.W.Frag} (h : X.K = K := by rfl) : CallR X (.type "tuple") (rTupOf K) := h ▸ call_tuple_of
def rLstOf (K : PySem.W.Frag) : List V → Hp → VK → Prop := fun xs H Q => ∃ p ys, xs = [.ref p] ∧ (SqL K H p ys ∨ SqT K H p ys) ∧ ∀ l, H l = none → Q (.ref l) (upd H l (.lst ys))
theorem cl_lst {K : PySem.W.Frag} (h : X.K = K := by rfl) : CallR X (.type "list") (rLstOf K) := h ▸ call_list_of
theorem ix_listK {K : PySem.W.Frag} (h : X.K = K := by rfl) : IxR X (rIxL K) := h ▸ ix_list
theorem ix_tupK {K : PySem.W.Frag} (h : X.K = K := by rfl) : IxR X (rIxT K) := h ▸ ix_tup
theorem op_eqK {K : PySem.W.Frag} (hu : X.A.units + 64 < cLine) (h : X.K = K := by rfl) : OpR X (compareOp .Eq) (rEqD K) := h ▸ op_eqD hu
theorem op_neK {K : PySem.W.Frag} (hu : X.A.units + 64 < cLine) (h : X.K = K := by rfl) : OpR X (compareOp .NotEq) (rNeD K) := h ▸ op_neD hu
theorem sl_listK {K : PySem.W.Frag} (h : X.K = K := by rfl) : SlR X (rSlL K) := h ▸ sl_list
theorem pi_listK {K : PySem.W.Frag} {tg l : Expr} {tl : TE} (hl : PE X l tl) (h : X.K = K := by rfl) : PI X tg l (iList K tl) := h ▸ pi_list hl
theorem pi_tupK {K : PySem.W.Frag} {tg l : Expr} {tl : TE} (hl : PE X l tl) (h : X.K = K := by rfl) : PI X tg l (iTup K tl) := h ▸ pi_tup hl
def rAddStr : R2 := fun x y H Q => ∃ i j, x = .str i ∧ y = .str j ∧ i.length + j.length ≤ sizeLine ∧ Q (.str (i ++ j)) H
theorem op_addS : OpR X (binaryOp .Add) rAddStr := op_add_str
theorem op_catL : OpR X (binaryOp .Add) rCat := op_cat
def rJoin (K : PySem.W.Frag) : V → List V → Hp → VK → Prop := fun x xs H Q => ∃ a p, ∃ ys : List Str, x = .str a ∧ xs = [.ref p] ∧ (SqL K H p (ys.map V.str) ∨ SqT K H p (ys.map V.str)) ∧ (ys.map (·.length)).sum + ys.length * a.length ≤ 16777216 ∧ Q (.str (Txt.join a ys)) H
def tTru (K : PySem.W.Frag) (ta : TE) : TT := fun σ H Q => ta σ H fun x H' => ∃ k, TruV K x H' k ∧ Q k H'
theorem pt_tru {K : PySem.W.Frag} {a : Expr} {ta : TE} (ha : PE X a ta) (he : ∀ whole, isTrue a X.env whole = (do let v ← whole; standAt a.pos; holding [v] (truthy v))) (h : X.K = K := by rfl) : PT X a (tTru K ta) := h ▸ pt_truth ha he
end
end Tw

namespace Tw
open PySem PySem.Spec PyProof.Rows L2
section
variable {X : Cx}
theorem pe_joinD {K : PySem.W.Frag} {o e : Expr} {to te : TE} {apos pos : Pos} (ho : PE X o to) (he : PE X e te) (h : X.K = K := by rfl) (hs : starEach [e] X.env = [(false, eval e X.env)] := by rfl) (hbase : attributeBase o "join" X.env (eval o X.env) = eval o X.env := by rfl) (hline : (apos.endLine == pos.line) = true := by rfl) :
    PE X (.Call (.Attribute o "join" apos) [e] [] pos) (tM1 (rJoin K) to te) := h ▸ pe_join ho he hs hbase hline
end
section
variable {K : PySem.W.Frag} {σ : L2.St} {H : Hp} {Q : VK} {D : Ends} {v x y z : V} {d e : PyData} {ds es : List PyData} {i : Nat} {to ta tb tc te : TE} {t u : TS} {tn : TA}
theorem w_lenL (h : Dp K H v (.list ds)) (q : Q (.int (ds.length : Int)) H) : rLen K [v] H Q := by
  obtain ⟨a, xs, rfl, hs, ha⟩ := dp_lst h
  exact ⟨.ref a, ds.length, rfl, .inl ⟨xs, hs, (dpa_len ha).symm⟩, q⟩
theorem w_lenT (h : Dp K H v (.tuple ds)) (q : Q (.int (ds.length : Int)) H) : rLen K [v] H Q := by
  obtain ⟨a, xs, rfl, hs, ha⟩ := dp_tup h
  exact ⟨.ref a, ds.length, rfl, .inr ⟨xs, hs, (dpa_len ha).symm⟩, q⟩
theorem w_lenS {x : Str} (h : x.length ≤ sizeLine) (q : Q (.int (x.length : Int)) H) : rLen K [.str x] H Q := ⟨.str x, x.length, rfl, ⟨h, rfl⟩, q⟩
theorem w_int {n : Int} (q : Q (.int n) H) : rInt [.int n] H Q := .inl ⟨n, rfl, q⟩
theorem w_strI {n : Int} (h : n.natAbs.log2 < 1920) (q : Q (.str (toString n)) H) : rStrI [.int n] H Q := ⟨n, rfl, h, q⟩
theorem w_max2 {i j : Int} (q : ∀ r, r = max i j → Q (.int r) H) : rMax2 [.int i, .int j] H Q := ⟨i, j, rfl, q _ (by split <;> omega)⟩
theorem w_min2 {i j : Int} (q : ∀ r, r = min i j → Q (.int r) H) : rMin2 [.int i, .int j] H Q := ⟨i, j, rfl, q _ (by split <;> omega)⟩
theorem w_tupOf (h : Dp K H v (.list ds)) (q : ∀ p H', H p = none → Same H H' → Dp K H' (.ref p) (.tuple ds) → Q (.ref p) H') : rTupOf K [v] H Q := by
  obtain ⟨a, xs, rfl, hs, ha⟩ := dp_lst h
  exact ⟨a, xs, rfl, .inl ⟨hs, fun l hl => q l _ hl (same_new hl) (dp_newT upd_same (dpa_same (same_new hl) ha))⟩⟩
theorem w_tupOfT (h : Dp K H v (.tuple ds)) (q : ∀ v, Dp K H v (.tuple ds) → Q v H) : rTupOf K [v] H Q := by
  obtain ⟨a, xs, rfl, hs, ha⟩ := dp_tup h
  exact ⟨a, xs, rfl, .inr ⟨hs, q _ h⟩⟩
theorem w_lstOfT (h : Dp K H v (.tuple ds)) (q : ∀ p H' xs, H p = none → Same H H' → H' p = some (.lst xs) → Dp K H' (.ref p) (.list ds) → Q (.ref p) H') : rLstOf K [v] H Q := by
  obtain ⟨a, xs, rfl, hs, ha⟩ := dp_tup h
  exact ⟨a, xs, rfl, .inr hs, fun l hl => q l _ xs hl (same_new hl) upd_same (dp_newL upd_same (dpa_same (same_new hl) ha))⟩
theorem w_lstOfL (h : Dp K H v (.list ds)) (q : ∀ p H' xs, H p = none → Same H H' → H' p = some (.lst xs) → Dp K H' (.ref p) (.list ds) → Q (.ref p) H') : rLstOf K [v] H Q := by
  obtain ⟨a, xs, rfl, hs, ha⟩ := dp_lst h
  exact ⟨a, xs, rfl, .inl hs, fun l hl => q l _ xs hl (same_new hl) upd_same (dp_newL upd_same (dpa_same (same_new hl) ha))⟩
theorem w_addS {x y : Str} (h : x.length + y.length ≤ sizeLine) (q : Q (.str (x ++ y)) H) : rAddStr (.str x) (.str y) H Q := ⟨x, y, rfl, rfl, h, q⟩
/-- an item by a place that is known to be a number -/
theorem w_ixL {n : Int} {j : Nat} (h : Dp K H v (.list ds)) (hn : n = (j : Int)) (hd : ds[j]? = some d) (q : ∀ v', Dp K H v' d → Q v' H) : rIxL K v (.int n) H Q := by
  obtain ⟨a, xs, rfl, hs, ha⟩ := dp_lst h
  obtain ⟨v', e1, e2⟩ := dpa_get ha hd
  exact ⟨a, xs, n, v', rfl, rfl, hs, at_of hn e1, q v' e2⟩
theorem w_ixT {n : Int} {j : Nat} (h : Dp K H v (.tuple ds)) (hn : n = (j : Int)) (hd : ds[j]? = some d) (q : ∀ v', Dp K H v' d → Q v' H) : rIxT K v (.int n) H Q := by
  obtain ⟨a, xs, rfl, hs, ha⟩ := dp_tup h
  obtain ⟨v', e1, e2⟩ := dpa_get ha hd
  exact ⟨a, xs, n, v', rfl, rfl, hs, at_of hn e1, q v' e2⟩
theorem w_ixLI {n : Int} {ns : List Int} (h : Dp K H v (.list (ns.map PyData.int))) (h0 : 0 ≤ n) (h1 : n < (ns.length : Int)) (q : ∀ z, ns[n.toNat]? = some z → Q (.int z) H) : rIxL K v (.int n) H Q := by
  have hl : n.toNat < ns.length := by omega
  refine w_ixL (j := n.toNat) (d := .int ns[n.toNat]) h (by omega) (by simp [hl]) fun v' hv => ?_
  cases hv
  exact q _ (List.getElem?_eq_getElem hl)
theorem w_ixTI {n : Int} {ns : List Int} (h : Dp K H v (.tuple (ns.map PyData.int))) (h0 : 0 ≤ n) (h1 : n < (ns.length : Int)) (q : ∀ z, ns[n.toNat]? = some z → Q (.int z) H) : rIxT K v (.int n) H Q := by
  have hl : n.toNat < ns.length := by omega
  refine w_ixT (j := n.toNat) (d := .int ns[n.toNat]) h (by omega) (by simp [hl]) fun v' hv => ?_
  cases hv
  exact q _ (List.getElem?_eq_getElem hl)
theorem w_ixLast (h : Dp K H v (.list ds)) (hd : ds.getLast? = some d) (q : ∀ v', Dp K H v' d → Q v' H) : rIxL K v (.int (-1)) H Q := by
  obtain ⟨a, xs, rfl, hs, ha⟩ := dp_lst h
  rw [List.getLast?_eq_getElem?] at hd
  obtain ⟨v', e1, e2⟩ := dpa_get ha hd
  have hne : xs ≠ [] := fun z => by subst z; simp at e1
  have hx : xs = xs.dropLast ++ [xs.getLast hne] := (List.dropLast_concat_getLast hne).symm
  have e3 : v' = xs.getLast hne := by
    rw [← dpa_len ha, ← List.getLast?_eq_getElem?, List.getLast?_eq_getLast hne] at e1
    exact (Option.some.inj e1).symm
  refine ⟨a, xs, -1, v', rfl, rfl, hs, ?_, q v' e2⟩
  rw [hx, e3]; exact atI_last _ _
theorem w_ixLastT (h : Dp K H v (.tuple ds)) (hd : ds.getLast? = some d) (q : ∀ v', Dp K H v' d → Q v' H) : rIxT K v (.int (-1)) H Q := by
  obtain ⟨a, xs, rfl, hs, ha⟩ := dp_tup h
  rw [List.getLast?_eq_getElem?] at hd
  obtain ⟨v', e1, e2⟩ := dpa_get ha hd
  have hne : xs ≠ [] := fun z => by subst z; simp at e1
  have hx : xs = xs.dropLast ++ [xs.getLast hne] := (List.dropLast_concat_getLast hne).symm
  have e3 : v' = xs.getLast hne := by
    rw [← dpa_len ha, ← List.getLast?_eq_getElem?, List.getLast?_eq_getLast hne] at e1
    exact (Option.some.inj e1).symm
  refine ⟨a, xs, -1, v', rfl, rfl, hs, ?_, q v' e2⟩
  rw [hx, e3]; exact atI_last _ _
theorem w_ixS {s : Str} {n : Int} {j c : Nat} (hz : s.length ≤ sizeLine) (hn : n = (j : Int)) (hd : s.cps.toList[j]? = some c) (q : Q (.str ⟨#[c]⟩) H) : rIxS (.str s) (.int n) H Q :=
  ⟨s, n, c, rfl, rfl, hz, by rw [hn]; exact atI_nat hd, q⟩
theorem w_tIsN (q : Q (.bl (decide (x = .non))) H) : rIsN x .non H Q := ⟨rfl, q⟩
theorem w_tNotN (q : Q (.bl (!decide (x = .non))) H) : rNotN x .non H Q := ⟨rfl, q⟩
theorem w_bm {T : String} {r : V → List V → Hp → VK → Prop} (h : to σ H fun x H1 => tyV K T x H1 ∧ tn σ H1 fun xs H2 => r x xs H2 Q) : tBM K T r to tn σ H Q := h
theorem w_bm0 {T : String} {r : V → List V → Hp → VK → Prop} (h : to σ H fun x H1 => tyV K T x H1 ∧ r x [] H1 Q) : tBM0 K T r to σ H Q := h
theorem w_m1 {r : V → List V → Hp → VK → Prop} (h : to σ H fun x H1 => (∃ a, x = .str a) ∧ te σ H1 fun y H2 => r x [y] H2 Q) : tM1 r to te σ H Q := h
theorem w_isStr {s : Str} {A : Prop} (h : A) : (∃ a, V.str s = .str a) ∧ A := ⟨⟨s, rfl⟩, h⟩
theorem w_append {l : Addr} {xs : List V} (h : H l = some (.lst xs)) (hz : xs.length < sizeLine) (q : Q .non (upd H l (.lst (xs ++ [y])))) : rAppend (.ref l) [y] H Q := ⟨l, xs, y, rfl, rfl, h, hz, q⟩
theorem w_tyL {a : Addr} {xs : List V} {A : Prop} (h : H a = some (.lst xs)) (q : A) : tyV K "list" (.ref a) H ∧ A := ⟨.inl ⟨rfl, xs, .of h⟩, q⟩
theorem w_tyS {s : Str} {A : Prop} (q : A) : tyV K "str" (.str s) H ∧ A := ⟨rfl, q⟩
theorem w_join {s : Str} {ys : List Str} (h : Dp K H v (.list (ys.map PyData.str))) (hz : (ys.map (·.length)).sum + ys.length * s.length ≤ 16777216) (q : Q (.str (Txt.join s ys)) H) : rJoin K (.str s) [v] H Q := by
  obtain ⟨a, xs, rfl, hs, ha⟩ := dp_lst h
  rw [dpa_strs_inv ha] at hs
  exact ⟨s, a, ys, rfl, rfl, .inl hs, hz, q⟩
/-- a new list out of two -/
theorem w_catL {a b : Addr} {xs zs : List V} (h : H a = some (.lst xs)) (h' : H b = some (.lst zs)) (hz : xs.length + zs.length ≤ sizeLine) (q : ∀ p H', H p = none → Same H H' → H' p = some (.lst (xs ++ zs)) → Q (.ref p) H') : rCat (.ref a) (.ref b) H Q :=
  ⟨a, b, xs, zs, rfl, rfl, h, h', hz, fun p hp => q p _ hp (same_new hp) upd_same⟩
theorem w_dget {td ty : TE} (h : td σ H fun x H1 => ty σ H1 fun y H2 => rDG x y H2 Q) : tDGet td ty σ H Q := h
theorem w_dgS {k : Str} {kvs : List (Key × V)} {m : Addr} (h : H m = some (.dK kvs)) (e : valV kvs (.inr k) = some v) (q : Q v H) : rDG (.ref m) (.str k) H Q :=
  ⟨m, v, rfl, by rw [← e]; exact DGet.k (k := .inr k) h, q⟩
theorem w_dpS {k : Str} {kvs kvs' : List (Key × V)} {m : Addr} (h : H m = some (.dK kvs)) (e : putK kvs (.inr k) v = kvs') (hl : kvs.length < sizeLine) {Q : Hp → Prop} (q : ∀ H', Keep H H' → H' m = some (.dK kvs') → Q H') : rDP (.ref m) (.str k) v H Q := by
  subst e
  exact ⟨m, _, rfl, DPut.k (k := .inr k) h hl, q _ (keep_dict h) upd_same⟩
theorem w_dput {td ty tv : TE} (h : tv σ H fun v H1 => td σ H1 fun x H2 => ty σ H2 fun y H3 => rDP x y v H3 (D.nx σ)) : sDPut td ty tv D σ H := h
theorem w_par {a b : Nat} {ta : TA} (h : ta σ H fun vs H1 => r2V vs fun v w => D.nx ((σ.set a (some v)).set b (some w)) H1) : tPar a b ta D σ H := h
theorem w_par2 {v w : V} {A : V → V → Prop} (h : A v w) : r2V [v, w] A := ⟨v, w, rfl, h⟩
def r3V (vs : List V) (A : V → V → V → Prop) : Prop := ∃ u v w, vs = [u, v, w] ∧ A u v w
theorem w_par3 {a b c : Nat} {ta : TA} (h : ta σ H fun vs H1 => r3V vs fun u v w => D.nx (((σ.set a (some u)).set b (some v)).set c (some w)) H1) : tPar3 a b c ta D σ H := h
theorem w_par33 {u v w : V} {A : V → V → V → Prop} (h : A u v w) : r3V [u, v, w] A := ⟨u, v, w, rfl, h⟩
theorem w_eqB {a b : Bool} (q1 : a = b → Q (.bl true) H) (q2 : a ≠ b → Q (.bl false) H) : rEq (.bl a) (.bl b) H Q := ⟨rfl, by
  by_cases h : a = b
  · subst h; rw [decide_eq_true rfl]; exact q1 rfl
  · rw [decide_eq_false (fun z => h (V.bl.inj z))]; exact q2 h⟩
theorem w_neB {a b : Bool} (q1 : a = b → Q (.bl false) H) (q2 : a ≠ b → Q (.bl true) H) : rNe (.bl a) (.bl b) H Q := ⟨rfl, by
  by_cases h : a = b
  · subst h; rw [decide_eq_true rfl]; exact q1 rfl
  · rw [decide_eq_false (fun z => h (V.bl.inj z))]; exact q2 h⟩
theorem w_aug {te : TE} {ti : TIp} (h : σ[i]? = some (some x)) (q : te σ H fun y H1 => ti x y H1 fun z H2 => D.nx (σ.set i (some z)) H2) : tAug i te ti D σ H := ⟨x, h, q⟩
theorem w_gTup {n : Nat} {tg : TGs} {Q : L2.St → Hp → Prop} {a : Addr} {xs : List V} (hs : SqT K H a xs) (hn : xs.length = n) (q : tg xs σ H Q) : gTup K n tg (.ref a) σ H Q := ⟨a, xs, rfl, hs, hn, q⟩
theorem w_gTup2 {i j : Nat} {Q : L2.St → Hp → Prop} {d e : PyData} (h : Dp K H v (.tuple [d, e])) (q : ∀ v1 v2, Dp K H v1 d → Dp K H v2 e → Q ((σ.set i (some v1)).set j (some v2)) H) : gTup K 2 (gCons (gName i) (gCons (gName j) gNil)) v σ H Q := by
  obtain ⟨a, xs, rfl, hs, ha⟩ := dp_tup h
  cases ha with
  | cons h1 h2 => cases h2 with
    | cons h3 h4 => cases h4; exact ⟨a, _, rfl, hs, rfl, _, _, rfl, _, _, rfl, rfl, q _ _ h1 h3⟩
theorem w_slice {r : V → Option Int → Option Int → Hp → VK → Prop} {tl th : TO} (h : te σ H fun x H1 => tl σ H1 fun l H2 => th σ H2 fun u H3 => r x l u H3 Q) : tSl r te tl th σ H Q := h
theorem w_noPart {Q : Option Int → Hp → Prop} (h : Q none H) : tNoPart σ H Q := h
theorem w_part {Q : Option Int → Hp → Prop} (h : te σ H fun x H1 => rPI x fun o => Q o H1) : tPart te σ H Q := h
theorem w_pint {n : Int} {A : Option Int → Prop} (h : A (some n)) : rPI (.int n) A := ⟨n, rfl, h⟩
theorem w_slL {lo hi : Option Int} {ds' : List PyData} (h : Dp K H v (.list ds)) (hc : ∀ xs, xs.length = ds.length → DpAll K H xs ds → DpAll K H (cutV xs lo hi) ds') (q : ∀ p H' xs, H p = none → Same H H' → H' p = some (.lst xs) → Dp K H' (.ref p) (.list ds') → Q (.ref p) H') : rSlL K v lo hi H Q := by
  obtain ⟨a, xs, rfl, hs, ha⟩ := dp_lst h
  exact ⟨a, xs, rfl, hs, fun p hp => q p _ _ hp (same_new hp) upd_same (dp_newL upd_same (dpa_same (same_new hp) (hc xs (dpa_len ha) ha)))⟩
end
/-- a text's signs, a text of signs -/
theorem wideX {i j : Int} {a b : Nat} (ha : i.natAbs < 2 ^ a) (hb : j.natAbs < 2 ^ b) (h : a + b ≤ 134217728) : CMulX i j := mulx_ok ha hb h
theorem mulS {i j : Int} (ha : -(2 ^ 250) < i ∧ i < 2 ^ 250) (hb : -(2 ^ 250) < j ∧ j < 2 ^ 250) : CMulX i j := mulx_ok (a := 250) (b := 250) (by omega) (by omega) (by decide)
theorem divS {i j : Int} (h : 0 < j ∧ j < 2 ^ 250) : CDivW i j := wide_div (b := 250) h.1 (by omega) (by decide) (by decide)
end Tw
namespace Tw
open PySem PySem.Spec PyProof.Rows L2
def rMod : R2 := rI (fun _ j => 0 < j) fun i j => .int (i % j)
theorem op_modD {X : Cx} : OpR X (binaryOp .Mod) rMod := op_mod
theorem w_rMod {H : Hp} {Q : VK} {i j : Int} (hc : 0 < j) (q : Q (.int (i % j)) H) : rMod (.int i) (.int j) H Q := ⟨i, j, rfl, rfl, hc, q⟩
/-- the rest as a letter -/
theorem w_rModA {H : Hp} {Q : VK} {i j : Int} (hc : 0 < j) (q : ∀ r, r = i % j → 0 ≤ r → r < j → Q (.int r) H) : rMod (.int i) (.int j) H Q :=
  ⟨i, j, rfl, rfl, hc, q _ rfl (Int.emod_nonneg _ (by omega)) (Int.emod_lt_of_pos _ hc)⟩
theorem w_rModB {H : Hp} {Q : VK} {i j : Int} (hc : 0 < j) (q : ∀ r, 0 ≤ r → r < j → Q (.int r) H) : rMod (.int i) (.int j) H Q :=
  w_rModA hc fun r _ => q r
def rWB (W : Nat → L2.St → Hp → Prop) (m : Nat) (tb : TS) (D : Ends) (σ : L2.St) (H1 : Hp) : Prop := ∃ N : L2.St → Hp → Prop, (∀ σ' H', N σ' H' → ∃ m', m' < m ∧ W m' σ' H') ∧ tb { D with nx := N, ct := N, bk := D.nx } σ H1
theorem w_wb {W : Nat → L2.St → Hp → Prop} {m : Nat} {tb : TS} {D : Ends} {σ : L2.St} {H1 : Hp} (h : tb { D with nx := fun σ' H' => ∃ m', m' < m ∧ W m' σ' H', ct := fun σ' H' => ∃ m', m' < m ∧ W m' σ' H', bk := D.nx } σ H1) : rWB W m tb D σ H1 :=
  ⟨_, fun _ _ h => h, h⟩
theorem whl_by {c : TT} {tb : TS} {D : Ends} {σ : L2.St} {H : Hp} (W : Nat → L2.St → Hp → Prop) (m0 : Nat) (h0 : W m0 σ H) (hs : ∀ m σ H, W m σ H → c σ H fun b H1 => if b = true then rWB W m tb D σ H1 else D.nx σ H1) : tWhile c tb D σ H :=
  ⟨W, ⟨m0, h0⟩, hs⟩
/-- two ways of an expression meet behind it -/
theorem w_meet {t : TE} {σ : L2.St} {H : Hp} {Q : VK} (Pm : V → Hp → Prop) (h : ∀ Q' : VK, (∀ v H', Pm v H' → Q' v H') → t σ H Q') (k : ∀ v H', Pm v H' → Q v H') : t σ H Q := h Q k
/-- .. of a statement -/
theorem w_meetS {t : TS} {D : Ends} {σ : L2.St} {H : Hp} (Pm : L2.St → Hp → Prop) (h : ∀ nx' : L2.St → Hp → Prop, (∀ σ' H', Pm σ' H' → nx' σ' H') → t { D with nx := nx' } σ H) (k : ∀ σ' H', Pm σ' H' → D.nx σ' H') : t D σ H := h D.nx k
theorem cxK {CX : CXT} {P : Program} {w : World} {K : PySem.W.Frag} {mg : Str → Option Value} {base : Heap} {N : List Str} {qual : Str} {scope : Scope} {f : Addr} {cd : Value} {A : Around} {outer : List Env} {s : Shared} {H : Hp} {E : XK} :
    (cxOf CX P w K mg base N qual scope f cd A outer s H E).nox.K = K := rfl
end Tw
namespace Tw
open PySem PySem.Spec PyProof.Rows L2
/-! ### slices, for -/
def cutD {α : Type} (ds : List α) (lo hi : Option Int) : List α := (ds.drop (HT.sIx ds.length 0 lo)).take (HT.sIx ds.length ds.length hi - HT.sIx ds.length 0 lo)
theorem cutD_len {α : Type} (ds : List α) (lo hi : Option Int) : (cutD ds lo hi).length ≤ ds.length := by
  unfold cutD; rw [List.length_take, List.length_drop]; omega
theorem cutD_map {α β : Type} (f : α → β) (ds : List α) (lo hi : Option Int) : cutD (ds.map f) lo hi = (cutD ds lo hi).map f := by
  unfold cutD; rw [List.length_map, List.map_take, List.map_drop]
theorem cutD_from {α : Type} (ds : List α) {k : Int} (h : 0 ≤ k) : cutD ds (some k) none = ds.drop k.toNat := by
  obtain ⟨n, rfl⟩ := Int.eq_ofNat_of_zero_le h
  unfold cutD
  rw [show HT.sIx ds.length 0 (some (n : Int)) = min n ds.length from HT.sIx_nat _ _ _, HT.sIx_none, Int.toNat_natCast]
  by_cases hn : n ≤ ds.length
  · rw [Nat.min_eq_left hn, List.take_of_length_le (by rw [List.length_drop]; omega)]
  · rw [Nat.min_eq_right (by omega), List.drop_eq_nil_of_le (Nat.le_refl _), List.drop_eq_nil_of_le (by omega)]
    simp
theorem cutD_to {α : Type} (ds : List α) {k : Int} (h : 0 ≤ k) : cutD ds none (some k) = ds.take k.toNat := by
  obtain ⟨n, rfl⟩ := Int.eq_ofNat_of_zero_le h
  unfold cutD
  rw [show HT.sIx ds.length ds.length (some (n : Int)) = min n ds.length from HT.sIx_nat _ _ _, HT.sIx_none, Int.toNat_natCast, Nat.sub_zero, List.drop_zero]
  by_cases hn : n ≤ ds.length
  · rw [Nat.min_eq_left hn]
  · rw [Nat.min_eq_right (by omega), List.take_length, List.take_of_length_le (by omega)]
theorem cutD_both {α : Type} (ds : List α) {a b : Int} (h : 0 ≤ a) (h2 : 0 ≤ b) : cutD ds (some a) (some b) = (ds.take b.toNat).drop a.toNat := by
  obtain ⟨n, rfl⟩ := Int.eq_ofNat_of_zero_le h
  obtain ⟨k, rfl⟩ := Int.eq_ofNat_of_zero_le h2
  unfold cutD
  rw [show HT.sIx ds.length 0 (some (n : Int)) = min n ds.length from HT.sIx_nat _ _ _, show HT.sIx ds.length ds.length (some (k : Int)) = min k ds.length from HT.sIx_nat _ _ _, Int.toNat_natCast, Int.toNat_natCast, ← List.drop_take]
  have e1 : List.take (min k ds.length) ds = List.take k ds := by
    by_cases hk : k ≤ ds.length
    · rw [Nat.min_eq_left hk]
    · rw [Nat.min_eq_right (show ds.length ≤ k by omega), List.take_length, List.take_of_length_le (show ds.length ≤ k by omega)]
  rw [e1]
  by_cases hn : n ≤ ds.length
  · rw [Nat.min_eq_left hn]
  · rw [Nat.min_eq_right (show ds.length ≤ n by omega), List.drop_eq_nil_of_le (by rw [List.length_take]; omega), List.drop_eq_nil_of_le (by rw [List.length_take]; omega)]
theorem cutD_butlast {α : Type} (ds : List α) : cutD ds none (some (-1)) = ds.dropLast := by
  unfold cutD
  rw [HT.sIx_none]
  show (List.drop 0 ds).take ((if (-1 : Int) < 0 then ((-1 : Int) + (ds.length : Int)).toNat else min (-1 : Int).toNat ds.length) - 0) = _
  rw [if_pos (by decide), List.drop_zero, List.dropLast_eq_take]
  congr 1
  omega
theorem cutV_D (xs : List V) (lo hi : Option Int) : cutV xs lo hi = cutD xs lo hi := rfl
section
variable {K : PySem.W.Frag} {σ : L2.St} {H : Hp} {Q : VK} {D : Ends} {v x y z : V} {d e : PyData} {ds es : List PyData} {tl te : TE} {ta : TA} {tb : TS} {g : TG} {lo hi : Option Int}
theorem dpa_cut {vs : List V} (h : DpAll K H vs ds) : DpAll K H (cutD vs lo hi) (cutD ds lo hi) := by
  unfold cutD
  rw [dpa_len h]
  exact dpa_take _ (dpa_drop _ h)
theorem w_slD (h : Dp K H v (.list ds)) (q : ∀ p H' xs, H p = none → Same H H' → H' p = some (.lst xs) → Dp K H' (.ref p) (.list (cutD ds lo hi)) → Q (.ref p) H') : rSlL K v lo hi H Q := by
  obtain ⟨a, xs, rfl, hs, ha⟩ := dp_lst h
  exact ⟨a, xs, rfl, hs, fun p hp => q p _ _ hp (same_new hp) upd_same (dp_newL upd_same (dpa_same (same_new hp) (dpa_cut ha)))⟩
theorem w_slV {a : Addr} {xs : List V} (h : SqL K H a xs) (q : ∀ p H', H p = none → Same H H' → H' p = some (.lst (cutD xs lo hi)) → Q (.ref p) H') : rSlL K (.ref a) lo hi H Q :=
  ⟨a, xs, rfl, h, fun p hp => q p _ hp (same_new hp) upd_same⟩
theorem w_slT (h : Dp K H v (.tuple ds)) (q : ∀ p H', Same H H' → Dp K H' (.ref p) (.tuple (cutD ds lo hi)) → Q (.ref p) H') (hne : ¬ (HT.sIx ds.length 0 lo = 0 ∧ HT.sIx ds.length ds.length hi = ds.length)) : ∃ a xs, v = .ref a ∧ SqT K H a xs := by
  obtain ⟨a, xs, rfl, hs, ha⟩ := dp_tup h
  exact ⟨a, xs, rfl, hs⟩
/-- strings -/
theorem w_slS {s : Str} (hz : s.length ≤ sizeLine) (q : Q (.str ⟨(cutD s.cps.toList lo hi).toArray⟩) H) : rSlS (.str s) lo hi H Q := ⟨s, rfl, hz, q⟩
def rForL (K : PySem.W.Frag) (g : TG) (tb : TS) (D : Ends) (σ : L2.St) (x : V) (H1 : Hp) : Prop := ∃ a, x = .ref a ∧ (∃ xs, SqL K H1 a xs) ∧ ∃ W : Nat → Nat → L2.St → Hp → Prop, (∃ m, W 0 m σ H1) ∧ ∀ i m σ H, W i m σ H →
  ((Itl K a).stop i H ∧ D.nx σ H) ∨ ((Itl K a).go i H ∧ ∃ N : L2.St → Hp → Prop, (∀ σ' H', N σ' H' → ∃ m', m' < m ∧ W (i + 1) m' σ' H') ∧ ∀ x H', (Itl K a).yld i H x H' → g x σ H' fun σ2 H2 => tb { D with nx := N, ct := N, bk := D.nx } σ2 H2)
theorem w_forL (h : tl σ H fun x H1 => rForL K g tb D σ x H1) : tFor (iList K tl) g tb D σ H := h
def rForT (K : PySem.W.Frag) (g : TG) (tb : TS) (D : Ends) (σ : L2.St) (x : V) (H1 : Hp) : Prop := ∃ a, x = .ref a ∧ (∃ xs, SqT K H1 a xs) ∧ ∃ W : Nat → Nat → L2.St → Hp → Prop, (∃ m, W 0 m σ H1) ∧ ∀ i m σ H, W i m σ H →
  ((Itt K a).stop i H ∧ D.nx σ H) ∨ ((Itt K a).go i H ∧ ∃ N : L2.St → Hp → Prop, (∀ σ' H', N σ' H' → ∃ m', m' < m ∧ W (i + 1) m' σ' H') ∧ ∀ x H', (Itt K a).yld i H x H' → g x σ H' fun σ2 H2 => tb { D with nx := N, ct := N, bk := D.nx } σ2 H2)
theorem w_forT (h : tl σ H fun x H1 => rForT K g tb D σ x H1) : tFor (iTup K tl) g tb D σ H := h
def rForR (g : TG) (tb : TS) (D : Ends) (σ : L2.St) (lo : Int) (n : Nat) (H1 : Hp) : Prop := ∃ W : Nat → Nat → L2.St → Hp → Prop, (∃ m, W 0 m σ H1) ∧ ∀ i m σ H, W i m σ H →
  ((Itr lo n).stop i H ∧ D.nx σ H) ∨ ((Itr lo n).go i H ∧ ∃ N : L2.St → Hp → Prop, (∀ σ' H', N σ' H' → ∃ m', m' < m ∧ W (i + 1) m' σ' H') ∧ ∀ x H', (Itr lo n).yld i H x H' → g x σ H' fun σ2 H2 => tb { D with nx := N, ct := N, bk := D.nx } σ2 H2)
def rForR1 (g : TG) (tb : TS) (D : Ends) (σ : L2.St) (vs : List V) (H1 : Hp) : Prop := ∃ j : Int, vs = [.int j] ∧ -(2 ^ 62) ≤ j ∧ j < 2 ^ 62 ∧ rForR g tb D σ 0 j.toNat H1
def rForR2 (g : TG) (tb : TS) (D : Ends) (σ : L2.St) (vs : List V) (H1 : Hp) : Prop := ∃ i j : Int, vs = [.int i, .int j] ∧ (-(2 ^ 62) ≤ i ∧ i < 2 ^ 62 ∧ -(2 ^ 62) ≤ j ∧ j < 2 ^ 62) ∧ rForR g tb D σ i (j - i).toNat H1
theorem w_forR1 (h : ta σ H fun vs H1 => rForR1 g tb D σ vs H1) : tFor (iRng1 ta) g tb D σ H := h
theorem w_forR2 (h : ta σ H fun vs H1 => rForR2 g tb D σ vs H1) : tFor (iRng2 ta) g tb D σ H := h
def rForS (g : TG) (tb : TS) (D : Ends) (σ : L2.St) (v : V) (H1 : Hp) : Prop := ∃ x, v = .str x ∧ ∃ W : Nat → Nat → L2.St → Hp → Prop, (∃ m, W 0 m σ H1) ∧ ∀ i m σ H, W i m σ H →
  ((Its x).stop i H ∧ D.nx σ H) ∨ ((Its x).go i H ∧ ∃ N : L2.St → Hp → Prop, (∀ σ' H', N σ' H' → ∃ m', m' < m ∧ W (i + 1) m' σ' H') ∧ ∀ x' H', (Its x).yld i H x' H' → g x' σ H' fun σ2 H2 => tb { D with nx := N, ct := N, bk := D.nx } σ2 H2)
theorem w_forS (h : te σ H fun v H1 => rForS g tb D σ v H1) : tFor (iStr te) g tb D σ H := h
/-- a list walked: at each turn an item by its data -/
theorem forL_by (Pv : Nat → L2.St → Hp → Prop) (src : Dp K H x (.list ds)) (h0 : Pv 0 σ H) (hk : ∀ i σ' H', i ≤ ds.length → Pv i σ' H' → Keep H H')
    (hs : ∀ i d y σ' H', ds[i]? = some d → Dp K H' y d → Pv i σ' H' → g y σ' H' fun σ2 H2 => tb { D with nx := Pv (i + 1), ct := Pv (i + 1), bk := D.nx } σ2 H2) (hd : ∀ σ' H', Pv ds.length σ' H' → D.nx σ' H') : rForL K g tb D σ x H := by
  obtain ⟨a, xs, rfl, hq, ha⟩ := dp_lst src
  have hl := dpa_len ha
  refine ⟨a, rfl, ⟨xs, hq⟩, for_list (xs := xs) Pv h0 (fun i σ' H' hi p => (hk i σ' H' (by omega) p).seqL hq) (fun i y σ' H' hi p => ?_) (fun σ' H' p => hd σ' H' (by rw [← hl]; exact p))⟩
  obtain ⟨d, e1, e2⟩ := dpa_get2 ha hi
  exact hs i d y σ' H' e1 (dp_keep (hk i σ' H' (by have := (List.getElem?_eq_some_iff.mp e1).1; omega) p) e2) p
theorem forT_by (Pv : Nat → L2.St → Hp → Prop) (src : Dp K H x (.tuple ds)) (h0 : Pv 0 σ H) (hk : ∀ i σ' H', i ≤ ds.length → Pv i σ' H' → Keep H H')
    (hs : ∀ i d y σ' H', ds[i]? = some d → Dp K H' y d → Pv i σ' H' → g y σ' H' fun σ2 H2 => tb { D with nx := Pv (i + 1), ct := Pv (i + 1), bk := D.nx } σ2 H2) (hd : ∀ σ' H', Pv ds.length σ' H' → D.nx σ' H') : rForT K g tb D σ x H := by
  obtain ⟨a, xs, rfl, hq, ha⟩ := dp_tup src
  have hl := dpa_len ha
  refine ⟨a, rfl, ⟨xs, hq⟩, for_tup (xs := xs) Pv h0 (fun i σ' H' hi p => (hk i σ' H' (by omega) p).seqT hq) (fun i y σ' H' hi p => ?_) (fun σ' H' p => hd σ' H' (by rw [← hl]; exact p))⟩
  obtain ⟨d, e1, e2⟩ := dpa_get2 ha hi
  exact hs i d y σ' H' e1 (dp_keep (hk i σ' H' (by have := (List.getElem?_eq_some_iff.mp e1).1; omega) p) e2) p
theorem forR1_by {k : Int} (Pv : Nat → L2.St → Hp → Prop) (hz : -(2 ^ 62) ≤ k ∧ k < 2 ^ 62) (h0 : Pv 0 σ H)
    (hs : ∀ (i : Nat) σ' H', (i : Int) < k → Pv i σ' H' → g (.int (i : Int)) σ' H' fun σ2 H2 => tb { D with nx := Pv (i + 1), ct := Pv (i + 1), bk := D.nx } σ2 H2) (hd : ∀ σ' H', Pv k.toNat σ' H' → D.nx σ' H') : rForR1 g tb D σ [.int k] H :=
  ⟨k, rfl, hz.1, hz.2, for_range (lo := 0) (n := k.toNat) Pv h0 (fun i σ' H' hi p => by rw [Int.zero_add]; exact hs i σ' H' (by omega) p) hd⟩
theorem forR2_by {lo k : Int} (Pv : Nat → L2.St → Hp → Prop) (hz : -(2 ^ 62) ≤ lo ∧ lo < 2 ^ 62 ∧ -(2 ^ 62) ≤ k ∧ k < 2 ^ 62) (h0 : Pv 0 σ H)
    (hs : ∀ (i : Nat) σ' H', lo + (i : Int) < k → Pv i σ' H' → g (.int (lo + (i : Int))) σ' H' fun σ2 H2 => tb { D with nx := Pv (i + 1), ct := Pv (i + 1), bk := D.nx } σ2 H2) (hd : ∀ σ' H', Pv (k - lo).toNat σ' H' → D.nx σ' H') : rForR2 g tb D σ [.int lo, .int k] H :=
  ⟨lo, k, rfl, hz, for_range (lo := lo) (n := (k - lo).toNat) Pv h0 (fun i σ' H' hi p => hs i σ' H' (by omega) p) hd⟩
theorem forS_by {s : Str} (Pv : Nat → L2.St → Hp → Prop) (h0 : Pv 0 σ H)
    (hs : ∀ (i : Nat) c σ' H', s.cps.toList[i]? = some c → Pv i σ' H' → g (.str ⟨#[c]⟩) σ' H' fun σ2 H2 => tb { D with nx := Pv (i + 1), ct := Pv (i + 1), bk := D.nx } σ2 H2) (hd : ∀ σ' H', Pv s.length σ' H' → D.nx σ' H') : rForS g tb D σ (.str s) H := by
  refine ⟨s, rfl, fun i m σ H => m = s.length - i ∧ i ≤ s.length ∧ Pv i σ H, ⟨s.length, by simp, Nat.zero_le _, h0⟩, ?_⟩
  rintro i m σ H ⟨rfl, hi, p⟩
  by_cases hlt : i < s.length
  · refine .inr ⟨hlt, Pv (i + 1), fun σ' H' p' => ⟨s.length - (i + 1), by omega, rfl, hlt, p'⟩, fun x H' y => ?_⟩
    obtain ⟨e, c, hc, rfl⟩ := y
    subst e
    exact hs i c σ _ (by simpa using hc) p
  · have e : i = s.length := by omega
    subst e
    exact .inl ⟨Nat.le_refl _, hd σ H p⟩
theorem w_gName {j : Nat} {Q : L2.St → Hp → Prop} (q : Q (σ.set j (some v)) H) : gName j v σ H Q := q
theorem w_pw {P : Prop} (h : P) : P := h
end
end Tw
namespace Tw
open PySem PySem.Spec PyProof.Rows L2
/-! ### data without bools and dicts: == is equality -/
def pln : Nat → PyData → Bool
  | _, .none => true
  | _, .int _ => true
  | _, .str x => PyData.strOk x
  | k + 1, .list ds => ds.all (pln k)
  | k + 1, .tuple ds => ds.all (pln k)
  | _, _ => false
theorem pln_shape : ∀ (k : Nat) (d : PyData), pln k d = true → d.canLay0 = true ∧ d.depth ≤ k := by
  intro k
  induction k with
  | zero =>
    intro d h
    cases d <;> simp [pln] at h <;> simp [PyData.canLay0, PyData.depth, h]
  | succ k ih =>
    have all : ∀ ds : List PyData, ds.all (pln k) = true → PyData.canLayAll0 ds = true ∧ PyData.depthAll ds ≤ k := by
      intro ds
      induction ds with
      | nil => intro _; exact ⟨rfl, Nat.zero_le _⟩
      | cons d ds ihd =>
        intro h
        rw [List.all_cons, Bool.and_eq_true] at h
        obtain ⟨a, b⟩ := ih d h.1
        obtain ⟨a', b'⟩ := ihd h.2
        exact ⟨by simp [PyData.canLayAll0, a, a'], by simp only [PyData.depthAll]; omega⟩
    intro d h
    cases d with
    | list ds =>
      obtain ⟨a, b⟩ := all ds (by simpa [pln] using h)
      exact ⟨by simpa [PyData.canLay0] using a, by simp only [PyData.depth]; omega⟩
    | tuple ds =>
      obtain ⟨a, b⟩ := all ds (by simpa [pln] using h)
      exact ⟨by simpa [PyData.canLay0] using a, by simp only [PyData.depth]; omega⟩
    | none => simp [PyData.canLay0, PyData.depth]
    | int i => simp [PyData.canLay0, PyData.depth]
    | str x => simp [pln] at h; simp [PyData.canLay0, PyData.depth, h]
    | bool b => simp [pln] at h
    | dict kvs => simp [pln] at h
theorem pln_shaped {k : Nat} {d : PyData} (h : pln k d = true) (hk : k ≤ 64) : SeqAt.shaped d = true := by
  obtain ⟨a, b⟩ := pln_shape k d h
  unfold SeqAt.shaped
  rw [a, Bool.true_and, decide_eq_true]
  omega
theorem pln_eqv : ∀ (k l : Nat) (d e : PyData), pln k d = true → pln l e = true → (PyData.eqv d e = true ↔ d = e) := by
  intro k
  induction k with
  | zero =>
    intro l d e h1 h2
    cases d <;> simp [pln] at h1 <;> cases e <;> simp [PyData.eqv] <;> cases l <;> simp [pln] at h2
  | succ k ih =>
    have all : ∀ (l : Nat) (ds es : List PyData), ds.all (pln k) = true → es.all (pln l) = true → (PyData.eqvAll ds es = true ↔ ds = es) := by
      intro l ds
      induction ds with
      | nil => intro es _ _; cases es <;> simp [PyData.eqvAll]
      | cons d ds ihd =>
        intro es h1 h2
        cases es with
        | nil => simp [PyData.eqvAll]
        | cons e es =>
          rw [List.all_cons, Bool.and_eq_true] at h1 h2
          simp only [PyData.eqvAll, Bool.and_eq_true, List.cons.injEq]
          rw [ih l d e h1.1 h2.1, ihd es h1.2 h2.2]
    intro l d e h1 h2
    cases d with
    | list ds =>
      cases e with
      | list es =>
        cases l with
        | zero => simp [pln] at h2
        | succ l =>
          have := all l ds es (by simpa [pln] using h1) (by simpa [pln] using h2)
          simpa [PyData.eqv] using this
      | _ => simp [PyData.eqv]
    | tuple ds =>
      cases e with
      | tuple es =>
        cases l with
        | zero => simp [pln] at h2
        | succ l =>
          have := all l ds es (by simpa [pln] using h1) (by simpa [pln] using h2)
          simpa [PyData.eqv] using this
      | _ => simp [PyData.eqv]
    | none => cases e <;> simp [PyData.eqv]
    | int i => cases e <;> simp [PyData.eqv] <;> (cases l <;> simp [pln] at h2)
    | str x => cases e <;> simp [PyData.eqv]
    | bool b => simp [pln] at h1
    | dict kvs => simp [pln] at h1
theorem pln_ints {k : Nat} (ns : List Int) : pln (k + 1) (.list (ns.map PyData.int)) = true := by
  cases k <;> simp [pln, List.all_eq_true]
theorem pln_intsT {k : Nat} (ns : List Int) : pln (k + 1) (.tuple (ns.map PyData.int)) = true := by
  cases k <;> simp [pln, List.all_eq_true]
section
variable {K : PySem.W.Frag} {H : Hp} {Q : VK} {x y : V} {d e : PyData}
theorem w_eqP (h1 : Dp K H x d) (h2 : Dp K H y e) (p1 : pln 9 d = true) (p2 : pln 9 e = true) (q1 : d = e → Q (.bl true) H) (q2 : d ≠ e → Q (.bl false) H) : rEqD K x y H Q := by
  refine ⟨d, e, h1, h2, pln_shaped p1 (by decide), pln_shaped p2 (by decide), ?_⟩
  have r := pln_eqv _ _ d e p1 p2
  cases he : PyData.eqv d e with
  | true => exact q1 (r.mp he)
  | false => exact q2 (fun z => by rw [r.mpr z] at he; cases he)
theorem w_neP (h1 : Dp K H x d) (h2 : Dp K H y e) (p1 : pln 9 d = true) (p2 : pln 9 e = true) (q1 : d = e → Q (.bl false) H) (q2 : d ≠ e → Q (.bl true) H) : rNeD K x y H Q := by
  refine ⟨d, e, h1, h2, pln_shaped p1 (by decide), pln_shaped p2 (by decide), ?_⟩
  have r := pln_eqv _ _ d e p1 p2
  cases he : PyData.eqv d e with
  | true => exact q1 (r.mp he)
  | false => exact q2 (fun z => by rw [r.mpr z] at he; cases he)
end
/-! ### a dict written out -/
def rDisp (p : Addr) (ps : List (V × V)) (H2 : Hp) (Q : VK) : Prop := H2 p = some (.dK []) ∧ ∃ kvs : List (Key × V), ps = kvs.map (fun kv => (kV kv.1, kv.2)) ∧ kvs.length ≤ 15 ∧ Q (.ref p) (upd H2 p (.dK (mergeK [] kvs)))
theorem w_disp {σ : L2.St} {H : Hp} {Q : VK} {trs : List (TE × TE)} (h : ∀ p H0, H p = none → Same H H0 → H0 p = some (.dK []) → tPairs trs σ H0 fun ps H2 => rDisp p ps H2 Q) : tDisp trs σ H Q := fun p hp => h p _ hp (same_new hp) upd_same
theorem w_pp {σ : L2.St} {H : Hp} {Q : List (V × V) → Hp → Prop} {tk tv : TE} {r : List (TE × TE)} (h : tk σ H fun x H1 => tv σ H1 fun y H2 => tPairs r σ H2 fun ps H3 => Q ((x, y) :: ps) H3) : tPairs ((tk, tv) :: r) σ H Q := h
theorem w_pp0 {σ : L2.St} {H : Hp} {Q : List (V × V) → Hp → Prop} (h : Q [] H) : tPairs [] σ H Q := h
theorem pg_tupK {X : Cx} {K : PySem.W.Frag} {es : List Expr} {k : Nat} {t : TGs} {n : Nat} {pos : Pos} (hc : X.calm = true) (hh : PGs X es t) (h : X.K = K := by rfl)
    (hn : (assignEach es X.env).length = n := by rfl) (hst : (assignEach es X.env).findIdx? (·.1) = none := by rfl) : PG X (.Tuple es k pos) (gTup K n t) := h ▸ pg_tup hc hh hn hst
end Tw
namespace Tw
open PySem PySem.Spec PyProof.Rows L2
/-! ### the law's own drawing: its dict -/
def moKvs (left seed : Int) (c : Addr) (spot : Int) : List (Key × V) := [(.inr "left", .int left), (.inr "seed", .int seed), (.inr "cells", .ref c), (.inr "spot", .int spot)]
theorem mo_len {l s : Int} {c : Addr} {p : Int} : (moKvs l s c p).length < sizeLine := by show 4 < sizeLine; decide
/-- a number of the script, or a little more -/
structure Big (n : Int) : Prop where
  lt : n.natAbs < 2 ^ 1048600
theorem Big.mul {i j : Int} (h : Big i) (hb : -(2 ^ 250) < j ∧ j < 2 ^ 250) : CMulX i j := mulx_ok (a := 1048600) (b := 250) h.lt (by omega) (by decide)
theorem Big.bits {n : Int} (h : Builtin.Int.intBits n ≤ 1048576) : Big n := by
  have h1 : n.natAbs < 2 ^ Builtin.Int.intBits n := by
    by_cases h0 : n = 0
    · subst h0; decide
    · unfold Builtin.Int.intBits
      rw [if_neg (by simpa using h0)]
      exact Nat.lt_log2_self
  exact ⟨Nat.lt_of_lt_of_le h1 (Nat.pow_le_pow_right (by decide) (by omega))⟩
theorem Big.small {n : Int} (h : -(2 ^ 250) < n ∧ n < 2 ^ 250) : Big n := by
  exact ⟨Nat.lt_of_lt_of_le (show n.natAbs < 2 ^ 250 by omega) (Nat.pow_le_pow_right (by decide) (by decide))⟩
/-- the dict of the law's draws, at most b of which were made; its cells at c -/
def Mo (H : Hp) (m c : Addr) (b : Nat) : Prop := ∃ (left seed spot : Int) (ns : List Int),
  H m = some (.dK (moKvs left seed c spot)) ∧ H c = some (.lst (ns.map V.int)) ∧ 0 < ns.length ∧ ns.length ≤ 100 ∧ (∀ n ∈ ns, Big n) ∧ 0 ≤ seed ∧ seed < 2147483647 ∧ 0 ≤ spot ∧ spot ≤ b
theorem k_left_seed : ¬ Str.ofString "left" = Str.ofString "seed" := by decide +kernel
theorem k_left_cells : ¬ Str.ofString "left" = Str.ofString "cells" := by decide +kernel
theorem k_left_spot : ¬ Str.ofString "left" = Str.ofString "spot" := by decide +kernel
theorem k_seed_cells : ¬ Str.ofString "seed" = Str.ofString "cells" := by decide +kernel
theorem k_seed_spot : ¬ Str.ofString "seed" = Str.ofString "spot" := by decide +kernel
theorem k_cells_spot : ¬ Str.ofString "cells" = Str.ofString "spot" := by decide +kernel
theorem mo_left {l s : Int} {c : Addr} {p : Int} : valV (moKvs l s c p) (.inr "left") = some (.int l) := by simp [valV, moKvs]
theorem mo_seed {l s : Int} {c : Addr} {p : Int} : valV (moKvs l s c p) (.inr "seed") = some (.int s) := by simp [valV, moKvs, k_left_seed]
theorem mo_cells {l s : Int} {c : Addr} {p : Int} : valV (moKvs l s c p) (.inr "cells") = some (.ref c) := by simp [valV, moKvs, k_left_cells, k_seed_cells]
theorem mo_spot {l s : Int} {c : Addr} {p : Int} : valV (moKvs l s c p) (.inr "spot") = some (.int p) := by simp [valV, moKvs, k_left_spot, k_seed_spot, k_cells_spot]
theorem mo_put_left {l s : Int} {c : Addr} {p z : Int} : putK (moKvs l s c p) (.inr "left") (.int z) = moKvs z s c p := by
  simp [putK, moKvs, k_left_seed, k_left_cells, k_left_spot, Ne.symm k_left_seed, Ne.symm k_left_cells, Ne.symm k_left_spot]
theorem mo_put_spot {l s : Int} {c : Addr} {p z : Int} : putK (moKvs l s c p) (.inr "spot") (.int z) = moKvs l s c z := by
  simp [putK, moKvs, k_left_spot, k_seed_spot, k_cells_spot]
theorem Mo.mono {H : Hp} {m c : Addr} {a b : Nat} (h : Mo H m c a) (l : a ≤ b) : Mo H m c b := by
  obtain ⟨left, seed, spot, ns, h1, h2, h3, h4, h5, h6, h7, h8, h9⟩ := h
  exact ⟨left, seed, spot, ns, h1, h2, h3, h4, h5, h6, h7, h8, by omega⟩
theorem Mo.same {H H' : Hp} {m c : Addr} {a : Nat} (e : Same H H') (h : Mo H m c a) : Mo H' m c a := by
  obtain ⟨left, seed, spot, ns, h1, h2, h⟩ := h
  exact ⟨left, seed, spot, ns, e _ _ h1, e _ _ h2, h⟩
theorem Mo.ne {H : Hp} {m c : Addr} {a : Nat} {D : Addr} (h : Mo H m c a) (hD : H D = none) : c ≠ D := by
  obtain ⟨left, seed, spot, ns, h1, h2, h⟩ := h
  exact ne_of_none h2 hD
theorem Mo.upd {H : Hp} {m c : Addr} {a : Nat} {D : Addr} {o : HO} {xs : List V} (h : Mo H m c a) (hD : H D = some (.lst xs)) (n : c ≠ D) : Mo (upd H D o) m c a := by
  obtain ⟨left, seed, spot, ns, h1, h2, h⟩ := h
  refine ⟨left, seed, spot, ns, ?_, ?_, h⟩
  · rw [upd_ne (ne_of h1 hD (fun z => nomatch z))]; exact h1
  · rw [upd_ne n]; exact h2
theorem Mo.new {H : Hp} {m c : Addr} {a : Nat} {D : Addr} {o : HO} (h : Mo H m c a) (hD : H D = none) : Mo (L2.upd H D o) m c a := h.same (same_new hD)
/-! ### data without lists -/
mutual
def noL : PyData → Bool
  | .list _ => false
  | .dict _ => false
  | .tuple ds => noLs ds
  | .none => true
  | .bool _ => true
  | .int _ => true
  | .str _ => true
def noLs : List PyData → Bool
  | [] => true
  | d :: ds => noL d && noLs ds
end
mutual
theorem dp_upd {K : PySem.W.Frag} {H : Hp} {D : Addr} {o : HO} {xs0 : List V} (hD : H D = some (.lst xs0)) : ∀ (d : PyData) (v : V), noL d = true → Dp K H v d → Dp K (upd H D o) v d
  | .none, _, _, h => by cases h; exact .non
  | .bool b, _, _, h => by cases h; exact .bl b
  | .int i, _, _, h => by cases h; exact .int i
  | .str x, _, _, h => by cases h; exact .str x
  | .list ds, _, n, h => by simp [noL] at n
  | .tuple ds, _, n, h => by
    cases h with
    | tup hs ha =>
      refine .tup ?_ (dpa_upd hD ds _ (by simpa [noL] using n) ha)
      rcases hs with (hs | ⟨ob, hs⟩) | hs
      · exact .inl (.inl (by rw [upd_ne (ne_of hs hD (fun z => nomatch z))]; exact hs))
      · exact .inl (.inr ⟨ob, by rw [upd_ne (ne_of hs hD (fun z => nomatch z))]; exact hs⟩)
      · exact .inr hs
  | .dict _, _, n, h => by cases h
theorem dpa_upd {K : PySem.W.Frag} {H : Hp} {D : Addr} {o : HO} {xs0 : List V} (hD : H D = some (.lst xs0)) : ∀ (ds : List PyData) (vs : List V), noLs ds = true → DpAll K H vs ds → DpAll K (upd H D o) vs ds
  | [], _, _, h => by cases h; exact .nil
  | d :: ds, _, n, h => by
    simp only [noLs, Bool.and_eq_true] at n
    cases h with
    | cons h1 h2 => exact .cons (dp_upd hD d _ n.1 h1) (dpa_upd hD ds _ n.2 h2)
end
theorem noLs_app : ∀ {ds es : List PyData}, noLs ds = true → noLs es = true → noLs (ds ++ es) = true
  | [], _, _, h => h
  | d :: ds, es, n, h => by
    simp only [noLs, Bool.and_eq_true] at n
    simp only [List.cons_append, noLs, Bool.and_eq_true]
    exact ⟨n.1, noLs_app n.2 h⟩
theorem noLs_one {d : PyData} (h : noL d = true) : noLs [d] = true := by simp [noLs, h]

/-! ### comprehensions -/
section
variable {K : PySem.W.Frag} {σ : L2.St} {H H1 : Hp} {Q : VK} {x : V} {ds : List PyData} {j : Nat} {vs : List Nat} {tt : TT} {te tl : TE} {ta : TA}
/-- what holds between two turns of a comprehension: i turns, the data made so far, the heap -/
structure LcJ (H1 : Hp) (J : Nat → List PyData → Hp → Prop) : Prop where
  start : ∀ D, H1 D = none → J 0 [] (L2.upd H1 D (.lst []))
  keep : ∀ i es H', J i es H' → Keep H1 H'
  upd : ∀ i es H' D xs o, H1 D = none → H' D = some (.lst xs) → J i es H' → J i es (L2.upd H' D o)
def LcP (K : PySem.W.Frag) (J : Nat → List PyData → Hp → Prop) (D : Addr) (i : Nat) (H' : Hp) : Prop :=
  ∃ vs es, H' D = some (.lst vs) ∧ DpAll K H' vs es ∧ noLs es = true ∧ es.length ≤ i ∧ J i es H'
def LcTurn (K : PySem.W.Frag) (J : Nat → List PyData → Hp → Prop) (tt : TT) (te : TE) (σx : L2.St) (i : Nat) (es : List PyData) (H' : Hp) : Prop :=
  ∀ (Yes : VK) (No : Hp → Prop), (∀ z H4 e, Keep H' H4 → noL e = true → Dp K H4 z e → J (i + 1) (es ++ [e]) H4 → Yes z H4) → (∀ H3, Keep H' H3 → J (i + 1) es H3 → No H3) →
    tt σx H' fun b H3 => if b = true then te σx H3 Yes else No H3
theorem lc_turn {J : Nat → List PyData → Hp → Prop} (lj : LcJ H1 J) {D : Addr} (hD : H1 D = none) {i : Nat} (hi : i < 1000000) {H' : Hp} {σx : L2.St} (p : LcP K J D i H') (turn : ∀ es, J i es H' → LcTurn K J tt te σx i es H') :
    tt σx H' fun b H3 => if b = true then te σx H3 fun y H4 => ∃ acc, H4 D = some (.lst acc) ∧ acc.length < sizeLine ∧ LcP K J D (i + 1) (L2.upd H4 D (.lst (acc ++ [y]))) else LcP K J D (i + 1) H3 := by
  obtain ⟨vs, es, p1, p2, p3, p4, p5⟩ := p
  have hs : sizeLine = 16777216 := sizeLine_eq
  refine turn es p5 _ _ (fun z H4 e k n dz j => ?_) (fun H3 k j => ?_)
  · have l := dpa_len p2
    refine ⟨vs, k.l p1, by omega, _, es ++ [e], upd_same, ?_, noLs_app p3 (noLs_one n), by simp; omega, lj.upd _ _ _ _ vs _ hD (k.l p1) j⟩
    exact dpa_app (dpa_upd (k.l p1) _ _ p3 (dpa_keep k p2)) (dpa_one (dp_upd (k.l p1) _ _ n dz))
  · exact ⟨vs, es, k.l p1, dpa_keep k p2, p3, by omega, j⟩
def rLcL (K : PySem.W.Frag) (j : Nat) (tt : TT) (te : TE) (vs : List Nat) (σ : L2.St) (x : V) (H1 : Hp) (Q : VK) : Prop := ∃ a, x = .ref a ∧ (∃ xs, SqL K H1 a xs) ∧ ∀ D, H1 D = none → ∃ W : Nat → Nat → Hp → Prop, (∃ m, W 0 m (L2.upd H1 D (.lst []))) ∧ ∀ i m H, W i m H →
  ((Itl K a).stop i H ∧ Q (.ref D) H) ∨ ((Itl K a).go i H ∧ ∃ Nx : Hp → Prop, (∀ H', Nx H' → ∃ m', m' < m ∧ W (i + 1) m' H') ∧ ∀ x H', (Itl K a).yld i H x H' → gName j x (wipe σ vs) H' fun σ2 H2 => wipe σ2 vs = wipe σ vs ∧ tt σ2 H2 fun b H3 =>
    if b = true then te σ2 H3 fun y H4 => ∃ acc, H4 D = some (.lst acc) ∧ acc.length < sizeLine ∧ Nx (L2.upd H4 D (.lst (acc ++ [y]))) else Nx H3)
theorem w_lcL (h : tl σ H fun x H1 => rLcL K j tt te vs σ x H1 Q) : tLc (iList K tl) (gName j) tt te vs σ H Q := h
theorem lc_list_by (J : Nat → List PyData → Hp → Prop) (lj : LcJ H1 J) (src : Dp K H1 x (.list ds)) (hz : ds.length ≤ 1000000) (hw : ∀ x, wipe ((wipe σ vs).set j (some x)) vs = wipe σ vs)
    (turn : ∀ i d y H' es, ds[i]? = some d → Dp K H' y d → J i es H' → LcTurn K J tt te ((wipe σ vs).set j (some y)) i es H')
    (done : ∀ p H' vs es, H1 p = none → Keep H1 H' → H' p = some (.lst vs) → Dp K H' (.ref p) (.list es) → J ds.length es H' → Q (.ref p) H') : rLcL K j tt te vs σ x H1 Q := by
  obtain ⟨a, xs, rfl, hs, ha⟩ := dp_lst src
  have hl := dpa_len ha
  refine ⟨a, rfl, ⟨xs, hs⟩, fun D hD => lc_list (xs := xs) (LcP K J D) ⟨[], [], upd_same, .nil, rfl, Nat.le_refl _, lj.start D hD⟩ (fun i H' _ p => ?_) (fun i y H' hi p => ⟨hw y, lc_turn lj hD ?_ p fun es q => ?_⟩) fun H' p => ?_⟩
  · obtain ⟨vs, es, p1, p2, p3, p4, p5⟩ := p
    exact (lj.keep _ _ _ p5).seqL hs
  · have := (List.getElem?_eq_some_iff.mp hi).1; omega
  · obtain ⟨d, e1, e2⟩ := dpa_get2 ha hi
    exact turn i d y H' es e1 (dp_keep (lj.keep _ _ _ q) e2) q
  · obtain ⟨vs, es, p1, p2, p3, p4, p5⟩ := p
    rw [hl] at p5
    exact done D H' vs es hD (lj.keep _ _ _ p5) p1 (dp_newL p1 p2) p5
def rLcT (K : PySem.W.Frag) (j : Nat) (tt : TT) (te : TE) (vs : List Nat) (σ : L2.St) (x : V) (H1 : Hp) (Q : VK) : Prop := ∃ a, x = .ref a ∧ (∃ xs, SqT K H1 a xs) ∧ ∀ D, H1 D = none → ∃ W : Nat → Nat → Hp → Prop, (∃ m, W 0 m (L2.upd H1 D (.lst []))) ∧ ∀ i m H, W i m H →
  ((Itt K a).stop i H ∧ Q (.ref D) H) ∨ ((Itt K a).go i H ∧ ∃ Nx : Hp → Prop, (∀ H', Nx H' → ∃ m', m' < m ∧ W (i + 1) m' H') ∧ ∀ x H', (Itt K a).yld i H x H' → gName j x (wipe σ vs) H' fun σ2 H2 => wipe σ2 vs = wipe σ vs ∧ tt σ2 H2 fun b H3 =>
    if b = true then te σ2 H3 fun y H4 => ∃ acc, H4 D = some (.lst acc) ∧ acc.length < sizeLine ∧ Nx (L2.upd H4 D (.lst (acc ++ [y]))) else Nx H3)
theorem w_lcT (h : tl σ H fun x H1 => rLcT K j tt te vs σ x H1 Q) : tLc (iTup K tl) (gName j) tt te vs σ H Q := h
theorem lc_tup_by (J : Nat → List PyData → Hp → Prop) (lj : LcJ H1 J) (src : Dp K H1 x (.tuple ds)) (hz : ds.length ≤ 1000000) (hw : ∀ x, wipe ((wipe σ vs).set j (some x)) vs = wipe σ vs)
    (turn : ∀ i d y H' es, ds[i]? = some d → Dp K H' y d → J i es H' → LcTurn K J tt te ((wipe σ vs).set j (some y)) i es H')
    (done : ∀ p H' vs es, H1 p = none → Keep H1 H' → H' p = some (.lst vs) → Dp K H' (.ref p) (.list es) → J ds.length es H' → Q (.ref p) H') : rLcT K j tt te vs σ x H1 Q := by
  obtain ⟨a, xs, rfl, hs, ha⟩ := dp_tup src
  have hl := dpa_len ha
  refine ⟨a, rfl, ⟨xs, hs⟩, fun D hD => lc_tup (xs := xs) (LcP K J D) ⟨[], [], upd_same, .nil, rfl, Nat.le_refl _, lj.start D hD⟩ (fun i H' _ p => ?_) (fun i y H' hi p => ⟨hw y, lc_turn lj hD ?_ p fun es q => ?_⟩) fun H' p => ?_⟩
  · obtain ⟨vs, es, p1, p2, p3, p4, p5⟩ := p
    exact (lj.keep _ _ _ p5).seqT hs
  · have := (List.getElem?_eq_some_iff.mp hi).1; omega
  · obtain ⟨d, e1, e2⟩ := dpa_get2 ha hi
    exact turn i d y H' es e1 (dp_keep (lj.keep _ _ _ q) e2) q
  · obtain ⟨vs, es, p1, p2, p3, p4, p5⟩ := p
    rw [hl] at p5
    exact done D H' vs es hD (lj.keep _ _ _ p5) p1 (dp_newL p1 p2) p5
def rLcR (j : Nat) (tt : TT) (te : TE) (us : List Nat) (σ : L2.St) (lo : Int) (n : Nat) (H1 : Hp) (Q : VK) : Prop := ∀ D, H1 D = none → ∃ W : Nat → Nat → Hp → Prop, (∃ m, W 0 m (L2.upd H1 D (.lst []))) ∧ ∀ i m H, W i m H →
  ((Itr lo n).stop i H ∧ Q (.ref D) H) ∨ ((Itr lo n).go i H ∧ ∃ Nx : Hp → Prop, (∀ H', Nx H' → ∃ m', m' < m ∧ W (i + 1) m' H') ∧ ∀ x H', (Itr lo n).yld i H x H' → gName j x (wipe σ us) H' fun σ2 H2 => wipe σ2 us = wipe σ us ∧ tt σ2 H2 fun b H3 =>
    if b = true then te σ2 H3 fun y H4 => ∃ acc, H4 D = some (.lst acc) ∧ acc.length < sizeLine ∧ Nx (L2.upd H4 D (.lst (acc ++ [y]))) else Nx H3)
def rLcR1 (j : Nat) (tt : TT) (te : TE) (us : List Nat) (σ : L2.St) (vs : List V) (H1 : Hp) (Q : VK) : Prop := ∃ k : Int, vs = [.int k] ∧ -(2 ^ 62) ≤ k ∧ k < 2 ^ 62 ∧ rLcR j tt te us σ 0 k.toNat H1 Q
def rLcR2 (j : Nat) (tt : TT) (te : TE) (us : List Nat) (σ : L2.St) (vs : List V) (H1 : Hp) (Q : VK) : Prop := ∃ i k : Int, vs = [.int i, .int k] ∧ (-(2 ^ 62) ≤ i ∧ i < 2 ^ 62 ∧ -(2 ^ 62) ≤ k ∧ k < 2 ^ 62) ∧ rLcR j tt te us σ i (k - i).toNat H1 Q
theorem w_lcR1 (h : ta σ H fun ws H1 => rLcR1 j tt te vs σ ws H1 Q) : tLc (iRng1 ta) (gName j) tt te vs σ H Q := h
theorem w_lcR2 (h : ta σ H fun ws H1 => rLcR2 j tt te vs σ ws H1 Q) : tLc (iRng2 ta) (gName j) tt te vs σ H Q := h
theorem lc_rng_by {lo : Int} {n : Nat} (J : Nat → List PyData → Hp → Prop) (lj : LcJ H1 J) (hz : n ≤ 1000000) (hw : ∀ x, wipe ((wipe σ vs).set j (some x)) vs = wipe σ vs)
    (turn : ∀ (i : Nat) H' es, i < n → J i es H' → LcTurn K J tt te ((wipe σ vs).set j (some (.int (lo + (i : Int))))) i es H')
    (done : ∀ p H' vs es, H1 p = none → Keep H1 H' → H' p = some (.lst vs) → Dp K H' (.ref p) (.list es) → J n es H' → Q (.ref p) H') : rLcR j tt te vs σ lo n H1 Q := by
  refine fun D hD => lc_range (lo := lo) (n := n) (LcP K J D) ⟨[], [], upd_same, .nil, rfl, Nat.le_refl _, lj.start D hD⟩ (fun i H' hi p => ⟨hw _, lc_turn lj hD (by omega) p fun es q => turn i H' es hi q⟩) fun H' p => ?_
  obtain ⟨vs, es, p1, p2, p3, p4, p5⟩ := p
  exact done D H' vs es hD (lj.keep _ _ _ p5) p1 (dp_newL p1 p2) p5
theorem lc_rng1_by {k : Int} (J : Nat → List PyData → Hp → Prop) (lj : LcJ H1 J) (hz : 0 ≤ k ∧ k ≤ 1000000) (hw : ∀ x, wipe ((wipe σ vs).set j (some x)) vs = wipe σ vs)
    (turn : ∀ (i : Nat) H' es, (i : Int) < k → J i es H' → LcTurn K J tt te ((wipe σ vs).set j (some (.int (i : Int)))) i es H')
    (done : ∀ p H' vs es, H1 p = none → Keep H1 H' → H' p = some (.lst vs) → Dp K H' (.ref p) (.list es) → J k.toNat es H' → Q (.ref p) H') : rLcR1 j tt te vs σ [.int k] H1 Q := by
  refine ⟨k, rfl, by omega, by omega, lc_rng_by (K := K) J lj (by omega) hw (fun i H' es hi q => ?_) done⟩
  rw [Int.zero_add]
  exact turn i H' es (by omega) q
theorem lc_rng2_by {lo k : Int} (J : Nat → List PyData → Hp → Prop) (lj : LcJ H1 J) (hz : -1000000 ≤ lo ∧ lo ≤ 1000000 ∧ -1000000 ≤ k ∧ k ≤ 1000000 ∧ k - lo ≤ 1000000) (hw : ∀ x, wipe ((wipe σ vs).set j (some x)) vs = wipe σ vs)
    (turn : ∀ (i : Nat) H' es, lo + (i : Int) < k → J i es H' → LcTurn K J tt te ((wipe σ vs).set j (some (.int (lo + (i : Int))))) i es H')
    (done : ∀ p H' vs es, H1 p = none → Keep H1 H' → H' p = some (.lst vs) → Dp K H' (.ref p) (.list es) → J (k - lo).toNat es H' → Q (.ref p) H') : rLcR2 j tt te vs σ [.int lo, .int k] H1 Q :=
  ⟨lo, k, rfl, by omega, lc_rng_by (K := K) J lj (by omega) hw (fun i H' es hi q => turn i H' es (by omega) q) done⟩
theorem w_tYes {Q : Bool → Hp → Prop} (q : Q true H) : tYes σ H Q := q
/-- nothing but new objects: a word about the turns and the data -/
def JP (H1 : Hp) (R : Nat → List PyData → Prop) (i : Nat) (es : List PyData) (H' : Hp) : Prop := Same H1 H' ∧ R i es
theorem JP.ok {R : Nat → List PyData → Prop} (r0 : R 0 []) : LcJ H1 (JP H1 R) where
  start := fun D hD => ⟨same_new hD, r0⟩
  keep := fun _ _ _ h => Keep.of h.1
  upd := fun _ _ _ _ _ _ hD _ h => ⟨same_mut h.1 hD, h.2⟩
/-- .. and draws, at most n a turn -/
def JM (H1 : Hp) (m c : Addr) (b n : Nat) (R : Nat → List PyData → Prop) (i : Nat) (es : List PyData) (H' : Hp) : Prop := Keep H1 H' ∧ Mo H' m c (b + n * i) ∧ R i es
theorem JM.ok {m c : Addr} {b n : Nat} {R : Nat → List PyData → Prop} (hm : Mo H1 m c b) (r0 : R 0 []) : LcJ H1 (JM H1 m c b n R) where
  start := fun D hD => ⟨Keep.of (same_new hD), hm.new hD, r0⟩
  keep := fun _ _ _ h => h.1
  upd := fun _ _ _ _ _ _ hD hx h => ⟨keep_mut h.1 hD, h.2.1.upd hx (hm.ne hD), h.2.2⟩
end
end Tw
namespace Tw
open PySem PySem.Spec PyProof.Rows L2
/-! ### texts as lists of codes -/
def Sg (l : List Nat) : Str := ⟨l.toArray⟩
theorem sg_tl (l : List Nat) : (Sg l).cps.toList = l := by simp [Sg]
theorem sg_len (l : List Nat) : (Sg l).length = l.length := by simp [Sg, Str.length]
theorem sg_app (a b : List Nat) : Sg a ++ Sg b = Sg (a ++ b) := by
  show Str.append (Sg a) (Sg b) = _
  simp [Sg, Str.append]
theorem sg_inj {a b : List Nat} (h : Sg a = Sg b) : a = b := by
  have := congrArg (fun s : Str => s.cps.toList) h
  simpa [Sg] using this
theorem sg_eq {a b : List Nat} : Sg a = Sg b ↔ a = b := ⟨sg_inj, fun h => by rw [h]⟩
theorem sg_one (c : Nat) : (⟨#[c]⟩ : Str) = Sg [c] := rfl
theorem sg_of (s : Str) : ∃ l, s = Sg l := ⟨s.cps.toList, by simp [Sg]⟩
theorem sg_V {a b : List Nat} : (V.str (Sg a) = V.str (Sg b)) ↔ a = b := by
  constructor
  · intro h; exact sg_inj (V.str.inj h)
  · intro h; rw [h]
theorem sg_join (ys : List (List Nat)) : Txt.join (Sg []) (ys.map Sg) = Sg ys.flatten := by
  rw [TL.join_eq]
  induction ys with
  | nil => rfl
  | cons a r ih =>
    cases r with
    | nil => simp [Str.join]
    | cons b r =>
      show Str.append (Str.append (Sg a) (Sg [])) (Str.join (Sg []) (Sg b :: r.map Sg)) = _
      rw [show Sg b :: r.map Sg = (b :: r).map Sg from rfl, ih]
      simp [Sg, Str.append]
theorem sg_empty : Str.ofString "" = Sg [] := by decide +kernel
theorem sg_cut (l : List Nat) (lo hi : Option Int) : (⟨(cutD (Sg l).cps.toList lo hi).toArray⟩ : Str) = Sg (cutD l lo hi) := by simp [Sg]
section
variable {K : PySem.W.Frag} {H : Hp} {Q : VK} {v : V} {lo hi : Option Int}
theorem w_ixSg {l : List Nat} {n : Int} (hz : l.length ≤ 1000000) (h0 : 0 ≤ n) (h1 : n < (l.length : Int)) (q : ∀ c, l[n.toNat]? = some c → Q (.str (Sg [c])) H) : rIxS (.str (Sg l)) (.int n) H Q := by
  have hl : n.toNat < l.length := by omega
  have hs : sizeLine = 16777216 := sizeLine_eq
  exact w_ixS (j := n.toNat) (c := l[n.toNat]) (by rw [sg_len]; omega) (by omega) (by rw [sg_tl]; exact List.getElem?_eq_getElem hl) (q _ (List.getElem?_eq_getElem hl))
theorem w_ixSgLast {l : List Nat} (hz : l.length ≤ 1000000) (h1 : l ≠ []) (q : Q (.str (Sg [l.getLast h1])) H) : rIxS (.str (Sg l)) (.int (-1)) H Q := by
  have hs : sizeLine = 16777216 := sizeLine_eq
  refine ⟨Sg l, -1, l.getLast h1, rfl, rfl, by rw [sg_len]; omega, ?_, q⟩
  rw [sg_tl]
  have e : l = l.dropLast ++ [l.getLast h1] := (List.dropLast_concat_getLast h1).symm
  rw [show atI l (-1) = atI (l.dropLast ++ [l.getLast h1]) (-1) by rw [← e]]
  exact atI_last _ _
theorem w_lenSg {l : List Nat} (h : l.length ≤ 1000000) (q : Q (.int (l.length : Int)) H) : rLen K [.str (Sg l)] H Q := by
  have hs : sizeLine = 16777216 := sizeLine_eq
  refine w_lenS (by rw [sg_len]; omega) ?_
  rw [sg_len]; exact q
theorem w_addSg {a b : List Nat} (h : a.length + b.length ≤ 1000000) (q : Q (.str (Sg (a ++ b))) H) : rAddStr (.str (Sg a)) (.str (Sg b)) H Q := by
  have hs : sizeLine = 16777216 := sizeLine_eq
  refine w_addS (by rw [sg_len, sg_len]; omega) ?_
  rw [sg_app]; exact q
theorem w_slSg {l : List Nat} (h : l.length ≤ 1000000) (q : Q (.str (Sg (cutD l lo hi))) H) : rSlS (.str (Sg l)) lo hi H Q := by
  have hs : sizeLine = 16777216 := sizeLine_eq
  refine w_slS (by rw [sg_len]; omega) ?_
  rw [sg_cut]; exact q
theorem w_eqSg {a b : List Nat} (q1 : a = b → Q (.bl true) H) (q2 : a ≠ b → Q (.bl false) H) : rEq (.str (Sg a)) (.str (Sg b)) H Q := by
  refine ⟨rfl, ?_⟩
  by_cases h : a = b
  · rw [decide_eq_true (sg_V.mpr h)]; exact q1 h
  · rw [decide_eq_false (fun z => h (sg_V.mp z))]; exact q2 h
theorem w_neSg {a b : List Nat} (q1 : a = b → Q (.bl false) H) (q2 : a ≠ b → Q (.bl true) H) : rNe (.str (Sg a)) (.str (Sg b)) H Q := by
  refine ⟨rfl, ?_⟩
  by_cases h : a = b
  · rw [decide_eq_true (sg_V.mpr h)]; exact q1 h
  · rw [decide_eq_false (fun z => h (sg_V.mp z))]; exact q2 h
theorem w_joinSg {ys : List (List Nat)} (h : Dp K H v (.list (ys.map fun y => PyData.str (Sg y)))) (hz : ys.flatten.length ≤ 1000000) (q : Q (.str (Sg ys.flatten)) H) : rJoin K (.str (Sg [])) [v] H Q := by
  refine w_join (ys := ys.map Sg) (by rw [List.map_map]; exact h) ?_ (by rw [sg_join]; exact q)
  rw [List.map_map, sg_len, List.length_nil, Nat.mul_zero, Nat.add_zero]
  have e : (ys.map ((·.length) ∘ Sg)).sum = ys.flatten.length := by
    rw [List.length_flatten]
    congr 1
    first
    | done
    | (apply List.map_congr_left; intro a _; exact sg_len a)
  omega
end
section
variable {K : PySem.W.Frag} {H : Hp} {Q : VK} {v x : V} {ds : List PyData}
theorem cl_isi {X : Cx} {K : PySem.W.Frag} (h : X.K = K := by rfl) : CallR X (.builtin "isinstance") (rIsi K) := h ▸ call_isi
theorem w_isiY {t n : String} (ty : TyX K H x (.type t)) (h : kitB t n = some true) (q : Q (.bl true) H) : rIsi K [x, .ty n] H Q := ⟨x, .ty n, .type t, .type n, true, rfl, .ty n, ty, kit_ty h, q⟩
theorem w_isiN {t n : String} (ty : TyX K H x (.type t)) (h : kitB t n = some false) (q : Q (.bl false) H) : rIsi K [x, .ty n] H Q := ⟨x, .ty n, .type t, .type n, false, rfl, .ty n, ty, kit_ty h, q⟩
theorem ty_tup (h : Dp K H v (.tuple ds)) : TyX K H v (.type "tuple") := by
  obtain ⟨a, xs, rfl, hs, ha⟩ := dp_tup h
  rcases hs with (hs | ⟨o, hs⟩) | ⟨o, its, n, e, c, _⟩
  · exact .base (.tup hs)
  · exact .fTuple hs
  · exact .kTuple e c
theorem ty_lst (h : Dp K H v (.list ds)) : TyX K H v (.type "list") := by
  obtain ⟨a, xs, rfl, hs, ha⟩ := dp_lst h
  rcases hs with (hs | ⟨o, hs⟩) | ⟨o, its, n, e, c, _⟩
  · exact .base (.lst hs)
  · exact .base (.frz hs)
  · exact .kList e c
theorem ty_int {i : Int} : TyX K H (.int i) (.type "int") := .base (.int i)
theorem ty_non : TyX K H .non (.type "NoneType") := .base .non
theorem ty_bl {b : Bool} : TyX K H (.bl b) (.type "bool") := .base (.bl b)
theorem ty_str {s : Str} : TyX K H (.str s) (.type "str") := .base (.str s)
end
end Tw
namespace Tw
open PySem PySem.Spec PyProof.Rows L2
/-! ### ratios in lowest terms -/
def red (p q : Nat) : Nat × Nat := (p / Nat.gcd p q, q / Nat.gcd p q)
theorem red_pos {p q : Nat} (h : 0 < q) : 0 < (red p q).2 := Nat.div_pos (Nat.le_of_dvd h (Nat.gcd_dvd_right p q)) (Nat.gcd_pos_of_pos_right p h)
theorem red_coprime {p q : Nat} (h : 0 < q) : Nat.Coprime (red p q).1 (red p q).2 := Nat.coprime_div_gcd_div_gcd (Nat.gcd_pos_of_pos_right p h)
theorem red_cross {p q : Nat} : (red p q).1 * q = p * (red p q).2 := by
  have h1 := Nat.gcd_dvd_left p q
  have h2 := Nat.gcd_dvd_right p q
  show p / Nat.gcd p q * q = p * (q / Nat.gcd p q)
  rw [← Nat.mul_div_assoc p h2, Nat.div_mul_right_comm h1]
theorem red_unique {a b c d : Nat} (hb : 0 < b) (hd : 0 < d) (h1 : Nat.Coprime a b) (h2 : Nat.Coprime c d) (h : a * d = c * b) : a = c ∧ b = d := by
  have e1 : b ∣ d := h1.symm.dvd_of_dvd_mul_left (by rw [h]; exact Nat.dvd_mul_left b c)
  have e2 : d ∣ b := h2.symm.dvd_of_dvd_mul_left (by rw [← h]; exact Nat.dvd_mul_left d a)
  have e3 := Nat.dvd_antisymm e1 e2
  subst e3
  exact ⟨Nat.eq_of_mul_eq_mul_right hb h, rfl⟩
theorem red_eq {p q p' q' : Nat} (hq : 0 < q) (hq' : 0 < q') (h : p * q' = p' * q) : red p q = red p' q' := by
  have e := red_unique (red_pos (p := p) hq) (red_pos (p := p') hq') (red_coprime hq) (red_coprime hq') (by
    have h1 := red_cross (p := p) (q := q)
    have h2 := red_cross (p := p') (q := q')
    have h3 : (red p q).1 * (red p' q').2 * (q * q') = (red p' q').1 * (red p q).2 * (q * q') := by grind
    exact Nat.eq_of_mul_eq_mul_right (Nat.mul_pos hq hq') h3)
  exact Prod.ext e.1 e.2
theorem red_self {p q : Nat} (h : Nat.Coprime p q) : red p q = (p, q) := by
  unfold red
  rw [show Nat.gcd p q = 1 from h, Nat.div_one, Nat.div_one]
theorem red_of {x : Nat × Nat} {p q : Nat} (hx : Nat.Coprime x.1 x.2) (h0 : 0 < x.2) (hq : 0 < q) (h : x.1 * q = p * x.2) : red p q = x := by
  rw [← red_eq h0 hq h, red_self hx]
theorem red_le {p q : Nat} : (red p q).2 ≤ q := Nat.div_le_self _ _
theorem red_le1 {p q : Nat} : (red p q).1 ≤ p := Nat.div_le_self _ _
theorem red_dvd {p q : Nat} : (red p q).2 ∣ q := Nat.div_dvd_of_dvd (Nat.gcd_dvd_right p q)
theorem red_lt {p q : Nat} (h : p < q) : (red p q).1 < (red p q).2 := Nat.div_lt_div_of_lt_of_dvd (Nat.gcd_dvd_right p q) h
/-! ### places -/
def CN : Nat := 56525307072677432455503587098948920087821904549333509463754043204567040000
theorem CN_pos : 0 < CN := by decide +kernel
theorem CN_lt : CN < 2 ^ 250 := by decide +kernel
theorem CN_dvdAll : ∀ m : Fin 24, ∀ n : Fin 25, 1 ≤ n.val → m.val + n.val ≤ 24 → CN % (2 ^ m.val * (2 ^ n.val - 1)) = 0 := by decide +kernel
theorem CN_dvd {m n : Nat} (hn : 1 ≤ n) (h : m + n ≤ 24) : 2 ^ m * (2 ^ n - 1) ∣ CN := Nat.dvd_of_mod_eq_zero (CN_dvdAll ⟨m, by omega⟩ ⟨n, by omega⟩ hn h)
theorem two_pow_pos (n : Nat) : 0 < 2 ^ n := Nat.pow_pos (by decide)
theorem bot_pos {m n : Nat} (hn : 1 ≤ n) : 0 < 2 ^ m * (2 ^ n - 1) := by
  have h1 : 2 ≤ 2 ^ n := by
    calc 2 = 2 ^ 1 := rfl
      _ ≤ 2 ^ n := Nat.pow_le_pow_right (by decide) hn
  exact Nat.mul_pos (two_pow_pos m) (by omega)
theorem bot_lt {m n : Nat} (h : m + n ≤ 24) : 2 ^ m * (2 ^ n - 1) < 2 ^ 24 := by
  have h0 := two_pow_pos n
  have h1 := two_pow_pos m
  calc 2 ^ m * (2 ^ n - 1) < 2 ^ m * 2 ^ n := Nat.mul_lt_mul_of_pos_left (by omega) h1
    _ = 2 ^ (m + n) := (Nat.pow_add 2 m n).symm
    _ ≤ 2 ^ 24 := Nat.pow_le_pow_right (by decide) h
/-- a place -/
structure Plc (x : Nat × Nat) : Prop where
  lt : x.1 < x.2
  cop : Nat.Coprime x.1 x.2
  bot : ∃ m n, 1 ≤ n ∧ m + n ≤ 24 ∧ x.2 ∣ 2 ^ m * (2 ^ n - 1)
section
variable {x y z a b : Nat × Nat}
theorem Plc.dvd (h : Plc x) : x.2 ∣ CN := by
  obtain ⟨m, n, h1, h2, h3⟩ := h.bot
  exact Nat.dvd_trans h3 (CN_dvd h1 h2)
theorem Plc.pos (h : Plc x) : 0 < x.2 := Nat.lt_of_le_of_lt (Nat.zero_le _) h.lt
theorem Plc.small (h : Plc x) : x.2 < 2 ^ 24 := by
  obtain ⟨m, n, h1, h2, h3⟩ := h.bot
  exact Nat.lt_of_le_of_lt (Nat.le_of_dvd (bot_pos h1) h3) (bot_lt h2)
/-- steps of 1 / CN from zero -/
def sz (x : Nat × Nat) : Nat := x.1 * (CN / x.2)
theorem sz_mul (h : Plc x) : sz x * x.2 = x.1 * CN := by
  unfold sz
  rw [Nat.mul_assoc, Nat.div_mul_cancel h.dvd]
theorem sz_lt (h : Plc x) : sz x < CN := by
  have h1 := sz_mul h
  have h2 : sz x * x.2 < CN * x.2 := by
    rw [h1, Nat.mul_comm CN]
    exact Nat.mul_lt_mul_of_pos_right h.lt CN_pos
  exact Nat.lt_of_mul_lt_mul_right h2
theorem sz_red (h : Plc x) : red (sz x) CN = x := red_of h.cop h.pos CN_pos (sz_mul h).symm
theorem sz_inj (h : Plc x) (h' : Plc y) (e : sz x = sz y) : x = y := by rw [← sz_red h, ← sz_red h', e]
theorem sz_less (h : Plc x) (h' : Plc y) : (x.1 * y.2 < y.1 * x.2 ↔ sz x < sz y) := by
  have h1 := sz_mul h
  have h2 := sz_mul h'
  have p := h.pos
  have p' := h'.pos
  have e1 : x.1 * y.2 * CN = sz x * (x.2 * y.2) := by grind
  have e2 : y.1 * x.2 * CN = sz y * (x.2 * y.2) := by grind
  constructor
  · intro l
    have : x.1 * y.2 * CN < y.1 * x.2 * CN := Nat.mul_lt_mul_of_pos_right l CN_pos
    rw [e1, e2] at this
    exact Nat.lt_of_mul_lt_mul_right this
  · intro l
    have : sz x * (x.2 * y.2) < sz y * (x.2 * y.2) := Nat.mul_lt_mul_of_pos_right l (Nat.mul_pos p p')
    rw [← e1, ← e2] at this
    exact Nat.lt_of_mul_lt_mul_right this
/-- the way up from a to b -/
def wu (a b : Nat × Nat) : Nat := (sz b + (CN - sz a)) % CN
theorem wu_lt : wu a b < CN := Nat.mod_lt _ CN_pos
theorem wu_eq (ha : Plc a) (hb : Plc b) : wu a b = if sz a ≤ sz b then sz b - sz a else sz b + CN - sz a := by
  have h1 := sz_lt ha
  have h2 := sz_lt hb
  unfold wu
  split
  · rw [show sz b + (CN - sz a) = (sz b - sz a) + CN by omega, Nat.add_mod_right, Nat.mod_eq_of_lt (by omega)]
  · rw [Nat.mod_eq_of_lt (by omega)]; omega
theorem wu_int (ha : Plc a) (hb : Plc b) : ((sz b : Int) - sz a) % (CN : Int) = (wu a b : Int) := by
  have h1 := sz_lt ha
  have h2 := sz_lt hb
  rw [wu_eq ha hb]
  split
  · rw [Int.emod_eq_of_lt (by omega) (by omega)]; omega
  · rw [← Int.add_emod_right, Int.emod_eq_of_lt (by omega) (by omega)]; omega
def arcN (a b : Nat × Nat) : Nat × Nat := red (wu a b) CN
/-- the mirrored place -/
def mirN (x : Nat × Nat) : Nat × Nat := (if x.1 = 0 then 0 else x.2 - x.1, x.2)
theorem mir_plc (h : Plc x) : Plc (mirN x) := by
  have h1 := h.lt
  refine ⟨?_, ?_, h.bot⟩
  · show (if x.1 = 0 then 0 else x.2 - x.1) < x.2
    split <;> omega
  · show Nat.Coprime (if x.1 = 0 then 0 else x.2 - x.1) x.2
    have hc := h.cop
    split
    · rename_i e
      rw [e] at hc
      exact hc
    · unfold Nat.Coprime at hc ⊢
      rw [Nat.gcd_comm, Nat.gcd_self_sub_right (Nat.le_of_lt h1), Nat.gcd_comm]
      exact hc
theorem mir_sz (h : Plc x) : sz (mirN x) = if sz x = 0 then 0 else CN - sz x := by
  have h1 := sz_mul h
  have h3 := sz_mul (mir_plc h)
  have hp := h.pos
  have hl := h.lt
  have hs := sz_lt h
  have e2 : (mirN x).2 = x.2 := rfl
  have e1 : (mirN x).1 = if x.1 = 0 then 0 else x.2 - x.1 := rfl
  rw [e2, e1] at h3
  by_cases h0 : x.1 = 0
  · have : sz x = 0 := by unfold sz; rw [h0, Nat.zero_mul]
    rw [if_pos this]
    rw [if_pos h0, Nat.zero_mul] at h3
    rcases Nat.mul_eq_zero.mp h3 with h | h
    · exact h
    · omega
  · have hn : sz x ≠ 0 := by
      intro z
      rw [z, Nat.zero_mul] at h1
      rcases Nat.mul_eq_zero.mp h1.symm with h | h
      · exact h0 h
      · have := CN_pos; omega
    rw [if_neg hn]
    rw [if_neg h0, Nat.sub_mul, ← h1] at h3
    have e : sz (mirN x) * x.2 = (CN - sz x) * x.2 := by rw [h3, Nat.sub_mul, Nat.mul_comm CN]
    exact Nat.eq_of_mul_eq_mul_right hp e
theorem mir_wu (ha : Plc a) (hb : Plc b) : wu (mirN b) (mirN a) = wu a b := by
  have h1 := sz_lt ha
  have h2 := sz_lt hb
  rw [wu_eq (mir_plc hb) (mir_plc ha), wu_eq ha hb, mir_sz ha, mir_sz hb]
  (repeat' split) <;> omega
end
def pd (x : Nat × Nat) : PyData := .tuple [.int x.1, .int x.2]
theorem pd_inj {x y : Nat × Nat} (h : pd x = pd y) : x = y := by
  simp only [pd, PyData.tuple.injEq, List.cons.injEq, PyData.int.injEq, and_true] at h
  exact Prod.ext (by omega) (by omega)
theorem pd_pln {k : Nat} (x : Nat × Nat) : pln (k + 1) (pd x) = true := by
  cases k <;> simp [pd, pln]
theorem pd_noL (x : Nat × Nat) : noL (pd x) = true := rfl
end Tw
namespace Tw
open PySem PySem.Spec PyProof.Rows L2
theorem mir_int {x : Nat × Nat} (h : x.1 < x.2) : (-(x.1 : Int)) % (x.2 : Int) = ((mirN x).1 : Int) := by
  show _ = (((if x.1 = 0 then 0 else x.2 - x.1) : Nat) : Int)
  split
  · rename_i e; rw [e]; simp
  · rw [← Int.add_emod_right, Int.emod_eq_of_lt (by omega) (by omega)]; omega
/-! ### doubling -/
def dblN (x : Nat × Nat) : Nat × Nat := if x.2 % 2 = 0 then (x.1 % (x.2 / 2), x.2 / 2) else (2 * x.1 % x.2, x.2)
theorem odd_of_dvd {b n : Nat} (hn : 1 ≤ n) (h : b ∣ 2 ^ 0 * (2 ^ n - 1)) : b % 2 = 1 := by
  obtain ⟨k, hk⟩ := h
  rw [Nat.pow_zero, Nat.one_mul] at hk
  have h1 : 2 ^ n = 2 * 2 ^ (n - 1) := by rw [← Nat.pow_succ']; congr 1; omega
  have h0 := two_pow_pos (n - 1)
  rcases Nat.mod_two_eq_zero_or_one b with hb | hb
  · have hb2 : b = 2 * (b / 2) := by omega
    rw [hb2, Nat.mul_assoc] at hk
    omega
  · exact hb
theorem dbl_plc {x : Nat × Nat} (h : Plc x) : Plc (dblN x) := by
  obtain ⟨m, n, h1, h2, h3⟩ := h.bot
  have hp := h.pos
  have hl := h.lt
  have hc := h.cop
  unfold dblN
  split
  · rename_i e
    have hx : x.2 = 2 * (x.2 / 2) := by omega
    have hq : 0 < x.2 / 2 := by omega
    have hm : 1 ≤ m := by
      cases m with
      | zero => have := odd_of_dvd h1 h3; omega
      | succ m => omega
    refine ⟨Nat.mod_lt _ hq, ?_, m - 1, n, h1, by omega, ?_⟩
    · show Nat.Coprime (x.1 % (x.2 / 2)) (x.2 / 2)
      have hd : Nat.gcd x.1 (x.2 / 2) ∣ Nat.gcd x.1 x.2 := Nat.dvd_gcd (Nat.gcd_dvd_left _ _) (Nat.dvd_trans (Nat.gcd_dvd_right _ _) ⟨2, by omega⟩)
      rw [show Nat.gcd x.1 x.2 = 1 from hc] at hd
      unfold Nat.Coprime
      rw [← Nat.gcd_rec, Nat.gcd_comm]
      exact Nat.dvd_one.mp hd
    · show x.2 / 2 ∣ _
      have e2 : 2 ^ m = 2 * 2 ^ (m - 1) := by rw [← Nat.pow_succ']; congr 1; omega
      rw [hx, e2, Nat.mul_assoc] at h3
      exact Nat.dvd_of_mul_dvd_mul_left (by decide) h3
  · rename_i e
    refine ⟨Nat.mod_lt _ hp, ?_, m, n, h1, h2, h3⟩
    show Nat.Coprime (2 * x.1 % x.2) x.2
    unfold Nat.Coprime
    rw [← Nat.gcd_rec]
    have h2c : Nat.Coprime x.2 2 := by
      unfold Nat.Coprime
      rw [Nat.gcd_comm, Nat.gcd_rec, show x.2 % 2 = 1 by omega]
      rfl
    exact Nat.Coprime.mul_right h2c hc.symm
/-! ### digits -/
def bv (l : List Nat) : Nat := l.foldl (fun s c => 2 * s + (c - 48)) 0
def Dg (l : List Nat) : Prop := ∀ c ∈ l, c = 48 ∨ c = 49
theorem bv_snoc (l : List Nat) (c : Nat) : bv (l ++ [c]) = 2 * bv l + (c - 48) := by simp [bv, List.foldl_append]
theorem bv_lt : ∀ (l : List Nat), Dg l → bv l < 2 ^ l.length := by
  intro l
  induction hn : l.length generalizing l with
  | zero => intro _; rw [List.length_eq_zero_iff.mp hn]; decide
  | succ n ih =>
    intro h
    have hne : l ≠ [] := fun z => by rw [z] at hn; simp at hn
    have hl : l.dropLast.length = n := by rw [List.length_dropLast]; omega
    have h1 := ih l.dropLast hl (fun c hc => h c (List.dropLast_subset l hc))
    have h2 := h (l.getLast hne) (List.getLast_mem hne)
    rw [← List.dropLast_concat_getLast hne, bv_snoc, Nat.pow_succ]
    omega
def botN (h c : List Nat) : Nat := 2 ^ h.length * (2 ^ c.length - 1)
def binN (h c : List Nat) : Nat × Nat := red ((bv h * (2 ^ c.length - 1) + bv c) % botN h c) (botN h c)
theorem botN_pos {h c : List Nat} (hc : c ≠ []) : 0 < botN h c := bot_pos (List.length_pos_iff.mpr hc)
theorem bin_plc {h c : List Nat} (hc : c ≠ []) (hl : h.length + c.length ≤ 24) : Plc (binN h c) :=
  ⟨red_lt (Nat.mod_lt _ (botN_pos hc)), red_coprime (botN_pos hc), h.length, c.length, List.length_pos_iff.mpr hc, hl, red_dvd⟩
/-! ### what readings ask -/
section
variable {K : PySem.W.Frag} {σ : L2.St} {H : Hp} {Q : VK} {v y : V} {x : Nat × Nat} {p q : Nat}
theorem w_gcdN (h : Q (.int ((Nat.gcd p q : Nat) : Int)) H) : rGcd [.int (p : Int), .int (q : Int)] H Q := ⟨p, q, rfl, by simpa using h⟩
theorem w_ix0 (h : Dp K H v (pd x)) (q : Q (.int (x.1 : Int)) H) : rIxT K v (.int 0) H Q := w_ixT (j := 0) h rfl rfl fun v' hv => by cases hv; exact q
theorem w_ix1 (h : Dp K H v (pd x)) (q : Q (.int (x.2 : Int)) H) : rIxT K v (.int 1) H Q := w_ixT (j := 1) h rfl rfl fun v' hv => by cases hv; exact q
theorem w_gTupP {i j : Nat} {Q : L2.St → Hp → Prop} (h : Dp K H v (pd x)) (q : Q ((σ.set i (some (.int (x.1 : Int)))).set j (some (.int (x.2 : Int)))) H) : gTup K 2 (gCons (gName i) (gCons (gName j) gNil)) v σ H Q :=
  w_gTup2 h fun v1 v2 h1 h2 => by cases h1; cases h2; exact q
def rAbs : List V → Hp → VK → Prop := fun xs H Q => ∃ i, xs = [.int i] ∧ Q (.int (if i < 0 then -i else i)) H
theorem cl_abs {X : Cx} : CallR X (.builtin "abs") rAbs := call_abs
theorem w_absN (h : Q (.int (p : Int)) H) : rAbs [.int (p : Int)] H Q := ⟨p, rfl, by rw [if_neg (by omega)]; exact h⟩
theorem w_absI {i : Int} (h : Q (.int (i.natAbs : Int)) H) : rAbs [.int i] H Q := ⟨i, rfl, by
  rw [show (if i < 0 then -i else i) = (i.natAbs : Int) by split <;> omega]; exact h⟩
def rIntS : List V → Hp → VK → Prop := fun xs H Q => ∃ a n, xs = [.str a] ∧ PySem.intText? a = some n ∧ a.length ≤ 640 ∧ Q (.int n) H
theorem cl_intS {X : Cx} : CallR X (.type "int") rIntS := call_int_str
theorem int_0 : PySem.intText? (Sg [48]) = some 0 := by decide +kernel
theorem int_1 : PySem.intText? (Sg [49]) = some 1 := by decide +kernel
theorem w_intS {c : Nat} (hc : c = 48 ∨ c = 49) (h : Q (.int ((c - 48 : Nat) : Int)) H) : rIntS [.str (Sg [c])] H Q := by
  rcases hc with rfl | rfl
  · exact ⟨Sg [48], 0, rfl, int_0, by decide, h⟩
  · exact ⟨Sg [49], 1, rfl, int_1, by decide, h⟩
theorem op_inDK {X : Cx} {K : PySem.W.Frag} (hu : X.A.units + 65 < cLine) (h : X.K = K := by rfl) : OpR X (compareOp .In) (rInD K) := h ▸ op_inD hu
theorem op_notInDK {X : Cx} {K : PySem.W.Frag} (hu : X.A.units + 65 < cLine) (h : X.K = K := by rfl) : OpR X (compareOp .NotIn) (rNotInD K) := h ▸ op_notInD hu
theorem any_eqv {d : PyData} {ds : List PyData} (hd : pln 8 d = true) (hs : ∀ z ∈ ds, pln 8 z = true) : (ds.any fun z => PyData.eqv z d) = true ↔ d ∈ ds := by
  rw [List.any_eq_true]
  constructor
  · rintro ⟨z, hz, e⟩
    rw [(pln_eqv 8 8 z d (hs z hz) hd).mp e] at hz
    exact hz
  · intro h
    exact ⟨d, h, (pln_eqv 8 8 d d hd hd).mpr rfl⟩
theorem pln_list {k : Nat} {ds : List PyData} (h : ∀ z ∈ ds, pln k z = true) : pln (k + 1) (.list ds) = true := by simpa [pln] using h
theorem pln_tuple {k : Nat} {ds : List PyData} (h : ∀ z ∈ ds, pln k z = true) : pln (k + 1) (.tuple ds) = true := by simpa [pln] using h
theorem w_inP {d : PyData} {ds : List PyData} (h1 : Dp K H v d) (h2 : Dp K H y (.list ds)) (p1 : pln 8 d = true) (p2 : ∀ z ∈ ds, pln 8 z = true) (q1 : d ∈ ds → Q (.bl true) H) (q2 : d ∉ ds → Q (.bl false) H) : rInD K v y H Q := by
  refine ⟨d, ds, h1, h2, pln_shaped p1 (by decide), pln_shaped (pln_list p2) (by decide), ?_⟩
  have r := any_eqv p1 p2
  cases he : (ds.any fun z => PyData.eqv z d) with
  | true => exact q1 (r.mp he)
  | false => exact q2 (fun z => by rw [r.mpr z] at he; cases he)
theorem w_notInP {d : PyData} {ds : List PyData} (h1 : Dp K H v d) (h2 : Dp K H y (.list ds)) (p1 : pln 8 d = true) (p2 : ∀ z ∈ ds, pln 8 z = true) (q1 : d ∈ ds → Q (.bl false) H) (q2 : d ∉ ds → Q (.bl true) H) : rNotInD K v y H Q := by
  refine ⟨d, ds, h1, h2, pln_shaped p1 (by decide), pln_shaped (pln_list p2) (by decide), ?_⟩
  have r := any_eqv p1 p2
  cases he : (ds.any fun z => PyData.eqv z d) with
  | true => exact q1 (r.mp he)
  | false => exact q2 (fun z => by rw [r.mpr z] at he; cases he)
theorem Room65 {k : Nat} {A : Around} (r : Room k A) : A.units + 65 < cLine := by have := r.un; omega
end
/-! ### Euclid's steps -/
structure Eu (a b : Nat) (i a' b' : Nat) : Prop where
  g : Nat.gcd a' b' = Nat.gcd a b
  s : i = 0 → b' = b
  l : 1 ≤ i → b' < a' ∧ a' * b' * 2 ^ (i - 1) < 2 ^ 380 ∨ b' = 0
theorem Eu.start (a b : Nat) : Eu a b 0 a b := ⟨rfl, fun _ => rfl, fun h => by omega⟩
theorem Eu.step {a b i a' b' : Nat} (hb : b < 2 ^ 190) (h : Eu a b i a' b') (h0 : b' ≠ 0) : Eu a b (i + 1) b' (a' % b') := by
  have hlt : a' % b' < b' := Nat.mod_lt _ (by omega)
  refine ⟨?_, fun z => by omega, fun _ => ?_⟩
  · rw [← h.g, Nat.gcd_comm b', ← Nat.gcd_rec, Nat.gcd_comm]
  · left
    refine ⟨hlt, ?_⟩
    rw [Nat.add_sub_cancel]
    by_cases hi : i = 0
    · subst hi
      have e := h.s rfl
      subst e
      rw [Nat.pow_zero, Nat.mul_one]
      calc b' * (a' % b') ≤ b' * b' := Nat.mul_le_mul_left _ (Nat.le_of_lt hlt)
        _ < 2 ^ 190 * 2 ^ 190 := Nat.mul_lt_mul'' hb hb
        _ = 2 ^ 380 := by rw [← Nat.pow_add]
    · rcases h.l (by omega) with ⟨h1, h2⟩ | h1
      · have h3 : 2 * (a' % b') ≤ a' := by
          have := Nat.div_add_mod a' b'
          have : 1 ≤ a' / b' := Nat.div_pos (by omega) (by omega)
          have : b' * 1 ≤ b' * (a' / b') := Nat.mul_le_mul_left _ this
          omega
        have e : 2 ^ i = 2 * 2 ^ (i - 1) := by rw [← Nat.pow_succ']; congr 1; omega
        calc b' * (a' % b') * 2 ^ i = b' * (2 * (a' % b')) * 2 ^ (i - 1) := by rw [e]; grind
          _ ≤ b' * a' * 2 ^ (i - 1) := Nat.mul_le_mul_right _ (Nat.mul_le_mul_left _ h3)
          _ = a' * b' * 2 ^ (i - 1) := by rw [Nat.mul_comm b']
          _ < 2 ^ 380 := h2
      · exact absurd h1 h0
theorem Eu.done {a b i a' b' : Nat} (h : Eu a b i a' b') (hi : 382 ≤ i) : a' = Nat.gcd a b := by
  have : b' = 0 := by
    rcases h.l (by omega) with ⟨h1, h2⟩ | h1
    · by_cases hb : b' = 0
      · exact hb
      · exfalso
        have h3 : 1 ≤ a' * b' := Nat.mul_pos (by omega) (by omega)
        have h4 : 2 ^ 380 ≤ 2 ^ (i - 1) := Nat.pow_le_pow_right (by decide) (by omega)
        have h5 : 1 * 2 ^ (i - 1) ≤ a' * b' * 2 ^ (i - 1) := Nat.mul_le_mul_right _ h3
        omega
    · exact h1
  rw [← h.g, this, Nat.gcd_zero_right]
theorem Eu.zero {a b i a' : Nat} (h : Eu a b i a' 0) : a' = Nat.gcd a b := by rw [← h.g, Nat.gcd_zero_right]
end Tw
namespace Tw
open PySem PySem.Spec PyProof.Rows L2
/-- x lies between a and b, going up from a (by the law's own look) -/
def btw (a x b : Nat × Nat) : Prop := if sz a < sz b then sz a < sz x ∧ sz x < sz b else sz a < sz x ∨ sz x < sz b
instance {a x b : Nat × Nat} : Decidable (btw a x b) := by unfold btw; infer_instance
theorem btw_wu {a x b : Nat × Nat} (ha : Plc a) (hx : Plc x) (hb : Plc b) (h1 : x ≠ a) (h2 : x ≠ b) (h3 : a ≠ b) : btw a x b ↔ (0 < wu a x ∧ wu a x < wu a b) := by
  have s1 := sz_lt ha
  have s2 := sz_lt hx
  have s3 := sz_lt hb
  have n1 : sz x ≠ sz a := fun z => h1 (sz_inj hx ha z)
  have n2 : sz x ≠ sz b := fun z => h2 (sz_inj hx hb z)
  have n3 : sz a ≠ sz b := fun z => h3 (sz_inj ha hb z)
  rw [wu_eq ha hx, wu_eq ha hb]
  unfold btw
  (repeat' split) <;> omega
theorem wu_self {a : Nat × Nat} (ha : Plc a) : wu a a = 0 := by rw [wu_eq ha ha]; simp
theorem arc_top {a b : Nat × Nat} (ha : Plc a) (hb : Plc b) : ∃ n : Nat, (if 0 ≤ (b.1 : Int) * a.2 - (a.1 : Int) * b.2 then (b.1 : Int) * a.2 - (a.1 : Int) * b.2 else (b.1 : Int) * a.2 - (a.1 : Int) * b.2 + (a.2 : Int) * b.2) = (n : Int) ∧ n * CN = wu a b * (a.2 * b.2) := by
  have e1 := sz_mul ha
  have e2 := sz_mul hb
  have p1 := ha.lt
  have p2 := hb.lt
  have hl : (a.1 * b.2 ≤ b.1 * a.2 ↔ sz a ≤ sz b) := by
    have := sz_less hb ha
    omega
  have u1 : b.1 * a.2 * CN = sz b * (a.2 * b.2) := by grind
  have u2 : a.1 * b.2 * CN = sz a * (a.2 * b.2) := by grind
  have hab : a.1 * b.2 ≤ a.2 * b.2 := Nat.mul_le_mul_right _ (Nat.le_of_lt p1)
  have c1 : (b.1 : Int) * a.2 = ((b.1 * a.2 : Nat) : Int) := rfl
  have c2 : (a.1 : Int) * b.2 = ((a.1 * b.2 : Nat) : Int) := rfl
  have c3 : (a.2 : Int) * b.2 = ((a.2 * b.2 : Nat) : Int) := rfl
  rw [c1, c2, c3, wu_eq ha hb]
  have s1 := sz_lt ha
  by_cases h : sz a ≤ sz b
  · have h' := hl.mpr h
    refine ⟨b.1 * a.2 - a.1 * b.2, by rw [if_pos (by omega)]; omega, ?_⟩
    rw [if_pos h, Nat.sub_mul, Nat.sub_mul, u1, u2]
  · have h' : ¬ a.1 * b.2 ≤ b.1 * a.2 := fun z => h (hl.mp z)
    refine ⟨b.1 * a.2 + a.2 * b.2 - a.1 * b.2, by rw [if_neg (by omega)]; omega, ?_⟩
    rw [if_neg h, Nat.sub_mul, Nat.add_mul, u1, u2, Nat.sub_mul, Nat.add_mul, Nat.mul_comm CN]
/-- sums of arcs -/
theorem red_add {n k : Nat} {x y : Nat × Nat} (hx : x = red n CN) (hy : y = red k CN) : red (x.1 * y.2 + y.1 * x.2) (x.2 * y.2) = red (n + k) CN := by
  have h1 := red_cross (p := n) (q := CN)
  have h2 := red_cross (p := k) (q := CN)
  have p1 := red_pos (p := n) CN_pos
  have p2 := red_pos (p := k) CN_pos
  rw [← hx] at h1 p1
  rw [← hy] at h2 p2
  refine red_eq (Nat.mul_pos p1 p2) CN_pos ?_
  grind
theorem red_one : red CN CN = (1, 1) := by
  unfold red; rw [Nat.gcd_self, Nat.div_self CN_pos]
theorem red_two : red (2 * CN) CN = (2, 1) := by
  unfold red
  rw [Nat.gcd_comm, Nat.gcd_mul_left_right, Nat.div_self CN_pos, Nat.mul_div_cancel _ CN_pos]
theorem red_ne {n k : Nat} (h : red n CN = red k CN) : n = k := by
  have h1 := red_cross (p := n) (q := CN)
  have h2 := red_cross (p := k) (q := CN)
  have p1 := red_pos (p := n) CN_pos
  rw [h] at h1
  rw [h] at p1
  have := h1.symm.trans h2
  exact Nat.eq_of_mul_eq_mul_right p1 this
theorem arc_bd {a b : Nat × Nat} (ha : Plc a) (hb : Plc b) : 0 < (arcN a b).2 ∧ (arcN a b).2 < 2 ^ 48 ∧ (arcN a b).1 < 2 ^ 48 := by
  have p1 := ha.small
  have p3 := hb.small
  have hd : a.2 * b.2 < 2 ^ 48 := by
    calc a.2 * b.2 < 2 ^ 24 * 2 ^ 24 := Nat.mul_lt_mul'' p1 p3
      _ = 2 ^ 48 := by rw [← Nat.pow_add]
  have hpos : 0 < a.2 * b.2 := Nat.mul_pos ha.pos hb.pos
  obtain ⟨n, _, hn⟩ := arc_top ha hb
  have e : arcN a b = red n (a.2 * b.2) := (red_eq hpos CN_pos hn).symm
  have h1 := red_le (p := n) (q := a.2 * b.2)
  have h2 := red_pos (p := n) hpos
  have h3 : (arcN a b).1 < (arcN a b).2 := red_lt wu_lt
  rw [← e] at h1 h2
  omega
theorem wu_back {a b : Nat × Nat} (ha : Plc a) (hb : Plc b) (h : a ≠ b) : wu a b + wu b a = CN := by
  have s1 := sz_lt ha
  have s3 := sz_lt hb
  have n3 : sz a ≠ sz b := fun z => h (sz_inj ha hb z)
  rw [wu_eq ha hb, wu_eq hb ha]
  (repeat' split) <;> omega
theorem arc_mir {a b : Nat × Nat} (ha : Plc a) (hb : Plc b) : arcN (mirN b) (mirN a) = arcN a b := by unfold arcN; rw [mir_wu ha hb]
theorem sum_bd {a x b : Nat × Nat} (ha : Plc a) (hx : Plc x) (hb : Plc b) :
    0 < (red ((arcN a x).1 * (arcN x b).2 + (arcN x b).1 * (arcN a x).2) ((arcN a x).2 * (arcN x b).2)).2 ∧ (red ((arcN a x).1 * (arcN x b).2 + (arcN x b).1 * (arcN a x).2) ((arcN a x).2 * (arcN x b).2)).2 < 2 ^ 96 ∧
    (red ((arcN a x).1 * (arcN x b).2 + (arcN x b).1 * (arcN a x).2) ((arcN a x).2 * (arcN x b).2)).1 < 2 ^ 97 := by
  have b1 := arc_bd ha hx
  have b2 := arc_bd hx hb
  have hq : (arcN a x).2 * (arcN x b).2 < 2 ^ 96 := by
    calc (arcN a x).2 * (arcN x b).2 < 2 ^ 48 * 2 ^ 48 := Nat.mul_lt_mul'' b1.2.1 b2.2.1
      _ = 2 ^ 96 := by rw [← Nat.pow_add]
  have h1 : (arcN a x).1 * (arcN x b).2 < 2 ^ 96 := by
    calc (arcN a x).1 * (arcN x b).2 < 2 ^ 48 * 2 ^ 48 := Nat.mul_lt_mul'' b1.2.2 b2.2.1
      _ = 2 ^ 96 := by rw [← Nat.pow_add]
  have h2 : (arcN x b).1 * (arcN a x).2 < 2 ^ 96 := by
    calc (arcN x b).1 * (arcN a x).2 < 2 ^ 48 * 2 ^ 48 := Nat.mul_lt_mul'' b2.2.2 b1.2.1
      _ = 2 ^ 96 := by rw [← Nat.pow_add]
  exact ⟨red_pos (Nat.mul_pos b1.1 b2.1), Nat.lt_of_le_of_lt red_le hq, Nat.lt_of_le_of_lt red_le1 (by omega)⟩
end Tw
namespace Tw
open PySem PySem.Spec PyProof.Rows L2
/-! ### a text's first occurrence from a place on -/
section
open PySem.StrLaws PySem.Builtin PySem.Builtin.Str
theorem occ_full (s sub : Str) (hi : Nat) : ∀ (l : List Nat) (st : Array Nat × Nat), st.fst.size = 1 → (forIn l st (occBody s sub hi 1)).run.fst = st.fst
  | [], st, h => rfl
  | a :: l, st, h => by
    rw [List.forIn_cons]
    unfold occBody
    rw [if_neg (fun z => by have := z.1.1.1; omega)]
    exact occ_full s sub hi l _ h
theorem occ_first (s sub : Str) (hi p : Nat) : ∀ (l1 l2 : List Nat) (free : Nat), (∀ i ∈ l1, ¬ (i + sub.length ≤ hi ∧ subAt s sub i = true)) → free ≤ p → p + sub.length ≤ hi → subAt s sub p = true →
    (forIn (l1 ++ p :: l2) ((#[] : Array Nat), free) (occBody s sub hi 1)).run.fst = #[p]
  | [], l2, free, _, hf, h1, h2 => by
    rw [List.nil_append, List.forIn_cons]
    unfold occBody
    rw [if_pos ⟨⟨⟨by simp, hf⟩, h1⟩, h2⟩]
    exact occ_full s sub hi l2 _ (by simp)
  | a :: l1, l2, free, h, hf, h1, h2 => by
    rw [List.cons_append, List.forIn_cons]
    unfold occBody
    rw [if_neg (fun z => h a List.mem_cons_self ⟨z.1.2, z.2⟩)]
    exact occ_first s sub hi p l1 l2 free (fun i hi' => h i (List.mem_cons_of_mem _ hi')) hf h1 h2
theorem find3_first {x y : Str} {p : Nat} (hp : 1 ≤ p) (h1 : p + y.length ≤ x.length) (h2 : subAt x y p = true) (h3 : ∀ i, 1 ≤ i → i < p → subAt x y i = false) : Txt.find3 x y 1 = (p : Int) := by
  have e : occurrences x y (fromIndex x.length 1) x.length 1 = [p] := by
    rw [show fromIndex x.length 1 = 1 from rfl, occ_eq]
    have es : List.range' 1 (x.length + 1 - 1) = List.range' 1 (p - 1) ++ p :: List.range' (p + 1) (x.length - p) := by
      rw [show x.length + 1 - 1 = (p - 1) + (x.length - p + 1) by omega, ← List.range'_append_1, show 1 + (p - 1) = p by omega]
      rfl
    rw [es, occ_first x y x.length p _ _ 1 (fun i hi hc => ?_) hp h1 h2]
    obtain ⟨i1, i2⟩ := List.mem_range'_1.mp hi
    rw [h3 i i1 (by omega)] at hc
    exact absurd hc.2 Bool.false_ne_true
  unfold Txt.find3
  rw [e]
end
/-! ### endless rows -/
def cz (c : List Nat) (z : Int) : Nat := c.getD (z % (c.length : Int)).toNat 0
def rz (h c : List Nat) (k : Int) : Nat := if k < h.length then h.getD k.toNat 0 else cz c (k - h.length)
def Per (c : List Nat) (p : Int) : Prop := ∀ z, cz c (z + p) = cz c z
theorem per_len (c : List Nat) : Per c c.length := fun z => by unfold cz; rw [Int.add_emod_right]
theorem Per.add {c : List Nat} {p q : Int} (a : Per c p) (b : Per c q) : Per c (p + q) := fun z => by rw [← Int.add_assoc, b, a]
theorem Per.neg {c : List Nat} {p : Int} (a : Per c p) : Per c (-p) := fun z => by
  have := a (z + -p)
  rw [show z + -p + p = z by omega] at this
  exact this.symm
theorem Per.mul {c : List Nat} {p : Int} (a : Per c p) : ∀ n : Nat, Per c (p * n)
  | 0 => fun z => by simp
  | n + 1 => by
    have := (Per.mul a n).add a
    rw [show p * ((n + 1 : Nat) : Int) = p * n + p by rw [Int.natCast_add, Int.mul_add]; simp]
    exact this
theorem Per.mulz {c : List Nat} {p : Int} (a : Per c p) (k : Int) : Per c (p * k) := by
  rcases Int.natAbs_eq k with e | e
  · rw [e]; exact a.mul _
  · rw [e, Int.mul_neg]; exact (a.mul _).neg
theorem Per.emod {c : List Nat} {p q : Int} (a : Per c p) (b : Per c q) : Per c (q % p) := by
  rw [Int.emod_def]
  have := b.add (a.mulz (q / p)).neg
  rw [← Int.sub_eq_add_neg] at this
  exact this
/-- the least period -/
def MinP (c : List Nat) (p : Nat) : Prop := 0 < p ∧ Per c p ∧ ∀ q : Nat, 0 < q → q < p → ¬ Per c q
theorem MinP.dvd {c : List Nat} {p n : Nat} (h : MinP c p) (hn : Per c n) : p ∣ n := by
  have h1 := h.2.1.emod hn
  by_cases h0 : n % p = 0
  · exact Nat.dvd_of_mod_eq_zero h0
  · refine absurd ?_ (h.2.2 (n % p) (by omega) (Nat.mod_lt _ h.1))
    rw [Int.natCast_emod]
    exact h1
theorem minP_exists (c : List Nat) (hc : c ≠ []) : ∃ p, MinP c p := by
  have hl : 0 < c.length := List.length_pos_iff.mpr hc
  have key : ∀ n : Nat, ∀ q : Nat, q ≤ n → 0 < q → Per c q → ∃ p, MinP c p := by
    intro n
    induction n with
    | zero => intro q h1 h2; omega
    | succ n ih =>
      intro q h1 h2 h3
      by_cases hm : ∃ r : Nat, 0 < r ∧ r < q ∧ Per c r
      · obtain ⟨r, r1, r2, r3⟩ := hm
        exact ih r (by omega) r1 r3
      · exact ⟨q, h2, h3, fun r r1 r2 r3 => hm ⟨r, r1, r2, r3⟩⟩
  exact key c.length c.length (Nat.le_refl _) hl (per_len c)
theorem cz_nat {c : List Nat} {i : Nat} (h : i < c.length) : cz c i = c[i] := by
  unfold cz
  rw [Int.emod_eq_of_lt (by omega) (by omega), Int.toNat_natCast, List.getD_eq_getElem?_getD, List.getElem?_eq_getElem h]
  rfl
theorem cz_last {c : List Nat} (h : c ≠ []) : cz c (-1) = c.getLast h := by
  have hl : 0 < c.length := List.length_pos_iff.mpr h
  have := per_len c (-1)
  rw [← this, show (-1 : Int) + c.length = ((c.length - 1 : Nat) : Int) by omega, cz_nat (by omega), List.getLast_eq_getElem]
theorem cz_ext {c d : List Nat} (hl : c.length = d.length) (h : ∀ i : Nat, i < c.length → cz c i = cz d i) : c = d := by
  refine List.ext_getElem hl fun i h1 h2 => ?_
  have := h i h1
  rw [cz_nat h1, cz_nat h2] at this
  exact this
/-- a row in its least form -/
structure LF (h c : List Nat) : Prop where
  ne : c ≠ []
  min : MinP c c.length
  last : ∀ e : h ≠ [], h.getLast e ≠ cz c (-1)
theorem rz_lt {h c : List Nat} {i : Nat} (hi : i < h.length) : rz h c i = h[i] := by
  unfold rz
  rw [if_pos (by omega), Int.toNat_natCast, List.getD_eq_getElem?_getD, List.getElem?_eq_getElem hi]
  rfl
theorem rz_ge {h c : List Nat} {k : Int} (hk : (h.length : Int) ≤ k) : rz h c k = cz c (k - h.length) := by
  unfold rz
  rw [if_neg (by omega)]
/-- two sequences that repeat and agree from a place on agree -/
theorem agree {c d : List Nat} (hc : c ≠ []) (hd : d ≠ []) {s : Int} (h : ∀ z : Int, 0 ≤ z → cz c (z + s) = cz d z) (z : Int) : cz c (z + s) = cz d z := by
  have lc : 0 < c.length := List.length_pos_iff.mpr hc
  have ld : 0 < d.length := List.length_pos_iff.mpr hd
  have p1 := (per_len c).mul (d.length * z.natAbs) (z + s)
  have p2 := (per_len d).mul (c.length * z.natAbs) z
  have e : (c.length : Int) * ((d.length * z.natAbs : Nat) : Int) = (d.length : Int) * ((c.length * z.natAbs : Nat) : Int) := by
    rw [Int.natCast_mul, Int.natCast_mul, ← Int.mul_assoc, ← Int.mul_assoc, Int.mul_comm (c.length : Int)]
  have hz : (z.natAbs : Int) ≤ (d.length : Int) * ((c.length * z.natAbs : Nat) : Int) := by
    have : 1 * z.natAbs ≤ (d.length * c.length) * z.natAbs := Nat.mul_le_mul_right _ (Nat.mul_pos ld lc)
    rw [Nat.one_mul, Nat.mul_assoc] at this
    exact_mod_cast this
  rw [← p1, ← p2, e, ← h _ (by omega)]
  congr 1
  omega
theorem LF.unique_le {h c h' c' : List Nat} (a : LF h c) (b : LF h' c') (hle : h.length ≤ h'.length) (e : ∀ k : Nat, rz h c k = rz h' c' k) : h = h' ∧ c = c' := by
  have ag := agree (s := (h'.length : Int) - h.length) a.ne b.ne (fun z hz => by
    have := e (z + h'.length).toNat
    rw [rz_ge (by omega), rz_ge (by omega)] at this
    rw [show (((z + (h'.length : Int)).toNat : Nat) : Int) = z + h'.length by omega] at this
    rw [show z + (h'.length : Int) - h'.length = z by omega] at this
    rw [← this]
    congr 1
    omega)
  have per_iff : ∀ p : Int, Per c p ↔ Per c' p := by
    intro p
    constructor
    · intro hp z
      rw [← ag, ← ag, show z + p + ((h'.length : Int) - h.length) = (z + ((h'.length : Int) - h.length)) + p by omega, hp]
    · intro hp z
      have h1 := ag (z + p - ((h'.length : Int) - h.length))
      have h2 := ag (z - ((h'.length : Int) - h.length))
      rw [show z + p - ((h'.length : Int) - h.length) + ((h'.length : Int) - h.length) = z + p by omega] at h1
      rw [show z - ((h'.length : Int) - h.length) + ((h'.length : Int) - h.length) = z by omega] at h2
      rw [h1, h2, show z + p - ((h'.length : Int) - h.length) = (z - ((h'.length : Int) - h.length)) + p by omega, hp]
  have hlen : c.length = c'.length := by
    have d1 := a.min.dvd ((per_iff _).mpr (per_len c'))
    have d2 := b.min.dvd ((per_iff _).mp (per_len c))
    exact Nat.dvd_antisymm d1 d2
  have hh : h.length = h'.length := by
    by_cases z : h.length = h'.length
    · exact z
    · exfalso
      have hne : h' ≠ [] := fun q => by rw [q] at hle z; simp at hle; simp [hle] at z
      have l := b.last hne
      apply l
      have hp : 0 < h'.length := List.length_pos_iff.mpr hne
      have := e (h'.length - 1)
      rw [rz_lt (show h'.length - 1 < h'.length by omega), rz_ge (by omega)] at this
      rw [List.getLast_eq_getElem, ← this, ← ag]
      congr 1
      omega
  refine ⟨List.ext_getElem hh fun i h1 h2 => ?_, cz_ext hlen fun i _ => ?_⟩
  · have := e i
    rw [rz_lt h1, rz_lt h2] at this
    exact this
  · have := ag i
    rw [show (i : Int) + ((h'.length : Int) - h.length) = i by omega] at this
    exact this
theorem LF.unique {h c h' c' : List Nat} (a : LF h c) (b : LF h' c') (e : ∀ k : Nat, rz h c k = rz h' c' k) : h = h' ∧ c = c' := by
  rcases Nat.le_total h.length h'.length with l | l
  · exact a.unique_le b l e
  · obtain ⟨x, y⟩ := b.unique_le a l fun k => (e k).symm
    exact ⟨x.symm, y.symm⟩
/-- rows that agree long enough agree for ever -/
theorem rz_agree {h c h' c' : List Nat} {N : Nat} (hc : c ≠ []) (hc' : c' ≠ []) (h1 : h.length ≤ N) (h2 : h'.length ≤ N) (e : ∀ k : Nat, k < N + c.length + c'.length → rz h c k = rz h' c' k) : ∀ k : Nat, rz h c k = rz h' c' k := by
  have l1 : 0 < c.length := List.length_pos_iff.mpr hc
  have l2 : 0 < c'.length := List.length_pos_iff.mpr hc'
  have s1 : ∀ k : Nat, N + c.length ≤ k → rz h c k = rz h c (k - c.length : Nat) := fun k hk => by
    rw [rz_ge (by omega), rz_ge (by omega), ← per_len c (((k - c.length : Nat) : Int) - h.length)]
    congr 1; omega
  have s2 : ∀ k : Nat, N + c'.length ≤ k → rz h' c' k = rz h' c' (k - c'.length : Nat) := fun k hk => by
    rw [rz_ge (by omega), rz_ge (by omega), ← per_len c' (((k - c'.length : Nat) : Int) - h'.length)]
    congr 1; omega
  have all : ∀ n : Nat, ∀ k : Nat, k < n → rz h c k = rz h' c' k := by
    intro n
    induction n with
    | zero => intro k hk; omega
    | succ n ih =>
      intro k hk
      by_cases hs : k < N + c.length + c'.length
      · exact e k hs
      · rw [s1 k (by omega), ih (k - c.length) (by omega), s2 (k - c.length) (by omega), ← ih (k - c.length - c'.length) (by omega), s2 k (by omega), ← ih (k - c'.length) (by omega), s1 (k - c'.length) (by omega)]
        congr 1; omega
  intro k
  exact all (k + 1) k (by omega)
end Tw
namespace Tw
open PySem PySem.Spec PyProof.Rows L2
/-- a text written n times -/
def rMulS : R2 := fun x y H Q => ∃ (l : List Nat) (n : Int), x = .str (Sg l) ∧ y = .int n ∧ 0 ≤ n ∧ n ≤ 1000 ∧ l.length ≤ 1000 ∧ Q (.str (Sg (List.replicate n.toNat l).flatten)) H
theorem rep_fold (x : Array Nat) : ∀ (n : Nat) (a : Array Nat), ((List.replicate n x).foldl (· ++ ·) a).toList = a.toList ++ (List.replicate n x.toList).flatten
  | 0, a => by simp
  | n + 1, a => by
    rw [List.replicate_succ, List.foldl_cons, rep_fold x n, List.replicate_succ, List.flatten_cons]
    simp
theorem op_mulStr {X : Cx} : OpR X (binaryOp .Mult) rMulS := by
  intro pins s σ H x y v u Q I rx ry h
  obtain ⟨l, n, rfl, rfl, h0, h1, hl, q⟩ := h
  obtain ⟨t, rfl⟩ := rx
  obtain ⟨t', rfl⟩ := ry
  have hlen : (Sg l).length = l.length := sg_len l
  have hz : sizeLine = 16777216 := sizeLine_eq
  have hprod : l.length * n.toNat ≤ 1000 * 1000 := Nat.mul_le_mul hl (by omega)
  refine PySem.P.mul_str (by simp; omega) (fun hn _ => ?_) (fun _ _ => ?_) ?_
  · rw [hlen]
    have : (1000 : Int) ≤ (2 ^ 63 - 1) / n := by
      rw [Int.le_ediv_iff_mul_le (by omega)]
      omega
    omega
  · rw [hlen]
    unfold Builtin.Str.tooLong
    rw [decide_eq_false_iff_not]
    omega
  · split
    · rename_i hn
      have hn0 : n = 0 := by omega
      subst hn0
      exact ⟨by decide, .str (Sg []), H, I.tok _, ⟨_, rfl⟩, q⟩
    · rename_i hn
      split
      · rename_i hc
        have e : (List.replicate n.toNat l).flatten = l := by
          rw [Bool.or_eq_true, beq_iff_eq, beq_iff_eq, hlen] at hc
          rcases hc with hc | hc
          · subst hc; simp
          · have : l = [] := List.length_eq_zero_iff.mp hc
            subst this; simp
        rw [e] at q
        exact ⟨.str (Sg l), H, I, ⟨_, rfl⟩, q⟩
      · have e : (⟨(List.replicate n.toNat (Sg l).cps).foldl (· ++ ·) #[]⟩ : Str) = Sg (List.replicate n.toNat l).flatten := by
          have := rep_fold (Sg l).cps n.toNat #[]
          rw [sg_tl] at this
          show (⟨_⟩ : Str) = ⟨_⟩
          congr 1
          apply Array.toList_inj.mp
          rw [this]
          simp
        rw [e]
        refine ⟨?_, .str _, H, I.tok _, ⟨_, rfl⟩, q⟩
        rw [sg_len, List.length_flatten, List.map_replicate, List.sum_replicate_nat, Nat.mul_comm]
        omega
theorem w_mulS {l : List Nat} {n : Int} {H : Hp} {Q : VK} (h : 0 ≤ n ∧ n ≤ 1000) (hl : l.length ≤ 1000) (q : Q (.str (Sg (List.replicate n.toNat l).flatten)) H) : rMulS (.str (Sg l)) (.int n) H Q := ⟨l, n, rfl, rfl, h.1, h.2, hl, q⟩
end Tw
namespace Tw
open PySem PySem.Spec PyProof.Rows L2
theorem cz_ix {c : List Nat} {p : Nat} (hp : Per c p) (h0 : 0 < p) (hl : p ≤ c.length) (z : Int) : c[(z % (p : Int)).toNat]? = some (cz c z) := by
  have r0 := Int.emod_nonneg z (b := (p : Int)) (by omega)
  have r1 := Int.emod_lt_of_pos z (b := (p : Int)) (by omega)
  have e : cz c z = cz c (z % p) := by
    have := hp.mulz (z / p) (z % p)
    rw [← this]
    congr 1
    have := Int.emod_add_mul_ediv z p
    omega
  rw [e]
  obtain ⟨r, hr⟩ : ∃ r : Nat, z % (p : Int) = r := ⟨(z % (p : Int)).toNat, by omega⟩
  rw [hr, Int.toNat_natCast, cz_nat (by omega)]
  exact List.getElem?_eq_getElem (by omega)
theorem MinP.le {c : List Nat} {p : Nat} (h : MinP c p) (hc : c ≠ []) : p ≤ c.length := Nat.le_of_dvd (List.length_pos_iff.mpr hc) (h.dvd (per_len c))
theorem per_of {c : List Nat} (hc : c ≠ []) {i : Nat} (h : ∀ j : Nat, j < c.length → cz c (j + i) = cz c j) : Per c i := by
  have hl : 0 < c.length := List.length_pos_iff.mpr hc
  intro z
  have r0 := Int.emod_nonneg z (b := (c.length : Int)) (by omega)
  have r1 := Int.emod_lt_of_pos z (b := (c.length : Int)) (by omega)
  have e := Int.emod_add_mul_ediv z c.length
  have p1 := (per_len c).mulz (z / c.length) (z % c.length + i)
  have p2 := (per_len c).mulz (z / c.length) (z % c.length)
  rw [show z % (c.length : Int) + i + c.length * (z / c.length) = z + i by omega] at p1
  rw [e] at p2
  rw [p1, p2]
  obtain ⟨r, hr⟩ : ∃ r : Nat, z % (c.length : Int) = r := ⟨(z % (c.length : Int)).toNat, by omega⟩
  rw [hr]
  exact h r (by omega)
theorem dbl_ix {c : List Nat} {i : Nat} (h : i < c.length + c.length) : (c ++ c)[i]? = some (cz c i) := by
  by_cases hi : i < c.length
  · rw [List.getElem?_append_left hi, List.getElem?_eq_getElem hi, cz_nat hi]
  · rw [List.getElem?_append_right (by omega), List.getElem?_eq_getElem (by omega)]
    have := per_len c ((i - c.length : Nat) : Int)
    rw [show ((i - c.length : Nat) : Int) + c.length = i by omega, cz_nat (i := i - c.length) (by omega)] at this
    rw [this]
theorem subAt_per {c : List Nat} (hc : c ≠ []) {i : Nat} (hi : i ≤ c.length) : Builtin.Str.subAt (Sg (c ++ c)) (Sg c) i = true ↔ Per c i := by
  rw [PySem.StrLaws.subAt_eq, sg_tl, sg_tl, sg_len, beq_iff_eq]
  constructor
  · intro h
    refine per_of hc fun j hj => ?_
    have h1 : (((c ++ c).drop i).take c.length)[j]? = c[j]? := by rw [h]
    rw [List.getElem?_take_of_lt hj, List.getElem?_drop, dbl_ix (by omega), List.getElem?_eq_getElem hj] at h1
    have h2 := Option.some.inj h1
    rw [cz_nat hj, ← h2]
    congr 1
    omega
  · intro h
    refine List.ext_getElem? fun j => ?_
    by_cases hj : j < c.length
    · rw [List.getElem?_take_of_lt hj, List.getElem?_drop, dbl_ix (by omega), List.getElem?_eq_getElem hj]
      congr 1
      have := h j
      rw [cz_nat hj] at this
      rw [← this]
      congr 1
      omega
    · rw [List.getElem?_eq_none (by rw [List.length_take]; omega), List.getElem?_eq_none (by omega)]
theorem find_again {c : List Nat} (hc : c ≠ []) {p : Nat} (h : MinP c p) : Txt.find3 (Sg (c ++ c)) (Sg c) 1 = (p : Int) := by
  have hl := h.le hc
  refine find3_first h.1 (by rw [sg_len, sg_len, List.length_append]; omega) ((subAt_per hc hl).mpr h.2.1) fun i h1 h2 => ?_
  rw [← Bool.not_eq_true]
  intro z
  exact h.2.2 i h1 h2 ((subAt_per hc (by omega)).mp z)
/-- begun s marks later -/
theorem rot_cz {c : List Nat} {p s : Nat} (hp : Per c p) (hs : s < p) (hl : p ≤ c.length) : ((c.take p).drop s ++ c.take s).length = p ∧ ∀ z, cz ((c.take p).drop s ++ c.take s) z = cz c (z + s) := by
  have len : ((c.take p).drop s ++ c.take s).length = p := by simp only [List.length_append, List.length_drop, List.length_take]; omega
  refine ⟨len, fun z => ?_⟩
  have r0 := Int.emod_nonneg z (b := (p : Int)) (by omega)
  have r1 := Int.emod_lt_of_pos z (b := (p : Int)) (by omega)
  have e : cz c (z + s) = cz c (z % p + s) := by
    have := hp.mulz (z / p) (z % p + s)
    rw [← this]
    congr 1
    have := Int.emod_add_mul_ediv z p
    omega
  rw [e]
  unfold cz
  rw [len]
  obtain ⟨r, hr⟩ : ∃ r : Nat, z % (p : Int) = r := ⟨(z % (p : Int)).toNat, by omega⟩
  rw [hr, Int.toNat_natCast, List.getD_eq_getElem?_getD, List.getD_eq_getElem?_getD]
  by_cases h : r < p - s
  · rw [List.getElem?_append_left (by simp only [List.length_drop, List.length_take]; omega), List.getElem?_drop, List.getElem?_take_of_lt (by omega), Int.emod_eq_of_lt (by omega) (by omega)]
    congr 2
    omega
  · rw [List.getElem?_append_right (by simp only [List.length_drop, List.length_take]; omega), List.getElem?_take_of_lt (by simp only [List.length_drop, List.length_take]; omega)]
    have q := hp ((r + s - p : Nat) : Int)
    rw [show ((r + s - p : Nat) : Int) + p = (r : Int) + s by omega] at q
    unfold cz at q
    rw [List.getD_eq_getElem?_getD, List.getD_eq_getElem?_getD] at q
    rw [q, Int.emod_eq_of_lt (by omega) (by omega), Int.toNat_natCast]
    congr 2
    simp only [List.length_drop, List.length_take]
    omega
theorem minP_shift {c d : List Nat} {s : Int} {p : Nat} (h : ∀ z, cz d z = cz c (z + s)) (m : MinP c p) : MinP d p := by
  have key : ∀ q : Int, Per c q ↔ Per d q := by
    intro q
    constructor
    · intro hq z
      rw [h, h, show z + q + s = (z + s) + q by omega, hq]
    · intro hq z
      have := hq (z - s)
      rw [h, h] at this
      rw [show z - s + q + s = z + q by omega, show z - s + s = z by omega] at this
      exact this
  exact ⟨m.1, (key _).mp m.2.1, fun q h1 h2 h3 => m.2.2 q h1 h2 ((key _).mpr h3)⟩
/-- the head cut, the cycle begun at its end -/
theorem cut_row {h c c' : List Nat} {k p : Nat} (hk : k ≤ h.length) (hp : Per c p) (hr : ∀ z, cz c' z = cz c (z + (((k : Int) - h.length) % (p : Int)))) (hh : ∀ j : Nat, k ≤ j → ∀ x, h[j]? = some x → x = cz c ((j : Int) - h.length)) (n : Nat) : rz (h.take k) c' n = rz h c n := by
  have e : ∀ z, cz c' z = cz c (z + k - h.length) := by
    intro z
    rw [hr]
    have := hp.mulz (((k : Int) - h.length) / p) (z + (((k : Int) - h.length) % (p : Int)))
    rw [← this]
    congr 1
    have := Int.emod_add_mul_ediv ((k : Int) - h.length) p
    omega
  have hl : (h.take k).length = k := by rw [List.length_take]; omega
  by_cases h1 : n < k
  · rw [rz_lt (by omega), rz_lt (by omega), List.getElem_take]
  · rw [rz_ge (by rw [hl]; omega), hl, e]
    by_cases h2 : n < h.length
    · rw [rz_lt h2]
      have := hh n (by omega) _ (List.getElem?_eq_getElem h2)
      rw [this]
      congr 1
      omega
    · rw [rz_ge (by omega)]
      congr 1
      omega
theorem rep_get {x : List Nat} (hx : 0 < x.length) : ∀ (k j : Nat), j < k * x.length → ((List.replicate k x).flatten)[j]? = x[j % x.length]?
  | 0, j, h => by omega
  | k + 1, j, h => by
    rw [List.replicate_succ, List.flatten_cons]
    by_cases hj : j < x.length
    · rw [List.getElem?_append_left hj, Nat.mod_eq_of_lt hj]
    · rw [List.getElem?_append_right (by omega), rep_get hx k (j - x.length) (by rw [Nat.succ_mul] at h; omega)]
      congr 1
      rw [← Nat.mod_eq_sub_mod (by omega)]
theorem rep_iff {c : List Nat} {s : Nat} (h0 : 0 < s) (hs : s ≤ c.length) (hd : s ∣ c.length) : c = (List.replicate (c.length / s) (c.take s)).flatten ↔ Per c s := by
  have hl : (c.take s).length = s := by rw [List.length_take]; omega
  have hn : c.length / s * s = c.length := Nat.div_mul_cancel hd
  have hc : c ≠ [] := fun z => by rw [z] at hs; simp at hs; omega
  constructor
  · intro e
    have g : ∀ j : Nat, j < c.length → c[j]? = c[j % s]? := by
      intro j hj
      have h1 : c[j]? = ((List.replicate (c.length / s) (c.take s)).flatten)[j]? := by rw [← e]
      rw [h1, rep_get (by omega) _ _ (by rw [hl, hn]; exact hj), hl, List.getElem?_take_of_lt (Nat.mod_lt _ h0)]
    refine per_of hc fun j hj => ?_
    have all : ∀ i : Nat, cz c i = c.getD (i % s) 0 := by
      intro i
      unfold cz
      rw [← Int.natCast_emod, Int.toNat_natCast, List.getD_eq_getElem?_getD, List.getD_eq_getElem?_getD, g _ (Nat.mod_lt _ (by omega)), Nat.mod_mod_of_dvd _ hd]
    have h1 := all (j + s)
    have h2 := all j
    rw [Nat.add_mod_right] at h1
    rw [show ((j + s : Nat) : Int) = (j : Int) + s by omega] at h1
    rw [h1, h2]
  · intro hp
    refine List.ext_getElem? fun j => ?_
    by_cases hj : j < c.length
    · rw [rep_get (by omega) _ _ (by rw [hl, hn]; exact hj), hl, List.getElem?_take_of_lt (Nat.mod_lt _ h0)]
      have h1 := cz_ix hp h0 hs j
      rw [← Int.natCast_emod, Int.toNat_natCast] at h1
      rw [h1, cz_nat hj, List.getElem?_eq_getElem hj]
    · rw [List.getElem?_eq_none (by omega), List.getElem?_eq_none (by rw [List.length_flatten, List.map_replicate, List.sum_replicate_nat, hl, hn]; omega)]
theorem take_cz {c : List Nat} {p : Nat} (hp : Per c p) (h0 : 0 < p) (hl : p ≤ c.length) : (c.take p).length = p ∧ ∀ z, cz (c.take p) z = cz c z := by
  have := rot_cz (s := 0) hp h0 hl
  simp only [List.drop_zero, List.take_zero, List.append_nil] at this
  refine ⟨this.1, fun z => ?_⟩
  rw [this.2]
  congr 1
  omega
/-- one mark from the head's end into the cycle -/
theorem back_cz {c : List Nat} (hc : c ≠ []) : (c.getLast hc :: c.dropLast).length = c.length ∧ ∀ z, cz (c.getLast hc :: c.dropLast) z = cz c (z - 1) := by
  have hl : 0 < c.length := List.length_pos_iff.mpr hc
  have len : (c.getLast hc :: c.dropLast).length = c.length := by simp; omega
  refine ⟨len, fun z => ?_⟩
  have r0 := Int.emod_nonneg z (b := (c.length : Int)) (by omega)
  have r1 := Int.emod_lt_of_pos z (b := (c.length : Int)) (by omega)
  have e : cz c (z - 1) = cz c (z % c.length - 1) := by
    have := (per_len c).mulz (z / c.length) (z % c.length - 1)
    rw [← this]
    congr 1
    have := Int.emod_add_mul_ediv z c.length
    omega
  rw [e]
  unfold cz
  rw [len]
  obtain ⟨r, hr⟩ : ∃ r : Nat, z % (c.length : Int) = r := ⟨(z % (c.length : Int)).toNat, by omega⟩
  rw [hr, Int.toNat_natCast]
  cases r with
  | zero =>
    have := cz_last hc
    unfold cz at this
    rw [show ((0 : Nat) : Int) - 1 = -1 by omega, this]
    rfl
  | succ r =>
    rw [show ((r + 1 : Nat) : Int) - 1 = r by omega, Int.emod_eq_of_lt (by omega) (by omega), Int.toNat_natCast, List.getD_eq_getElem?_getD, List.getD_eq_getElem?_getD, List.getElem?_cons_succ, List.getElem?_dropLast, if_pos (by omega)]
theorem back_row {h c : List Nat} (hh : h ≠ []) (hc : c ≠ []) (e : h.getLast hh = c.getLast hc) (n : Nat) : rz h.dropLast (c.getLast hc :: c.dropLast) n = rz h c n := by
  have hl : 0 < h.length := List.length_pos_iff.mpr hh
  have hd : h.dropLast.length = h.length - 1 := List.length_dropLast
  by_cases h1 : n < h.length - 1
  · rw [rz_lt (by omega), rz_lt (by omega), List.getElem_dropLast]
  · rw [rz_ge (by omega), (back_cz hc).2, hd]
    by_cases h2 : n < h.length
    · have hn : n = h.length - 1 := by omega
      subst hn
      rw [rz_lt (by omega), ← List.getLast_eq_getElem hh, e, ← cz_last hc]
      congr 1
      omega
    · rw [rz_ge (by omega)]
      congr 1
      omega
/-- without its first mark -/
theorem shift_row {h c : List Nat} (n : Nat) : (∀ x t, h = x :: t → rz t c n = rz h c ((n + 1 : Nat) : Int)) ∧ (h = [] → ∀ d : List Nat, (∀ z, cz d z = cz c (z + 1)) → rz [] d n = rz h c ((n + 1 : Nat) : Int)) := by
  refine ⟨?_, ?_⟩
  · rintro x t rfl
    by_cases h1 : n < t.length
    · rw [rz_lt h1, rz_lt (by simp; omega), List.getElem_cons_succ]
    · rw [rz_ge (by omega), rz_ge (by simp; omega)]
      congr 1
      simp only [List.length_cons]
      omega
  · rintro rfl d hd
    rw [rz_ge (by simp only [List.length_nil]; omega), rz_ge (by simp only [List.length_nil]; omega), hd]
    congr 1
def rowD (h c : List Nat) : PyData := .tuple [.str (Sg h), .str (Sg c)]
def Mk (l : List Nat) : Prop := ∀ x ∈ l, x < 1000
theorem strOk_sg {l : List Nat} (h : Mk l) : PyData.strOk (Sg l) = true := by
  unfold PyData.strOk
  rw [← Array.all_toList, sg_tl, List.all_eq_true]
  intro x hx
  have := h x hx
  exact decide_eq_true (by omega)
theorem rowD_pln {k : Nat} {h c : List Nat} (a : Mk h) (b : Mk c) : pln (k + 1) (rowD h c) = true := by
  cases k <;> simp [rowD, pln, strOk_sg a, strOk_sg b]
theorem rowD_inj {h c h' c' : List Nat} (e : rowD h c = rowD h' c') : h = h' ∧ c = c' := by
  simp only [rowD, PyData.tuple.injEq, List.cons.injEq, PyData.str.injEq, and_true] at e
  exact ⟨sg_inj e.1, sg_inj e.2⟩
section
variable {K : PySem.W.Frag} {σ : L2.St} {H : Hp} {Q : VK} {v : V} {ta : TE} {h c : List Nat}
def rTruS (x : V) (H : Hp) (Q : Bool → Hp → Prop) : Prop := ∃ l : List Nat, x = .str (Sg l) ∧ l.length ≤ 1000000 ∧ Q (decide (l ≠ [])) H
theorem w_truS {Q : Bool → Hp → Prop} (q : ta σ H fun x H' => rTruS x H' Q) (m : ∀ (P P' : VK), (∀ v H', P v H' → P' v H') → ta σ H P → ta σ H P') : tTru K ta σ H Q := by
  refine m _ _ (fun v H' z => ?_) q
  obtain ⟨l, rfl, hl, z⟩ := z
  have hs : sizeLine = 16777216 := sizeLine_eq
  refine ⟨decide (l ≠ []), ⟨by rw [sg_len]; omega, ?_⟩, z⟩
  rw [sg_len]
  cases l with
  | nil => rfl
  | cons a l => simp; omega
theorem var_mono {i : Nat} (P P' : VK) (h : ∀ v H', P v H' → P' v H') (q : tVar i σ H P) : tVar i σ H P' := by
  obtain ⟨v, e, z⟩ := q
  exact ⟨v, e, h _ _ z⟩
theorem w_truV {Q : Bool → Hp → Prop} {i : Nat} {l : List Nat} (e : σ[i]? = some (some (.str (Sg l)))) (hl : l.length ≤ 1000000) (q : Q (decide (l ≠ [])) H) : tTru K (tVar i) σ H Q :=
  w_truS ⟨_, e, l, rfl, hl, q⟩ fun P P' a b => var_mono P P' a b
theorem w_row0 (d : Dp K H v (rowD h c)) (q : Q (.str (Sg h)) H) : rIxT K v (.int 0) H Q := w_ixT (j := 0) d rfl rfl fun v' hv => by cases hv; exact q
theorem w_row1 (d : Dp K H v (rowD h c)) (q : Q (.str (Sg c)) H) : rIxT K v (.int 1) H Q := w_ixT (j := 1) d rfl rfl fun v' hv => by cases hv; exact q
theorem w_gTupR {i j : Nat} {Q : L2.St → Hp → Prop} (d : Dp K H v (rowD h c)) (q : Q ((σ.set i (some (.str (Sg h)))).set j (some (.str (Sg c)))) H) : gTup K 2 (gCons (gName i) (gCons (gName j) gNil)) v σ H Q :=
  w_gTup2 d fun v1 v2 h1 h2 => by cases h1; cases h2; exact q
def rFind3 : V → List V → Hp → VK → Prop := fun x xs H Q => ∃ (a b : Str) (i : Int), x = .str a ∧ xs = [.str b, .int i] ∧ Q (.int (Txt.find3 a b i)) H
theorem mt_find3D {X : Cx} : MtR X "str.find" rFind3 := mt_find3
theorem w_find3 {a b : Str} {i : Int} (q : Q (.int (Txt.find3 a b i)) H) : rFind3 (.str a) [.str b, .int i] H Q := ⟨a, b, i, rfl, rfl, q⟩
end
end Tw
namespace Tw
theorem rep_len (c : List Nat) (n : Nat) : (List.replicate n c).flatten.length = n * c.length := by rw [List.length_flatten, List.map_replicate, List.sum_replicate_nat]
theorem rep_mk {c : List Nat} (mc : Mk c) (n : Nat) : Mk (List.replicate n c).flatten := fun x hx => by
  obtain ⟨l, hl1, hl2⟩ := List.mem_flatten.mp hx
  rw [(List.mem_replicate.mp hl1).2] at hl2
  exact mc x hl2
end Tw
namespace Tw
open PySem PySem.Spec PyProof.Rows L2
section
variable {K : PySem.W.Frag} {H : Hp} {Q : VK} {x y : V} {d e : PyData}
theorem w_eqPb (h1 : Dp K H x d) (h2 : Dp K H y e) (p1 : pln 9 d = true) (p2 : pln 9 e = true) (q : ∀ b, (b = true ↔ d = e) → Q (.bl b) H) : rEqD K x y H Q :=
  w_eqP h1 h2 p1 p2 (fun z => q true ⟨fun _ => z, fun _ => rfl⟩) (fun z => q false ⟨fun h => absurd h Bool.false_ne_true, fun h => absurd h z⟩)
end
theorem pln_intsL (ns : List Int) : pln 9 (.list (ns.map PyData.int)) = true := pln_ints ns
theorem line_ix {h c : List Nat} (hc : c ≠ []) (n j : Nat) (hj : j < h.length + n * c.length) : (h ++ (List.replicate n c).flatten)[j]? = some (rz h c j) := by
  have hl : 0 < c.length := List.length_pos_iff.mpr hc
  by_cases h1 : j < h.length
  · rw [List.getElem?_append_left h1, rz_lt h1, List.getElem?_eq_getElem h1]
  · rw [List.getElem?_append_right (by omega), rep_get hl _ _ (by omega), rz_ge (by omega), show ((j : Int) - h.length) = ((j - h.length : Nat) : Int) by omega]
    have hm := Nat.mod_lt (j - h.length) hl
    unfold cz
    rw [← Int.natCast_emod, Int.toNat_natCast, List.getD_eq_getElem?_getD, List.getElem?_eq_getElem hm]
    rfl
theorem rest_rz {h c : List Nat} (hc : c ≠ []) {k : Nat} (hk : k ≤ h.length + c.length) (n : Nat) : rz (((h ++ (List.replicate 12 c).flatten).take (h.length + c.length * 3)).drop (k + 1)) c n = rz h c ((n + k + 1 : Nat) : Int) := by
  have hl : 0 < c.length := List.length_pos_iff.mpr hc
  have len : (((h ++ (List.replicate 12 c).flatten).take (h.length + c.length * 3)).drop (k + 1)).length = h.length + c.length * 3 - (k + 1) := by
    rw [List.length_drop, List.length_take, List.length_append, rep_len]
    omega
  by_cases h1 : n < h.length + c.length * 3 - (k + 1)
  · rw [rz_lt (by omega)]
    have e := line_ix hc 12 (n + k + 1) (h := h) (by omega)
    have g : (((h ++ (List.replicate 12 c).flatten).take (h.length + c.length * 3)).drop (k + 1))[n]? = some (rz h c ((n + k + 1 : Nat) : Int)) := by
      rw [List.getElem?_drop, List.getElem?_take_of_lt (by omega), show k + 1 + n = n + k + 1 by omega, e]
    exact (List.getElem?_eq_some_iff.mp g).2
  · rw [rz_ge (by omega), rz_ge (by omega), len]
    have p := (per_len c).mul 3 ((n : Int) - ((h.length + c.length * 3 - (k + 1) : Nat) : Int))
    rw [← p]
    congr 1
    omega
end Tw
namespace Tw
open PySem PySem.Spec PyProof.Rows L2
/-! ### marks counted from 1, for ever -/
def mk (l : List Nat) (k : Int) : Nat := l.getD ((k - 1) % (l.length : Int)).toNat 0
theorem mk_at {l : List Nat} {k : Int} {c : Nat} (h : l[((k - 1) % (l.length : Int)).toNat]? = some c) : c = mk l k := by
  unfold mk; rw [List.getD_eq_getElem?_getD, h]; rfl
theorem mk_per (l : List Nat) (k : Int) : mk l (k + l.length) = mk l k := by
  unfold mk
  rw [show k + (l.length : Int) - 1 = (k - 1) + l.length by omega, Int.add_emod_right]
theorem mk_last {l : List Nat} (h : l ≠ []) : mk l l.length = l.getLast h := by
  have hl : 0 < l.length := List.length_pos_iff.mpr h
  unfold mk
  rw [Int.emod_eq_of_lt (by omega) (by omega), List.getLast_eq_getElem, List.getD_eq_getElem?_getD, List.getElem?_eq_getElem (by omega)]
  simp only [Option.getD_some]
  congr 1
  omega
theorem mk_lt {l : List Nat} {k : Int} (h0 : 1 ≤ k) (h1 : k < l.length) (h : l ≠ []) : mk l k ∈ l.dropLast := by
  unfold mk
  have hl : (k - 1).toNat < l.dropLast.length := by rw [List.length_dropLast]; omega
  rw [Int.emod_eq_of_lt (by omega) (by omega), List.getD_eq_getElem?_getD, List.getElem?_eq_getElem (by omega)]
  simp only [Option.getD_some]
  rw [show l[(k - 1).toNat] = l.dropLast[(k - 1).toNat] by rw [List.getElem_dropLast]]
  exact List.getElem_mem _
theorem mk_dbl (l : List Nat) (k : Int) (h : l ≠ []) : mk (l ++ l) k = mk l k := by
  have hl : 0 < l.length := List.length_pos_iff.mpr h
  unfold mk
  rw [List.length_append]
  have e1 : (k - 1) % (l.length : Int) = ((k - 1) % ((l.length + l.length : Nat) : Int)) % (l.length : Int) := by
    rw [Int.emod_emod_of_dvd]
    exact ⟨2, by push_cast; omega⟩
  have h0 := Int.emod_nonneg (k - 1) (b := ((l.length + l.length : Nat) : Int)) (by omega)
  have h1 := Int.emod_lt_of_pos (k - 1) (b := ((l.length + l.length : Nat) : Int)) (by omega)
  generalize (k - 1) % ((l.length + l.length : Nat) : Int) = z at *
  rw [e1, List.getD_eq_getElem?_getD, List.getD_eq_getElem?_getD]
  by_cases hz : z < l.length
  · rw [List.getElem?_append_left (by omega), Int.emod_eq_of_lt h0 hz]
  · rw [List.getElem?_append_right (by omega)]
    have e2 : z % (l.length : Int) = z - l.length := by
      rw [← Int.emod_eq_of_lt (show 0 ≤ z - (l.length : Int) by omega) (show z - (l.length : Int) < l.length by omega), Int.sub_emod_right]
    rw [e2]
    congr 2
    omega
def Un (l : List Nat) (m : Int) : Option Int → Prop
  | some k => m < k ∧ mk l k ≠ mk l (k - m) ∧ ∀ j, m < j → j < k → mk l j = mk l (j - m)
  | none => ∀ j, m < j → mk l j = mk l (j - m)
theorem Un.unique {l : List Nat} {m : Int} {r r' : Option Int} (h : Un l m r) (h' : Un l m r') : r = r' := by
  cases r with
  | none =>
    cases r' with
    | none => rfl
    | some k => exact absurd (h k h'.1) h'.2.1
  | some k =>
    cases r' with
    | none => exact absurd (h' k h.1) h.2.1
    | some k' =>
      obtain ⟨a, b, c⟩ := h
      obtain ⟨a', b', c'⟩ := h'
      congr 1
      rcases Int.lt_trichotomy k k' with z | z | z
      · exact absurd (c' k a z) b
      · exact z
      · exact absurd (c k' a' z) b'
theorem scan_none {l : List Nat} {m : Int} (hl : l ≠ []) (h : ∀ j, m < j → j ≤ m + l.length → mk l j = mk l (j - m)) : Un l m none := by
  have hp : 0 < l.length := List.length_pos_iff.mpr hl
  have all : ∀ n : Nat, ∀ j, m < j → j ≤ m + n → mk l j = mk l (j - m) := by
    intro n
    induction n with
    | zero => intro j h1 h2; omega
    | succ n ih =>
      intro j h1 h2
      by_cases hj : j ≤ m + l.length
      · exact h j h1 hj
      · have := ih (j - l.length) (by omega) (by omega)
        rw [← mk_per l (j - l.length), show j - (l.length : Int) + l.length = j by omega, ← mk_per l (j - l.length - m), show j - (l.length : Int) - m + l.length = j - m by omega] at this
        exact this
  intro j h1
  exact all (j - m).toNat j h1 (by omega)
theorem Un.bound {l : List Nat} {m k : Int} (hl : l ≠ []) (h : Un l m (some k)) : k ≤ m + l.length := by
  by_cases hk : k ≤ m + l.length
  · exact hk
  · exact absurd (scan_none hl (fun j h1 h2 => h.2.2 j h1 (by omega)) k h.1) h.2.1
theorem Un.dbl {l : List Nat} {m : Int} {r : Option Int} (hl : l ≠ []) (h : Un l m r) : Un (l ++ l) m r := by
  cases r with
  | none => intro j hj; rw [mk_dbl _ _ hl, mk_dbl _ _ hl]; exact h j hj
  | some k =>
    refine ⟨h.1, ?_, fun j h1 h2 => ?_⟩
    · rw [mk_dbl _ _ hl, mk_dbl _ _ hl]; exact h.2.1
    · rw [mk_dbl _ _ hl, mk_dbl _ _ hl]; exact h.2.2 j h1 h2
/-- the numbers from one on, each unlike the last -/
inductive Chn (l : List Nat) (most : Int) : Option Int → List Int → Prop
  | no : Chn l most none []
  | stop {k : Int} : most < k → Chn l most (some k) []
  | go {k : Int} {r : Option Int} {ns : List Int} : k ≤ most → Un l k r → Chn l most r ns → Chn l most (some k) (k :: ns)
theorem Chn.unique {l : List Nat} {most : Int} {o : Option Int} {ns : List Int} (h : Chn l most o ns) : ∀ {ms : List Int}, Chn l most o ms → ns = ms := by
  induction h with
  | no => intro ms h'; cases h'; rfl
  | stop hk => intro ms h'; cases h' with
    | stop _ => rfl
    | go h1 _ _ => omega
  | go hk hu _ ih => intro ms h'; cases h' with
    | stop h1 => omega
    | go h1 h2 h3 => rw [hu.unique h2] at ih; rw [ih h3]
theorem Chn.le {l : List Nat} {most : Int} {o : Option Int} {ns : List Int} (h : Chn l most o ns) : ∀ n ∈ ns, n ≤ most := by
  induction h with
  | no => intro n hn; cases hn
  | stop _ => intro n hn; cases hn
  | go hk _ _ ih => intro n hn; rcases List.mem_cons.mp hn with rfl | hn; exact hk; exact ih n hn
theorem Chn.gt {l : List Nat} {most : Int} {o : Option Int} {ns : List Int} (h : Chn l most o ns) : ∀ k, o = some k → ∀ n ∈ ns, k ≤ n := by
  induction h with
  | no => intro k e n hn; cases hn
  | stop _ => intro k e n hn; cases hn
  | @go k r ns hk hu hc ih =>
    intro k' e n hn
    cases e
    rcases List.mem_cons.mp hn with rfl | hn
    · exact Int.le_refl _
    · cases r with
      | none => cases hc; cases hn
      | some k2 => have := ih k2 rfl n hn; have := hu.1; omega
theorem Chn.asc {l : List Nat} {most : Int} {o : Option Int} {ns : List Int} (h : Chn l most o ns) : ns.Pairwise (· < ·) := by
  induction h with
  | no => exact .nil
  | stop _ => exact .nil
  | @go k r ns hk hu hc ih =>
    refine .cons (fun n hn => ?_) ih
    cases r with
    | none => cases hc; cases hn
    | some k2 => have := hc.gt k2 rfl n hn; have := hu.1; omega
/-- a star word: its last mark alone is a star -/
def StarW (l : List Nat) : Prop := ∃ h : l ≠ [], l.getLast h = 42 ∧ ∀ c ∈ l.dropLast, c ≠ 42
theorem starW_mk {pre : List Nat} (h : ∀ c ∈ pre, c ≠ 42) : StarW (pre ++ [42]) := ⟨by simp, by simp, by simpa using h⟩
theorem Chn.star {l : List Nat} (hs : StarW l) {o : Option Int} {ns : List Int} (h : Chn l l.length o ns) : ∀ k, o = some k → 1 ≤ k → k ≤ l.length → ns.getLast? = some (l.length : Int) := by
  obtain ⟨hl, h1, h2⟩ := hs
  induction h with
  | no => intro k e; cases e
  | stop hk => intro k e _ h3; cases e; omega
  | @go k r ns hk hu hc ih =>
    intro k' e hk1 hk2
    cases e
    by_cases hkn : k = l.length
    · subst hkn
      cases r with
      | none => cases hc; rfl
      | some k2 => cases hc with
        | stop _ => rfl
        | go h3 _ _ => have := hu.1; omega
    · have bad : mk l l.length ≠ mk l (l.length - k) := by
        rw [mk_last hl, h1]
        exact (h2 _ (mk_lt (by omega) (by omega) hl)).symm
      cases r with
      | none => exact absurd (hu l.length (by omega)) bad
      | some k2 =>
        have hk3 : k2 ≤ l.length := by
          by_cases z : k2 ≤ l.length
          · exact z
          · exact absurd (hu.2.2 l.length (by omega) (by omega)) bad
        have := ih k2 rfl (by have := hu.1; omega) hk3
        rw [List.getLast?_cons, this]
        rfl
def ov : Option Int → V
  | none => .non
  | some k => .int k
end Tw
namespace Tw
open PySem PySem.Spec PyProof.Rows L2
/-- a value (i, (p, q)) -/
def IsRow (h : Heap) (v : Value) (k : Int × Int × Int) : Prop :=
  ∃ a o t b n, v = .ref a ∧ h.get? a = some o ∧ o.cls = .type "tuple" ∧ o.data = .seq #[.int k.1 t, .ref b] n ∧ Srt.IsPair h (.ref b) k.2.1 k.2.2
theorem IsRow.keeps {h h' : Heap} {v : Value} {k : Int × Int × Int} (r : IsRow h v k) (e : ∀ b o, h.get? b = some o → o.cls = .type "tuple" → h'.get? b = some o) : IsRow h' v k := by
  obtain ⟨a, o, t, b, n, rfl, h1, h2, h3, h4⟩ := r
  exact ⟨a, o, t, b, n, rfl, e _ _ h1 h2, h2, h3, h4.keeps e⟩
theorem row_firsts {h : Heap} : ∀ {vs : List Value}, (∀ v ∈ vs, ∃ k, IsRow h v k) → ∃ fs, W.KatTups h vs fs ∧ fs.length = vs.length ∧ ∀ f ∈ fs, ∃ x t, f = Value.int x t
  | [], _ => ⟨[], .nil, rfl, fun _ z => nomatch z⟩
  | v :: vs, hv => by
    obtain ⟨fs, h1, h2, h3⟩ := row_firsts (vs := vs) fun u hu => hv u (List.mem_cons_of_mem _ hu)
    obtain ⟨k, a, o, t, b, n, rfl, g1, g2, g3, g4⟩ := hv v List.mem_cons_self
    refine ⟨.int k.1 t :: fs, ⟨⟨a, o, _, n, rfl, g1, g2, g3, rfl⟩, h1⟩, by simp [h2], fun f hf => ?_⟩
    rcases List.mem_cons.mp hf with rfl | hf
    · exact ⟨_, _, rfl⟩
    · exact h3 f hf
theorem isInt_me (x : Int) (t : Tok) : Value.isInt x (.int x t) = true := by simp [Value.isInt]
theorem pair_key {P : Program} {w : World} {h : Heap} {b : Addr} {x y : Int} (r : Srt.IsPair h (.ref b) x y) : IsTupleKey (intKind P w) h [x, y] b := by
  obtain ⟨a, o, t, u, n, e, h1, h2, h3⟩ := r
  cases e
  exact ⟨o, _, n, h1, h2, h3, .cons (v := .int x t) (isInt_me x t) (.cons (v := .int y u) (isInt_me y u) .nil)⟩
theorem row_cmp {prog : Program} {w : World} {A : Around} {s : Shared} {vs : List Value} {k : Value → Int × Int × Int} (hu : A.units < cLine) (h : ∀ v ∈ vs, IsRow s.heap v (k v)) (det : ∀ v ∈ vs, ∀ u ∈ vs, (k v).1 = (k u).1 → (k v).2 = (k u).2) :
    SrtO.Cmp prog w A s (PyProof.Rows.tuples' true) (fun p => p.fst ∈ vs) (SrtO.lt2 fun v u => decide ((k v).1 < (k u).1)) := by
  intro p q hp hq
  obtain ⟨a, o, t, b, n, e1, h1, h2, h3, h4⟩ := h _ hp
  obtain ⟨a', o', t', b', n', e1', h1', h2', h3', h4'⟩ := h _ hq
  have hd := det _ hp _ hq
  show wpAny _ _ (PyProof.Rows.keyLt' _ p.fst q.fst) _ _ _
  unfold SrtO.lt2
  dsimp only
  generalize k p.fst = kp at *
  generalize k q.fst = kq at *
  rw [e1, e1']
  refine PySem.W.kat_lt h1 h3 h1' h3' (PySem.W.kat_cons ?_)
  refine (intKind prog w).eqBool (a := kp.1) (b := kq.1) (isInt_me kp.1 t) (isInt_me kq.1 t') ?_
  unfold PySem.W.KatGo
  by_cases hk : kp.1 = kq.1
  · rw [if_pos (decide_eq_true hk)]
    refine PySem.W.kat_cons ?_
    have h5 := hd hk
    refine wpAny_eqBool_tuple (knd := intKind prog w) hu (pair_key h4) (pair_key h4') ?_
    unfold PySem.W.KatGo
    rw [h5, if_pos (decide_eq_true rfl)]
    exact ⟨rfl, by rw [hk]; simp⟩
  · rw [if_neg (by simpa using hk)]
    exact TS.oneLt_ints _ ⟨rfl, rfl⟩
theorem ltk_swo {α : Type} (k : α → Int) : SrtO.Swo fun v u => decide (k v < k u) := by
  refine ⟨fun x y h => ?_, fun x y z h1 h2 => ?_⟩
  · rw [decide_eq_true_eq] at h
    rw [decide_eq_false_iff_not]
    omega
  · rw [decide_eq_false_iff_not] at *
    omega
theorem rows_sortable {prog : Program} {w : World} {A : Around} {s : Shared} {a : Addr} {vs : List Value} {k : Value → Int × Int × Int} (hu : A.units < cLine) (h0 : 0 < vs.length) (h : ∀ v ∈ vs, IsRow s.heap v (k v)) (det : ∀ v ∈ vs, ∀ u ∈ vs, (k v).1 = (k u).1 → (k v).2 = (k u).2)
    (ha : ∀ o, s.heap.get? a = some o → o.cls ≠ .type "tuple") : SrtO.SortableO prog w A s a vs fun v u => decide ((k v).1 < (k u).1) := by
  intro h' keep
  have hr : ∀ v ∈ vs, IsRow h' v (k v) := fun v hv => (h v hv).keeps fun b o e1 e2 => keep b o (fun z => by subst z; exact ha o e1 e2) e1
  obtain ⟨fs, f1, f2, f3⟩ := row_firsts (h := h') (vs := vs) fun v hv => ⟨_, hr v hv⟩
  refine ⟨PyProof.Rows.tuples' true, fun Q E q => ?_, row_cmp hu hr det⟩
  refine PySem.W.kat_kind (T := .type "int") f1 (by omega) (fun v hv => ?_) (by decide +kernel) ?_
  · obtain ⟨x, t, rfl⟩ := f3 v hv
    exact PySem.W.Looks.now
  · rw [show (Value.type "int" != Value.type "tuple") = true by decide +kernel]
    exact q
theorem sorted_rows {prog : Program} {w : World} {A : Around} {E : Value → Shared → Prop} {s : Shared} {l : Addr} {vs : List Value} {k : Value → Int × Int × Int} {Q : Value → Shared → Prop} (hu : A.in1.in1.units < cLine) (hl : s.heap.IsList l vs.toArray) (hz : vs.length ≤ sizeLine)
    (h : ∀ v ∈ vs, IsRow s.heap v (k v)) (det : ∀ v ∈ vs, ∀ u ∈ vs, (k v).1 = (k u).1 → (k v).2 = (k u).2)
    (q : ∀ (h' : Heap) (d : Addr) (out : List Value), out.Perm vs → out.Pairwise (fun v u => (k v).1 ≤ (k u).1) → (∀ b o, s.heap.get? b = some o → h'.get? b = some o) → s.heap.objs.size ≤ d → (∃ n, h'.get? d = some (PyProof.Rows.seqObj "list" out.toArray n)) →
      Q (.ref d) { heap := h', gens := s.gens, drawn := s.drawn, toks := s.toks, os := s.os }) :
    wpAny (model prog w) A (call (.builtin "sorted") [.ref l]) Q E s := by
  refine SrtO.sorted_ord (ltk_swo fun v => (k v).1) hl hz (fun h2 h1 a g1 g2 => ?_) fun out o1 o2 => ?_
  · refine rows_sortable hu (by omega) (fun v hv => (h v hv).keeps fun b o e1 _ => (g2 b o e1).2) det fun o e => ?_
    rw [g1] at e
    cases e
    intro z
    exact absurd (Value.type.inj z) (by decide)
  · refine q _ _ out o2.perm ?_ (fun b o e => PyProof.Rows.sortedAll_old e) (Nat.le_succ _) (PyProof.Rows.sortedAll_at _ _ _)
    refine List.Pairwise.imp (fun {x y} z => ?_) o1
    rw [decide_eq_false_iff_not] at z
    omega
end Tw
namespace Tw
open PySem PySem.Spec PyProof.Rows L2
def rowP (e : Int × Int × Int) : PyData := .tuple [.int e.1, .tuple [.int e.2.1, .int e.2.2]]
theorem pairP {X : Cx} {pins : List (Addr × Obj)} {σ : L2.St} {H : Hp} {s : Shared} {v : V} {p q : Int} (I : L2.Inv X pins σ H s) (d : Dp X.K H v (.tuple [.int p, .int q])) : ∃ b, v = .ref b ∧ Srt.IsPair s.heap (.ref b) p q := by
  obtain ⟨b, xs, rfl, hs, ha⟩ := dp_tup d
  obtain ⟨its, hv, ⟨o, h1, h2, n, h3⟩, _⟩ := I.tuple hs
  cases ha with
  | cons a1 a2 =>
    cases a2 with
    | cons a2 a3 =>
      cases a3
      cases a1; cases a2
      cases hv with
      | cons v1 v2 =>
        cases v2 with
        | cons v2 v3 =>
          cases v3
          obtain ⟨t, rfl⟩ := v1
          obtain ⟨u, rfl⟩ := v2
          exact ⟨b, rfl, b, o, t, u, n, rfl, h1, h2, h3⟩
theorem rowI {X : Cx} {pins : List (Addr × Obj)} {σ : L2.St} {H : Hp} {s : Shared} {v : V} {u : Value} {e : Int × Int × Int} (I : L2.Inv X pins σ H s) (r : RelV v u) (d : Dp X.K H v (rowP e)) : IsRow s.heap u e ∧ ∃ a, v = .ref a := by
  obtain ⟨a, xs, rfl, hs, ha⟩ := dp_tup d
  obtain ⟨its, hv, ⟨o, h1, h2, n, h3⟩, _⟩ := I.tuple hs
  cases r
  cases ha with
  | cons a1 a2 =>
    cases a2 with
    | cons a2 a3 =>
      cases a3
      cases a1
      obtain ⟨b, rfl, hp⟩ := pairP I a2
      cases hv with
      | cons v1 v2 =>
        cases v2 with
        | cons v2 v3 =>
          cases v3
          obtain ⟨t, rfl⟩ := v1
          cases v2
          exact ⟨⟨a, o, t, b, n, rfl, h1, h2, h3, hp⟩, a, rfl⟩
theorem row_one {h : Heap} {v : Value} {e f : Int × Int × Int} (a : IsRow h v e) (b : IsRow h v f) : e = f := by
  obtain ⟨a1, o1, t1, b1, n1, rfl, g1, _, g2, x1, y1, _, _, _, q1, q2, _, q3⟩ := a
  obtain ⟨a2, o2, t2, b2, n2, h0, k1, _, k2, x2, y2, _, _, _, r1, r2, _, r3⟩ := b
  cases h0
  rw [g1] at k1
  cases k1
  rw [g2] at k2
  simp only [Data.seq.injEq, Array.mk.injEq, List.cons.injEq, Value.int.injEq, Value.ref.injEq, and_true] at k2
  obtain ⟨⟨⟨i1, _⟩, i2⟩, _⟩ := k2
  subst i2
  cases q1; cases r1
  rw [q2] at r2
  cases r2
  rw [q3] at r3
  simp only [Data.seq.injEq, Array.mk.injEq, List.cons.injEq, Value.int.injEq, and_true] at r3
  obtain ⟨⟨⟨j1, _⟩, ⟨j2, _⟩⟩, _⟩ := r3
  exact Prod.ext i1 (Prod.ext j1 j2)
open Classical in
noncomputable def rowK (h : Heap) (v : Value) : Int × Int × Int := if z : ∃ e, IsRow h v e then z.choose else (0, 0, 0)
theorem rowK_eq {h : Heap} {v : Value} {e : Int × Int × Int} (r : IsRow h v e) : rowK h v = e := by
  unfold rowK
  rw [dif_pos ⟨e, r⟩]
  exact row_one (Exists.choose_spec (⟨e, r⟩ : ∃ e, IsRow h v e)) r
theorem rowsI {X : Cx} {pins : List (Addr × Obj)} {σ : L2.St} {H : Hp} {s : Shared} (I : L2.Inv X pins σ H s) : ∀ {xs : List V} {its : List Value} {es : List (Int × Int × Int)}, Vals xs its → DpAll X.K H xs (es.map rowP) →
    es = its.map (rowK s.heap) ∧ ∀ u ∈ its, IsRow s.heap u (rowK s.heap u) ∧ RelV (backV u) u ∧ Dp X.K H (backV u) (rowP (rowK s.heap u))
  | [], _, es, hv, hd => by
    cases hv
    cases es with
    | nil => exact ⟨rfl, fun _ z => nomatch z⟩
    | cons e es => cases hd
  | x :: xs, _, es, hv, hd => by
    cases hv with
    | cons r hv =>
      cases es with
      | nil => cases hd
      | cons e es =>
        cases hd with
        | cons d hd =>
          obtain ⟨i1, i2⟩ := rowsI I hv hd
          obtain ⟨j1, a, rfl⟩ := rowI I r d
          have j2 := rowK_eq j1
          refine ⟨by rw [List.map_cons, j2, ← i1], fun u hu => ?_⟩
          rcases List.mem_cons.mp hu with rfl | hu
          · cases r
            rw [j2]
            exact ⟨j1, rfl, d⟩
          · exact i2 u hu
def rSortR (K : PySem.W.Frag) : List V → Hp → VK → Prop := fun vs H Q => ∃ (a : Addr) (es : List (Int × Int × Int)), vs = [.ref a] ∧ Dp K H (.ref a) (.list (es.map rowP)) ∧ (∀ e ∈ es, ∀ f ∈ es, e.1 = f.1 → e.2 = f.2) ∧
  ∀ (es' : List (Int × Int × Int)) (p : Addr) H', es'.Perm es → es'.Pairwise (fun e f => e.1 ≤ f.1) → H p = none → Same H H' → Dp K H' (.ref p) (.list (es'.map rowP)) → Q (.ref p) H'
theorem cr_sortR {X : Cx} {K : PySem.W.Frag} (hu : X.A.units + 64 < cLine) (hK : X.K = K := by rfl) : CallR X (.builtin "sorted") (rSortR K) := by
  subst hK
  intro pins s σ H xs us Q I hv h
  obtain ⟨a, es, rfl, hd, det, q⟩ := h
  obtain ⟨u, rfl, ru⟩ := vals1 hv
  cases ru
  obtain ⟨a', ys, e0, hs, ha⟩ := dp_lst hd
  cases e0
  obtain ⟨its, hy, hp, hz⟩ := I.list hs
  have hl := hy.length
  obtain ⟨r1, r2⟩ := rowsI I hy ha
  refine sorted_rows (k := rowK s.heap) (by show X.A.units + 1 + 1 < cLine; omega) (PlainL.isList hp) (by omega) (fun v hv => (r2 v hv).1) (fun v hv u hu e => ?_) fun h' d out o1 o2 o3 o4 o5 => ?_
  · exact det _ (by rw [r1]; exact List.mem_map_of_mem hv) _ (by rw [r1]; exact List.mem_map_of_mem hu) e
  · have hn : H d = none := I.hok.fresh o4
    have hvs : ∀ l : List Value, (∀ u ∈ l, u ∈ its) → Vals (l.map backV) l ∧ DpAll X.K H (l.map backV) ((l.map (rowK s.heap)).map rowP) := by
      intro l
      induction l with
      | nil => exact fun _ => ⟨.nil, .nil⟩
      | cons u l ih =>
        intro hl
        obtain ⟨i1, i2⟩ := ih fun v hv => hl v (List.mem_cons_of_mem _ hv)
        obtain ⟨_, j1, j2⟩ := r2 u (hl u List.mem_cons_self)
        exact ⟨.cons j1 i1, .cons j2 i2⟩
    obtain ⟨v1, v2⟩ := hvs out fun u hu => (o1.mem_iff).mp hu
    have lo : out.length = its.length := o1.length_eq
    obtain ⟨n, o5⟩ := o5
    have same : Same H (upd H d (.lst (out.map backV))) := same_new hn
    refine ⟨.ref d, upd H d (.lst (out.map backV)), I.laid o3 o4 ⟨by rw [List.length_map]; omega, out, n, v1, o5⟩, rfl, q (out.map (rowK s.heap)) d _ (by rw [r1]; exact o1.map _) (List.pairwise_map.mpr o2) hn same ?_⟩
    exact .lst (SqL.of upd_same) (dpa_same same v2)
end Tw
namespace Tw
open PySem PySem.Spec PyProof.Rows L2
/-- a place with its numerator over W -/
def key3 (W : Nat) (x : Nat × Nat) : Int × Int × Int := (((x.1 * (W / x.2) : Nat) : Int), (x.1 : Int), (x.2 : Int))
theorem key_pd (W : Nat) (x : Nat × Nat) : rowP (key3 W x) = .tuple [.int ((x.1 * (W / x.2) : Nat) : Int), pd x] := rfl
theorem key_inj {W : Nat} {x y : Nat × Nat} (hW : 0 < W) (hx : Plc x) (hy : Plc y) (dx : x.2 ∣ W) (dy : y.2 ∣ W) (e : x.1 * (W / x.2) = y.1 * (W / y.2)) : x = y := by
  have h1 : x.1 * (W / x.2) * x.2 = x.1 * W := by rw [Nat.mul_assoc, Nat.div_mul_cancel dx]
  have h2 : y.1 * (W / y.2) * y.2 = y.1 * W := by rw [Nat.mul_assoc, Nat.div_mul_cancel dy]
  have r1 := red_of hx.cop hx.pos hW h1.symm
  have r2 := red_of hy.cop hy.pos hW h2.symm
  rw [← r1, ← r2, e]
theorem key_sz {W : Nat} {x : Nat × Nat} (hW : 0 < W) (hC : W ∣ CN) (dx : x.2 ∣ W) : sz x = x.1 * (W / x.2) * (CN / W) := by
  unfold sz
  obtain ⟨m, hm⟩ := hC
  obtain ⟨n, hn⟩ := dx
  have hx : 0 < x.2 := by
    rcases Nat.eq_zero_or_pos x.2 with z | z
    · rw [z] at hn; omega
    · exact z
  rw [hm, Nat.mul_div_cancel_left _ hW, hn, Nat.mul_assoc, Nat.mul_div_cancel_left _ hx, Nat.mul_div_cancel_left _ hx, Nat.mul_assoc]
theorem sorted_back {W : Nat} {xs : List (Nat × Nat)} {es : List (Int × Int × Int)} (h : es.Perm (xs.map (key3 W))) : ∃ ys : List (Nat × Nat), ys.Perm xs ∧ es = ys.map (key3 W) := by
  let g : Int × Int × Int → Nat × Nat := fun e => (e.2.1.toNat, e.2.2.toNat)
  have hg : ∀ x, g (key3 W x) = x := fun x => by simp [g, key3]
  refine ⟨es.map g, ?_, ?_⟩
  · have := h.map g
    rw [List.map_map] at this
    rwa [show g ∘ key3 W = id from funext hg, List.map_id] at this
  · rw [List.map_map]
    symm
    refine (List.map_congr_left fun e he => ?_).trans (List.map_id _)
    obtain ⟨x, _, rfl⟩ := List.mem_map.mp (h.mem_iff.mp he)
    show key3 W (g (key3 W x)) = key3 W x
    rw [hg]
theorem lcm_step {W b : Nat} (hW : 0 < W) (hb : 0 < b) (h1 : W ∣ CN) (h2 : b ∣ CN) : 0 < W / Nat.gcd W b * b ∧ W / Nat.gcd W b * b ∣ CN ∧ W ∣ W / Nat.gcd W b * b ∧ b ∣ W / Nat.gcd W b * b := by
  have e : W / Nat.gcd W b * b = Nat.lcm W b := by
    unfold Nat.lcm
    obtain ⟨m, hm⟩ := Nat.gcd_dvd_left W b
    have hg : 0 < Nat.gcd W b := Nat.gcd_pos_of_pos_left _ hW
    generalize Nat.gcd W b = g at *
    rw [hm, Nat.mul_div_cancel_left _ hg, Nat.mul_assoc, Nat.mul_div_cancel_left _ hg]
  rw [e]
  exact ⟨Nat.lcm_pos hW hb, Nat.lcm_dvd h1 h2, Nat.dvd_lcm_left _ _, Nat.dvd_lcm_right _ _⟩
end Tw
namespace Tw
open PySem PySem.Spec PyProof.Rows L2
theorem pe_ownInit {X : Cx} {e : Expr} {es : List Expr} {ta : TA} {p1 p2 pos : Pos} {pl : Sem Bool} {x : Str} {D : Addr} (hg : Gl X x) (hm : X.mg x = some (.ref D))
    (sp : PySem.W.specialIn X.K (.ref D) "__getattribute__" = some (some (.builtin "type.__getattribute__"))) (tp : PySem.W.typeIn X.K (.ref D) = some (.type "type")) (rd : PySem.W.readsIn X.K D (.type "type") = true)
    (fc : PySem.W.findCls X.K (.ref D) (.type "type") "__init__" = some (.val (.builtin "ValueError.__init__"))) (ha : PA X (e :: es) ta) (hd : (x == ("__debug__" : Str)) = false := by rfl)
    (he : eval (.Call (.Attribute (.Name x p1) "__init__" p2) (e :: es) [] pos) X.env = (do
      let ov ← eval (.Name x p1) X.env
      standAt p2.atName
      let (f, first) ← holding [ov] (getMethod ov "__init__" pl)
      callWith pos f first (backTo pos (starEach (e :: es) X.env)) (backToKw pos (keywordEach [] X.env))) := by rfl)
    (h1 : starEach (e :: es) X.env = (false, eval e X.env) :: starEach es X.env := by rfl) (h2 : (backTo pos (starEach es X.env)).any (·.1) = false := by rfl) :
    PE X (.Call (.Attribute (.Name x p1) "__init__" p2) (e :: es) [] pos) (tVeI X.K ta) where
  run := fun pins s σ H Q I h => by
    obtain ⟨m, fr⟩ := I.fr
    have kin := I.ok.mod.kin
    refine PySem.W.methodCall_KW (ld_glob I hg hm ?_ hd) he
    refine PySem.W.method_of_cls fr kin sp (PySem.W.cls_val fr kin tp rd fc (by rfl) ?_)
    refine callWith_method1 (thn (ha.run pos pins _ σ H _ (I.tok _) h) fun us s' z => ?_) h1 h2
    obtain ⟨vs, H', I', rv, a, C, ws, rfl, hl, ox, hx, q⟩ := z
    cases rv with
    | cons r1 r2 =>
      cases r1
      refine oinit_ok ox I' hx ?_ fun s2 I2 => ⟨.non, H', I2, rfl, q⟩
      have := r2.length
      rw [sizeLine_eq]
      omega
/-- a call of a def that may raise, where it doesn't -/
theorem passF {P : Program} {w : World} {X : Cx} : Passes (CX P w) X (fun _ _ _ => False) := by
  intro pins σ H s e s' I h
  obtain ⟨_, _, _, _, _, _, _, _, _, _, _, _, h⟩ := h
  exact h.elim
/-- what the top says of an own class of errors at C -/
structure ExK (K : PySem.W.Frag) (C : Addr) : Prop where
  o : OexC K C
  f : XfC K C
/-- .. of one whose __init__ is called by name -/
structure ExB (K : PySem.W.Frag) (D : Addr) : Prop where
  sp : PySem.W.specialIn K (.ref D) "__getattribute__" = some (some (.builtin "type.__getattribute__"))
  tp : PySem.W.typeIn K (.ref D) = some (.type "type")
  rd : PySem.W.readsIn K D (.type "type") = true
  fc : PySem.W.findCls K (.ref D) (.type "type") "__init__" = some (.val (.builtin "ValueError.__init__"))
section
variable {K : PySem.W.Frag} {σ : L2.St} {H : Hp} {Q : VK} {D : Ends}
theorem w_vei {ta : TA} (h : ta σ H fun vs H1 => ∃ a C ws, vs = V.ref a :: ws ∧ ws.length ≤ 1000 ∧ OexC K C ∧ H1 a = some (exo a C none) ∧ Q V.non H1) : tVeI K ta σ H Q := h
theorem w_ost {f : Str} {to te : TE} (h : te σ H fun y H1 => to σ H1 fun x H2 => ∃ a C, x = V.ref a ∧ OexC K C ∧ PySem.W.findIn K (Value.ref C) f = some none ∧
      ((H2 a = some (exo a C none) ∧ ∀ dx : Addr, H2 dx = none → dx ≠ a → D.nx σ (upd (upd H2 dx (exd dx [(f, y)])) a (exo a C (some dx)))) ∨
        ∃ dx fs, H2 a = some (exo a C (some dx)) ∧ H2 dx = some (exd dx fs) ∧ fs.length ≤ 900 ∧ D.nx σ (upd H2 dx (exd dx ((f, y) :: fs))))) : tOst K f to te D σ H := h
theorem w_js {t : TE} {ts : List TE} {acc : Str} {Q : Str → Hp → Prop} (h : t σ H fun x H1 => ∃ y : Str, x = .str y ∧ (acc ++ y).length ≤ sizeLine ∧ tJs ts (acc ++ y) σ H1 Q) : tJs (t :: ts) acc σ H Q := h
theorem w_jsN {acc : Str} {Q : Str → Hp → Prop} (h : Q acc H) : tJs [] acc σ H Q := h
theorem w_fmt {te : TE} (h : te σ H fun x H1 => (∃ y, x = V.str y ∧ y.length ≤ sizeLine ∧ Q (V.str y) H1) ∨ ∃ i, x = V.int i ∧ i.natAbs.log2 < 1920 ∧ Q (V.str (Str.ofString (toString i))) H1) : tFmt te σ H Q := h
end
theorem exm_ofS {K : PySem.W.Frag} {C S : Addr} {b : Bool} (h1 : PySem.W.subIn K (.ref S) (.type "BaseException") = some true) (h2 : PySem.W.isClsIn K S = true) (h3 : PySem.W.typeIn K (.ref S) = some (.type "type")) (h4 : PySem.W.subIn K (.ref C) (.ref S) = some b) :
    PySem.W.exmOne K (.ref C) (.ref S) = some b := by
  have e1 : (PySem.W.subIn K (.ref S) (.type "BaseException") == some true) = true := by rw [h1] <;> rfl
  have e2 : ((PySem.W.clsIn K S).isSome && PySem.W.typeIn K (.ref S) == some (.type "type")) = true := by
    have h2' : (PySem.W.clsIn K S).isSome = true := h2
    rw [h2', h3] <;> rfl
  show (if (PySem.W.subIn K (.ref S) (.type "BaseException") == some true) = true then (if ((PySem.W.clsIn K S).isSome && PySem.W.typeIn K (.ref S) == some (.type "type")) = true then PySem.W.subIn K (.ref C) (.ref S) else none) else none) = some b
  rw [if_pos e1, if_pos e2]
  exact h4
theorem str_app (a b : Str) : (a ++ b).length = a.length + b.length := by
  show (a.cps ++ b.cps).size = _
  exact Array.size_append
theorem log2_ok {n : Int} (h0 : 0 ≤ n) (h1 : n < 1000000) : n.natAbs.log2 < 1920 := by
  by_cases z : n.natAbs = 0
  · rw [z]; decide
  · rw [Nat.log2_lt z]
    exact Nat.lt_of_lt_of_le (show n.natAbs < 2 ^ 20 by omega) (Nat.pow_le_pow_right (by decide) (by decide))
theorem strI_len {n : Int} (h0 : 0 ≤ n) (h1 : n < 1000000) : (Str.ofString (toString n)).length ≤ 6 := toString_length_le h0 (by decide) (by omega)
section
variable {K : PySem.W.Frag} {σ : L2.St} {H : Hp} {D : Ends} {C : Addr}
theorem w_mko {sp : Sp} {dvs : List V} {ta : TA} {Q : XK} (h : ta σ H fun vs H1 => vs.length ≤ 1000 ∧ ∀ a : Addr, H1 a = none → sp (V.ref a :: (vs ++ dvs)) (upd H1 a (exo a C none))
      (fun v H2 => v = V.non ∧ ∃ d fs, H2 a = some (exo a C (some d)) ∧ H2 d = some (exd d fs) ∧ H1 d = none ∧ Q (Value.ref C) (some d) (upd (del H2 a) d (HO.xd fs))) fun _ _ _ => False) : tMkO C sp dvs ta σ H Q := h
/-- the error's dict beside what stood -/
theorem raise_same {H : Hp} {a dx : Addr} {o1 o2 o3 o4 : HO} (ha : H a = none) (hd : H dx = none) : Same H (upd (del (upd (upd (upd H a o1) dx o2) a o3) a) dx o4) := fun b o e => by
  have h1 : b ≠ a := fun z => by rw [z, ha] at e; cases e
  have h2 : b ≠ dx := fun z => by rw [z, hd] at e; cases e
  rw [upd_ne h2, del_ne h1, upd_ne h1, upd_ne h2, upd_ne h1]
  exact e
end
section
variable {K : PySem.W.Frag} {σ : L2.St} {H : Hp} {Q : VK}
theorem w_callS {sp : Sp} {E : L2.St → XK} {ta : TA} (h : ta σ H fun vs H1 => sp vs H1 Q (E σ)) : tCallS sp E ta σ H Q := h
theorem w_xf {a C : Addr} {cls : Value} {d : Option Addr} {f : Str} {te : TE} (h : te σ H fun x H1 => x = V.ref a ∧ cls = Value.ref C ∧ ∃ dd fs v, d = some dd ∧ H1 dd = some (HO.xd fs) ∧ List.lookup f fs = some v ∧ Q v H1) : tXf a cls d C f te σ H Q := h
end
end Tw
namespace Tw
open PySem PySem.Spec PyProof.Rows L2
/-- an error that was kept: its class, its dict -/
def keO (a : Addr) (cls : Value) (d : Option Addr) : HO := .ext fun h => ∃ oe vs, h.get? a = some oe ∧ Zc cls d oe ∧ oe.data = .fields vs
section
variable {X : Cx} {pins : List (Addr × Obj)} {σ : L2.St} {H : Hp} {s : Shared} {a : Addr} {oe : Obj} {cls : Value} {d : Option Addr}
/-- a pinned error becomes a tracked one -/
theorem keep_err (I : Inv X ((a, oe) :: pins) σ H s) (z : Zc cls d oe) (hd : ∃ vs, oe.data = .fields vs) (n0 : X.s_0.heap.get? a = none) (np : ∀ p ∈ X.pn ++ pins, p.1 ≠ a) :
    Inv X pins σ (upd H a (keO a cls d)) s := by
  obtain ⟨vs, hv⟩ := hd
  obtain ⟨p1, p2, p3, p4, p5⟩ := I.pin (a, oe) (by simp)
  have sub : ∀ p ∈ X.pn ++ pins, p ∈ X.pn ++ (a, oe) :: pins := fun p hp => by
    rcases List.mem_append.mp hp with q | q
    · exact List.mem_append_left _ q
    · exact List.mem_append_right _ (List.mem_cons_of_mem _ q)
  have ne : ∀ {b u}, H b = some u → b ≠ a := fun e => ne_of_none e p2
  constructor
  case ok => exact I.ok
  case os => exact I.os
  case bare => exact I.bare
  case base =>
    have B := I.base
    constructor
    case keep => exact B.keep
    case slot => exact B.slot
    case there => exact B.there
    case free =>
      intro b o e n hx
      rw [upd_ne (fun q => by rw [q, n0] at e; cases e)]
      exact B.free b o e n hx
    case tups => intro b xs e; have q := B.tups b xs e; rw [upd_ne (ne q)]; exact q
    case frzs => intro b o u e; have q := B.frzs b o u e; rw [upd_ne (ne q)]; exact q
    case tbls => intro b ps e; obtain ⟨m, q⟩ := B.tbls b ps e; exact ⟨m, by rw [upd_ne (ne q)]; exact q⟩
  case loc => exact I.loc
  case cell => exact I.cell
  case free => rw [upd_ne (Ne.symm p3)]; exact I.free
  case freeC =>
    intro x c e
    have hc : c ≠ a := fun q => by
      obtain ⟨v, o, ho, hcell⟩ := I.cell x c e
      rw [q, p1] at ho
      cases ho
      exact p5 v hcell
    rw [upd_ne hc]
    exact I.freeC x c e
  case pin =>
    intro p hp
    obtain ⟨q1, q2, q3⟩ := I.pin p (sub p hp)
    exact ⟨q1, by rw [upd_ne (np p hp)]; exact q2, q3⟩
  case hok =>
    intro b u e
    by_cases hb : b = a
    · subst hb
      rw [upd_same] at e
      cases e
      exact ⟨⟨oe, vs, p1, z, hv⟩, ⟨oe, p1⟩, fun h1 h2 ⟨o, v, a1, a2, a3⟩ st => ⟨o, v, st _ a1, a2, a3⟩⟩
    · rw [upd_ne hb] at e
      exact (I.hok b u e).stay (fun _ _ _ q => q) (fun c q => by rw [upd_ne (ne q)]; exact q) fun c xs q => by rw [upd_ne (ne q)]; exact q
  case len => exact I.len
/-- out of the suite, the error still pinned -/
theorem unsuite_pin (I : Inv (X.suite a ((a, oe) :: (X.pn ++ pins))) [] σ H s) (ok : X.Ok) : Inv X ((a, oe) :: pins) σ H s :=
  { ok := ok, os := I.os, bare := I.bare, base := I.base, loc := I.loc, cell := I.cell, free := I.free, freeC := I.freeC, hok := I.hok, len := I.len,
    pin := fun p hp => I.pin p (by
      refine List.mem_append_left _ ?_
      rcases List.mem_append.mp hp with q | q
      · exact List.mem_cons_of_mem _ (List.mem_append_left _ q)
      · rcases List.mem_cons.mp q with q | q
        · rw [q]; exact List.mem_cons_self
        · exact List.mem_cons_of_mem _ (List.mem_append_right _ q)) }
end
/-- what a clause that keeps its error wishes of an exception of the body -/
def wKe (K : PySem.W.Frag) (c : Value) (i : Nat) (ts : Addr → Value → Option Addr → TS) (Wout : WX) (D : Ends) : WX := fun cls d σ H =>
  ∃ b, PySem.W.exmOne K cls c = some b ∧ (b = true → ∀ a, H a = none → ts a cls d { nx := fun σ' H' => D.nx (σ'.set i none) (upd H' a (keO a cls d)), rt := D.rt, bk := fun σ' H' => D.bk (σ'.set i none) H', ct := fun σ' H' => D.ct (σ'.set i none) H' } (σ.set i (some (.ref a))) H) ∧
    (b = false → Wout cls d σ H)
section
variable {X : Cx} {x n : Str} {c : Value} {i : Nat} {body suite : List Stmt} {b₀ : Stmt} {np pos pos' : Pos} {tb : WX → TS} {ts : Addr → Value → Option Addr → TS} {Wout : WX}
/-- try: body / except x as n: suite, where n's object is tracked from then on -/
theorem ps_try_keep (hs : X.stack = X.env :: X.outer) (hf : X.env.frame = some X.env.locals) (hex : X.ex = []) (hN : X.N.Nodup) (hi : X.N[i]? = some n) (hln : X.env.kindOf n = some .local) (hc : Names X x c) (tk : Takes X Wout)
    (hb : ∀ (W : WX) (pn : List (Addr × Obj)) (xe : Value → Shared → Prop), Takes (X.tr pn xe) W → PassesOwn (model X.prog X.w) X.A X.env xe → PSs (X.tr pn xe) body (tb W))
    (hsu : ∀ (a : Addr) (oe : Obj) (cls : Value) (d : Option Addr) (pn : List (Addr × Obj)), Zc cls d oe → (∃ vs, oe.data = .fields vs) → PSs (X.suite a ((a, oe) :: pn)) (b₀ :: suite) (ts a cls d)) :
    PS X (.Try body [.ExceptHandler (some (.Name x np)) (some n) (b₀ :: suite) pos'] [] [] pos) (fun D σ H => tb (wKe X.K c i ts Wout D) D σ H) := by
  constructor
  intro pins s σ H D I h
  have ok := I.ok
  have frm : X.A.frames = some (X.env :: X.outer) := ok.frames.trans (by rw [hs])
  refine wpAny_Try_except ?_
  have run := (hb (wKe X.K c i ts Wout D) (X.pn ++ pins)
    (fun e s₁ => wpAny (model X.prog X.w) X.A (noteFrame e X.env) (fun _ s₂ => wpAny (model X.prog X.w) X.A (setFlight e none) (fun _ s₃ => wpAny (model X.prog X.w) X.A (handleBy e X.env [.ExceptHandler (some (.Name x np)) (some n) (b₀ :: suite) pos']) (SP X pins D) X.xe s₃) X.xe s₂) X.xe s₁)
    (fun u s' w => ?_) PassesOwn.looking).run [] s σ H D (I.toTry _) h
  · refine wpAny_mono run (fun f s1 q => ?_) fun e s1 q => q
    cases f with
    | next => obtain ⟨σ', H', J, q⟩ := q; exact wpAny_execs_nil ⟨σ', H', J.ofTry ok, q⟩
    | ret u => obtain ⟨v, σ', H', J, r, q⟩ := q; exact ⟨v, σ', H', J.ofTry ok, r, q⟩
    | brk => obtain ⟨σ', H', J, q⟩ := q; exact ⟨σ', H', J.ofTry ok, q⟩
    | cont => obtain ⟨σ', H', J, q⟩ := q; exact ⟨σ', H', J.ofTry ok, q⟩
  · -- an exception of the body
    obtain ⟨a, B, sI, pins', σ', H', cls, d, rfl, J', nb, up, sky, na, os, ag, b, hb1, yes, no⟩ := w
    have J : Inv X pins σ' H' sI := J'.ofTry ok
    show wpAny (model X.prog X.w) X.A (noteFrame (.ref a) X.env) _ _ _
    have sky2 : Sky B (X.env :: X.outer) a (Zc cls d) X.env.locals s'.heap := hs ▸ sky
    refine Sky.land Zc.steady frm hf sky2 fun h3 fl up3 => ?_
    have J3 : Inv X pins σ' H' { s' with heap := h3 } := J.landed nb fl.1 (up.trans up3) os ag
    obtain ⟨o3, v3, ge3, ze3, fe3⟩ := fl.there
    have nfr : a ∉ frs (X.env :: X.outer) := fun hm => by
      obtain ⟨_, o', e', hnf⟩ := fl.2.2.1.mem hm
      rw [ge3] at e'
      cases e'
      exact hnf _ fe3
    have nL : a ≠ X.env.locals := fun q => nfr (List.mem_filterMap.mpr ⟨X.env, List.mem_cons_self, by rw [hf, q]⟩)
    have nF : a ∉ X.fs := fun hm => by
      obtain ⟨e, he, q⟩ := List.mem_filterMap.mp hm
      exact nfr (List.mem_filterMap.mpr ⟨e, List.mem_cons_of_mem _ he, q⟩)
    -- it is new
    have nI : sI.heap.get? a = none := by
      cases q : sI.heap.get? a with
      | none => rfl
      | some o =>
        have r := nb a o q (by rw [hs]; exact nfr)
        rw [fl.2.1] at r
        cases r
    have newA : X.s_0.heap.get? a = none := by
      cases q : X.s_0.heap.get? a with
      | none => rfl
      | some o =>
        obtain ⟨o', r⟩ := J.base.there a o q (by rw [hex]; simp)
        rw [nI] at r
        cases r
    have nP : ∀ p ∈ X.pn ++ pins, p.1 ≠ a := fun p hp q => by
      have r := (J.pin p hp).1
      rw [q, nI] at r
      cases r
    have S3 := J3.suite ge3 fe3 na nL nF
    refine wpAny_handleBy_cons (codeAny_handlers_test ?_) (by intro q; cases q)
    have LT : PySem.W.Looks (model X.prog X.w) h3 (typeOf (.ref a)) cls := fun A Q E s k q => wpAny_typeOf_ref (k _ _ ge3) (by rw [ze3.1]; exact q)
    have LM := PySem.W.exm_one (M := model X.prog X.w) (J3.kIn) LT hb1
    have named : ∀ {Q : Value → Shared → Prop} {E : Value → Shared → Prop}, Q c { s' with heap := h3 } → wpAny (model X.prog X.w) (X.A.mark (some (.ref a))) (eval (.Name x np) X.env) Q E { s' with heap := h3 } := by
      intro Q E q
      obtain ⟨hg, hdbg, hm⟩ := hc
      rcases hm with hm | ⟨hm, hv, hnn⟩
      · exact ld_glob (X := X.suite a ((a, o3) :: (X.pn ++ pins))) S3 hg hm q hdbg
      · exact ld_blt (X := X.suite a ((a, o3) :: (X.pn ++ pins))) S3 hg hm hv q hnn hdbg
    refine named (LM.here ?_)
    cases b with
    | false =>
      show wpAny _ X.A (handleBy (.ref a) X.env []) _ _ _
      refine wpAny_handleBy_nil ?_
      obtain ⟨k1, k2, k3, o5, vs, T, oT, ts', he, hz, hd, h1, hr⟩ := id fl
      unfold PySem.passOn
      refine wpAny_bind (wpAny_field he hd h1 ?_)
      rw [if_neg (show ¬ ((Value.ref T == Value.none) = true) from by simp)]
      have fin : wpAny (model X.prog X.w) X.A (setFlight (.ref a) X.env.frame) (fun _ s4 => wpAny (model X.prog X.w) X.A (throw (.ref a) : Sem Flow) (SP X pins D) X.xe s4) X.xe { s' with heap := h3 } := by
        rw [hf]
        exact HandSPX.setFlight_upZ fl fun h4 hh4 up4 => wpAny_throw (tk _ _ ⟨a, B, sI, pins, σ', H', cls, d, rfl, J, nb, (up.trans up3).trans up4, .inr (.inr (by rw [hs]; exact hh4)), na, os, ag, no rfl⟩)
      first
        | exact wpAny_bind (wpAny_pure (wpAny_bind fin))
        | exact wpAny_bind fin
    | true =>
      refine codeAny_handlers_suite_as (HandSPX.lands_againZ fl fun h4 fl4 up4 => ?_)
      have J4 : Inv X pins σ' H' { s' with heap := h4 } := J.landed nb fl4.1 ((up.trans up3).trans up4) os ag
      obtain ⟨o4, v4, ge4, ze4, fe4⟩ := fl4.there
      refine store_ok (X := X.suite a ((a, o4) :: (X.pn ++ pins))) (v := .ref a) (J4.suite ge4 fe4 na nL nF) hN hi (.inl hln) rfl (fun s5 S5 => ?_) (.inr hln)
      refine wpAny_mono ((hsu a o4 cls d (X.pn ++ pins) ze4 ⟨_, fe4⟩).run [] s5 _ H' _ S5 (yes rfl a na)) (fun f s6 q => ?_) (fun _ _ z => z.elim)
      have done : ∀ {σ6 : L2.St} {H6 : Hp} {Q : Shared → Prop}, Inv (X.suite a ((a, o4) :: (X.pn ++ pins))) [] σ6 H6 s6 → (∀ s7, Inv X ((a, o4) :: pins) (σ6.set i none) H6 s7 → Q s7) →
          wpAny (model X.prog X.w) X.A (do bindName X.env n .none; unbindBehindTheSuite X.env n pos') (fun _ s7 => Q s7) X.xe s6 := fun S6 k => gone_ok (unsuite_pin S6 ok) hN hi hln k
      have less : ∀ {σ6 : L2.St} {H6 : Hp} {s7 : Shared}, Inv X ((a, o4) :: pins) σ6 H6 s7 → Inv X pins σ6 H6 s7 := fun J7 =>
        { ok := J7.ok, os := J7.os, bare := J7.bare, base := J7.base, loc := J7.loc, cell := J7.cell, free := J7.free, freeC := J7.freeC, hok := J7.hok, len := J7.len,
          pin := fun p hp => J7.pin p (by
            rcases List.mem_append.mp hp with q | q
            · exact List.mem_append_left _ q
            · exact List.mem_append_right _ (List.mem_cons_of_mem _ q)) }
      cases f with
      | next => obtain ⟨σ6, H6, S6, q6⟩ := q; exact done S6 fun s7 J7 => ⟨_, _, keep_err J7 ze4 ⟨_, fe4⟩ newA nP, q6⟩
      | ret u => obtain ⟨v6, σ6, H6, S6, r6, q6⟩ := q; exact done S6 fun s7 J7 => ⟨_, _, _, less J7, r6, q6⟩
      | brk => obtain ⟨σ6, H6, S6, q6⟩ := q; exact done S6 fun s7 J7 => ⟨_, _, less J7, q6⟩
      | cont => obtain ⟨σ6, H6, S6, q6⟩ := q; exact done S6 fun s7 J7 => ⟨_, _, less J7, q6⟩
end
section
variable {prog : Program} {w : World} {A : Around} {E : Value → Shared → Prop} {s : Shared} {K : PySem.W.Frag} {x D : Addr} {ox : Obj} {od : Option Obj}
/-- e.__class__ of an error of an own class, with a dict of its own or without -/
theorem err_class {Q : Option Value → Shared → Prop} (C : ExcC K D) (X : K.In s.heap) (I : PySem.W.InstAt s.heap x ox D od) (h : Q (some (.ref D)) { s with toks := s.toks + 1 }) :
    wpAny (model prog w) A (getAttr? (.ref x) "__class__") Q E s := by
  have hcl : (PySem.W.clsIn K D).isSome = true := by obtain ⟨cd, hc, _⟩ := PySem.W.any_some C.hd; rw [hc]; rfl
  have found : PySem.W.findObj K D od "__class__" = some (.bind (.builtin "getset_descriptor.__get__") (.builtin "object.__class__")) := by
    obtain ⟨cd, hc⟩ := Option.isSome_iff_exists.mp hcl
    unfold PySem.W.findObj
    rw [hc, Option.bind_some, C.ha, Option.bind_some]
    simp [C.hn, C.ht]
  obtain ⟨hp, g, d, t, os⟩ := s
  have ofType := I.type (M := model prog w)
  have ofGet := PySem.W.looks_findIn (M := model prog w) X C.hg
  have ofHook := PySem.W.looks_findIn (M := model prog w) X C.hk
  have ofClass := PySem.W.looks_find (M := model prog w) X I found
  have isExc : PySem.W.Looks (model prog w) hp (isInstance (.ref x) (.type "BaseException")) true := ofType.andThen (PySem.W.looks_subIn X C.hs)
  have n1 : (Value.builtin "BaseException.__getattribute__" == Value.builtin "object.__getattribute__") = false := by decide +kernel
  have n2 : (onTheHeap (Value.ref D) && Value.builtin "BaseException.__getattribute__" == Value.builtin "object.__getattribute__") = false := by rw [n1]; rfl
  have n3 : (false && onTheHeap (Value.builtin "BaseException.__getattribute__")) = false := rfl
  unfold getAttr? getAttrBy? getAttrBy
  refine wpAny_bind (wpAny_mkText (wpAny_bind (wpAny_attempt (wpAny_holding (wpAny_bind (ofType.at (wpAny_bind (ofGet.at ?_))))))))
  show wpAny _ _ (if (onTheHeap (Value.ref D) && Value.builtin "BaseException.__getattribute__" == Value.builtin "object.__getattribute__") = true then _ else _) _ _ _
  rw [n2, if_neg Bool.false_ne_true]
  unfold getAttrByItsOwn hookBefore
  refine wpAny_bind ?_
  rw [if_pos (show onTheHeap (Value.ref D) = true from rfl)]
  refine ofHook.at (wpAny_bind (wpAny_attempt (wpAny_holding ?_)))
  unfold callGetattribute
  rw [n3, if_neg Bool.false_ne_true]
  unfold boundAndCalled
  rw [PySem.F.excAttr_ValueError.ga.bind (.ref x)]
  refine wpAny_bind (wpAny_pure ?_)
  show wpAny _ _ (call (.builtin "BaseException.__getattribute__") [.ref x, .str "__class__" t]) _ _ _
  refine wpAny_call (codeAny_call_builtin PySem.F.excAttr_ValueError.ga.plain PySem.F.entry_bexc_ga ?_)
  refine @PySem.W.check_slot (model prog w) _ _ ⟨hp, g, d, t + 1, os⟩ "BaseException.__getattribute__" "BaseException" "__getattribute__" (.ref x) [.str "__class__" t] [] _ (by decide +kernel) (by decide +kernel) isExc (PySem.F.args_bexc_ga (.ref x) (.str "__class__" t)) ?_
  unfold Builtin.«object.__getattribute__»
  refine wpAny_bind (wpAny_of_eq (a := ((Value.ref x : Value), [Value.str "__class__" t])) (by first | rfl | (simp only [slotArgs]; rfl)) ?_)
  refine wpAny_bind (wpAny_pure (wpAny_bind (ofType.at (wpAny_bind (ofClass.at ?_)))))
  show wpAny _ _ (holding [Value.builtin "object.__class__"] (call (.builtin "getset_descriptor.__get__") [.builtin "object.__class__", .ref x, .ref D]) >>= ret) _ _ _
  refine wpAny_bind (wpAny_holding (wpAny_call (PySem.W.class_get (s := ⟨hp, g, d, t + 1, os⟩) (ox := ox) (od := od) X I C.hm ?_)))
  refine wpAny_pure ?_
  show wpAny _ _ (handedOut (.ref D)) _ _ _
  rw [PySem.W.handedOut_of (v := .ref D) rfl]
  first
    | exact wpAny_pure (wpAny_pure h)
    | exact wpAny_pure h
    | exact wpAny_pure (wpAny_bind (wpAny_pure (wpAny_pure h)))
theorem err_kit (C : ExcC K D) : PySem.W.KitX K (.ref x) (.ref D) (fun h => ∃ ox od, PySem.W.InstAt h x ox D od) := by
  have cls : ∃ c' d' cd' sl', K.lookup D = some ⟨c', d', .cls cd', sl'⟩ := by
    obtain ⟨cd, hc, _⟩ := PySem.W.any_some C.hd
    unfold PySem.W.clsIn at hc
    split at hc
    · rename_i c' d' cd' sl' ho; exact ⟨c', d', cd', sl', ho⟩
    · cases hc
  obtain ⟨c', d', cd', sl', ho⟩ := cls
  constructor
  case ty => intro M h X ⟨ox, od, I⟩; exact I.type
  case it =>
    intro M h X _ A' Q' E' s' k q
    unfold isType loadHead
    exact wpAny_bind (wpAny_loadPart (k _ _ (X _ _ ho)) (wpAny_pure q))
  case ne =>
    intro h tp dd its n sl X htp
    refine Bool.eq_false_iff.mpr fun q => ?_
    have e : D = tp := Value.ref.inj (beq_iff_eq.mp q)
    subst e
    have r := (X _ _ ho).symm.trans htp
    cases r
  case ca => intro prog w A E Q s X ⟨ox, od, I⟩ k; exact err_class C X I k
end
/-- the dict of a kept error is known -/
def dictAt (H : Hp) (d : Option Addr) : Prop := ∀ dd, d = some dd → ∃ fs, H dd = some (.xd fs)
/-- isinstance(e, c), e a kept error -/
def rIsK (K : PySem.W.Frag) : List V → Hp → VK → Prop := fun xs H Q => ∃ (a D : Addr) (c : V) (cv : Value) (d : Option Addr) (b : Bool), xs = [.ref a, c] ∧ H a = some (keO a (.ref D) d) ∧ dictAt H d ∧ ExcC K D ∧ (∀ u, RelV c u → u = cv) ∧ PySem.W.kitOne K (.ref D) cv = some b ∧ Q (.bl b) H
theorem kept_get {P : Program} {w : World} {H : Hp} {h : Heap} {a D : Addr} {d : Option Addr} (ok : HOk P w H h) (ea : H a = some (keO a (.ref D) d)) (hd : dictAt H d) : ∃ ox od, PySem.W.InstAt h a ox D od ∧ ∀ dd fs, d = some dd → H dd = some (.xd fs) → ∃ o mA, od = some o ∧ h.Ns1 dd mA ∧ h.get? dd = some o ∧ ∀ f, RelO (fs.lookup f) (mA f) := by
  obtain ⟨⟨oe, vs, g, z, fe⟩, _⟩ := ok a _ ea
  have no : PySem.W.notCls oe = true := by unfold PySem.W.notCls; rw [fe]
  cases d with
  | none => exact ⟨oe, none, ⟨g, z.1, no, by rw [z.2]; trivial⟩, fun dd fs e => by cases e⟩
  | some dd =>
    obtain ⟨fs, e⟩ := hd dd rfl
    obtain ⟨mA, hns, hr⟩ := ok dd _ e
    obtain ⟨o, ho, hl⟩ := lookIn_ns hns
    refine ⟨oe, some o, ⟨g, z.1, no, by rw [z.2]; exact ho⟩, fun d2 f2 e2 q => ?_⟩
    cases e2
    rw [e] at q
    cases q
    exact ⟨o, mA, rfl, hns, ho, hr⟩
theorem cl_isK {X : Cx} {K : PySem.W.Frag} (hk : X.K = K := by rfl) : CallR X (.builtin "isinstance") (rIsK K) := by
  subst hk
  intro pins s σ H xs us Q I r h
  obtain ⟨a, D, c, cv, d, b, rfl, ea, hd, C, hcv, e, q⟩ := h
  cases r with
  | cons rx rr =>
    cases rr with
    | cons rt rr =>
      cases rr
      cases rx
      have ec := hcv _ rt
      subst ec
      obtain ⟨ox, od, J, _⟩ := kept_get I.hok ea hd
      exact PySem.W.kia_one (err_kit C) I.kIn ⟨ox, od, J⟩ e (fun z => nomatch z) fun tk => ⟨.bl b, H, I.kept (t' := tk) fun _ _ z => z, rfl, q⟩
/-- e.f of a kept error -/
def tKf (K : PySem.W.Frag) (f : Str) (te : TE) : TE := fun σ H Q => te σ H fun x H1 => ∃ (a D dd : Addr) (fs : List (Str × V)) (v : V), x = .ref a ∧ H1 a = some (keO a (.ref D) (some dd)) ∧ H1 dd = some (.xd fs) ∧ XfC K D ∧ PySem.W.findIn K (.ref D) f = some none ∧ fs.lookup f = some v ∧ Q v H1
theorem pe_kf {X : Cx} {K : PySem.W.Frag} {e : Expr} {te : TE} {pos : Pos} {n : Str} (he : PE X e te) (hk : X.K = K := by rfl) (hb : attributeBase e n X.env (eval e X.env) = eval e X.env := by rfl) : PE X (.Attribute e n pos) (tKf K n te) := by
  subst hk
  refine ⟨fun pins s σ H Q I h => ?_⟩
  refine attr_of hb (thn (he.run pins s σ H _ I h) fun u s1 hh => ?_)
  obtain ⟨x, H1, I1, rx, a, D, dd, fs, v, rfl, ea, ed, T, hno, l, q⟩ := hh
  obtain rfl : u = Value.ref a := rx
  obtain ⟨ox, od, J, r⟩ := kept_get I1.hok ea (fun d2 e2 => ⟨fs, by cases e2; exact ed⟩)
  obtain ⟨o, mA, rfl, hns, ho, hr⟩ := r dd fs rfl ed
  obtain ⟨o2, ho2, hl⟩ := lookIn_ns hns
  rw [ho] at ho2
  cases ho2
  obtain ⟨u, hu, ru⟩ := RelO.some_of (v := v) (o := mA n) (by rw [← l]; exact hr n)
  exact HandSPX.exc_get I1.kIn J T.ga T.gg T.exC (PySem.W.findObj_own T.hdC hno rfl (by rw [hl, hu])) (handed_of ru) ⟨v, H1, I1.tok _, ru, q⟩
/-- isinstance(e, c) and isinstance(e, (c1, c2)) of the error that a suite holds -/
def isWhat (K : PySem.W.Frag) (D : Addr) (c : V) (H : Hp) (b : Bool) : Prop :=
  (∃ cv : Value, (∀ u, RelV c u → u = cv) ∧ PySem.W.kitOne K (.ref D) cv = some b) ∨ ∃ (p : Addr) (C1 C2 : Addr) (b1 b2 : Bool), c = .ref p ∧ H p = some (.tup [.ref C1, .ref C2]) ∧ PySem.W.kitOne K (.ref D) (.ref C1) = some b1 ∧ PySem.W.kitOne K (.ref D) (.ref C2) = some b2 ∧ b = (b1 || b2)
theorem isWhat_run {P : Program} {w : World} {K : PySem.W.Frag} {H : Hp} {s : Shared} {a D : Addr} {c : V} {cv : Value} {b : Bool} {A : Around} {Q : Value → Shared → Prop} {E : Value → Shared → Prop} (C : ExcC K D) (kin : K.In s.heap) (ok : HOk P w H s.heap) (J : ∃ ox od, PySem.W.InstAt s.heap a ox D od)
    (r : RelV c cv) (h : isWhat K D c H b) (q : ∀ tk, Q (.bool b) { s with toks := tk }) : wpAny (model P w) A (call (.builtin "isinstance") [.ref a, cv]) Q E s := by
  rcases h with ⟨u, hu, e⟩ | ⟨p, C1, C2, b1, b2, rfl, hp, e1, e2, rfl⟩
  · have e0 := hu _ r
    subst e0
    exact PySem.W.kia_one (err_kit C) kin J e (fun z => nomatch z) q
  · obtain rfl : cv = Value.ref p := r
    obtain ⟨_, its, rv, ob, ho, hc, hd⟩ := ok p _ hp
    cases rv with
    | cons r1 rr =>
      cases rr with
      | cons r2 rr =>
        cases rr
        cases r1
        cases r2
        obtain ⟨c0, d0, da, sl⟩ := ob
        obtain ⟨n, hd⟩ := hd
        dsimp only at hc hd
        subst hc hd
        refine PySem.W.kia_tup (err_kit C) kin J ho (b := (b1 || b2)) ?_ (fun z => nomatch z) q
        unfold PySem.W.kitAny
        rw [e1]
        cases b1 with
        | true => rfl
        | false =>
          show PySem.W.kitAny K (.ref D) [.ref C2] = _
          unfold PySem.W.kitAny
          rw [e2]
          cases b2 <;> rfl
def rIsS (K : PySem.W.Frag) (cls : Value) (d : Option Addr) (a : Addr) : List V → Hp → VK → Prop := fun xs H Q => ∃ (D : Addr) (c : V) (b : Bool), cls = .ref D ∧ dictAt H d ∧ ExcC K D ∧ xs = [.ref a, c] ∧ isWhat K D c H b ∧ Q (.bl b) H
theorem cl_isS {X : Cx} {K : PySem.W.Frag} {a : Addr} {oe : Obj} {pn : List (Addr × Obj)} {cls : Value} {d : Option Addr} (hz : Zc cls d oe) (hf : ∃ vs, oe.data = .fields vs) (hk : X.K = K := by rfl) : CallR (X.suite a ((a, oe) :: pn)) (.builtin "isinstance") (rIsS K cls d a) := by
  subst hk
  intro pins s σ H xs us Q I r h
  obtain ⟨D, c, b, rfl, hd, C, rfl, hw, q⟩ := h
  cases r with
  | cons rx rr =>
    cases rr with
    | cons rt rr =>
      cases rr
      cases rx
      obtain ⟨hget, _⟩ := I.pin (a, oe) (List.mem_append.mpr (.inl List.mem_cons_self))
      obtain ⟨vs, hv⟩ := hf
      have no : PySem.W.notCls oe = true := by unfold PySem.W.notCls; rw [hv]
      have J : ∃ ox od, PySem.W.InstAt s.heap a ox D od := by
        cases d with
        | none => exact ⟨oe, none, hget, hz.1, no, by rw [hz.2]; trivial⟩
        | some dd =>
          obtain ⟨fs, e⟩ := hd dd rfl
          obtain ⟨mA, hns, hr⟩ := I.hok dd _ e
          obtain ⟨o, ho, hl⟩ := lookIn_ns hns
          exact ⟨oe, some o, hget, hz.1, no, by rw [hz.2]; exact ho⟩
      exact isWhat_run C I.kIn I.hok J rt hw fun tk => ⟨.bl b, H, I.kept (t' := tk) fun _ _ z => z, rfl, q⟩
/-- a class of the text as a value -/
theorem pe_cls {X : Cx} {x : Str} {pos : Pos} {a : Addr} (hg : Gl X x) (hm : X.mg x = some (.ref a)) (hd : (x == ("__debug__" : Str)) = false := by decide) : PE X (.Name x pos) (tC (.ref a)) := pe_glob hg hm rfl hd
theorem isWhat_one {K : PySem.W.Frag} {D C : Addr} {H : Hp} {b : Bool} (e : PySem.W.kitOne K (.ref D) (.ref C) = some b) : isWhat K D (.ref C) H b := .inl ⟨.ref C, fun u r => r, e⟩
theorem isWhat_ty {K : PySem.W.Frag} {D : Addr} {n : String} {H : Hp} {b : Bool} (e : PySem.W.kitOne K (.ref D) (.type n) = some b) : isWhat K D (.ty n) H b := .inl ⟨.type n, fun u r => r, e⟩
theorem isWhat_two {K : PySem.W.Frag} {D C1 C2 p : Addr} {H : Hp} {b1 b2 : Bool} (hp : H p = some (.tup [.ref C1, .ref C2])) (e1 : PySem.W.kitOne K (.ref D) (.ref C1) = some b1) (e2 : PySem.W.kitOne K (.ref D) (.ref C2) = some b2) : isWhat K D (.ref p) H (b1 || b2) :=
  .inr ⟨p, C1, C2, b1, b2, rfl, hp, e1, e2, rfl⟩
theorem kit_of {K : PySem.W.Frag} {D C : Addr} {b : Bool} (hc : PySem.W.isClsIn K C = true) (ht : PySem.W.typeIn K (.ref C) = some (.type "type")) (hs : PySem.W.subIn K (.ref D) (.ref C) = some b) (hr : D = C → b = true) : PySem.W.kitOne K (.ref D) (.ref C) = some b := by
  unfold PySem.W.kitOne
  by_cases e : D = C
  · subst e
    rw [if_pos (by simp), hr rfl]
  · rw [if_neg (fun z => e (Value.ref.inj (beq_iff_eq.mp z)))]
    have hc' : (PySem.W.clsIn K C).isSome = true := hc
    unfold PySem.W.kitCls
    dsimp only
    rw [if_pos (by rw [hc', ht] <;> rfl)]
    exact hs
theorem kit_ty {K : PySem.W.Frag} {D : Addr} {n : String} {b : Bool} (hm : PySem.W.kitMeta n = true) (hs : PySem.W.subIn K (.ref D) (.type n) = some b) : PySem.W.kitOne K (.ref D) (.type n) = some b := by
  unfold PySem.W.kitOne
  rw [if_neg (fun z => by have := beq_iff_eq.mp z; cases this)]
  unfold PySem.W.kitCls
  dsimp only
  rw [if_pos hm]
  exact hs
def rKf (K : PySem.W.Frag) (f : Str) (x : V) (H1 : Hp) (Q : VK) : Prop := ∃ (a D dd : Addr) (fs : List (Str × V)) (v : V), x = .ref a ∧ H1 a = some (keO a (.ref D) (some dd)) ∧ H1 dd = some (.xd fs) ∧ XfC K D ∧ PySem.W.findIn K (.ref D) f = some none ∧ fs.lookup f = some v ∧ Q v H1
theorem w_kf {K : PySem.W.Frag} {σ : L2.St} {H : Hp} {Q : VK} {f : Str} {te : TE} (h : te σ H fun x H1 => rKf K f x H1 Q) : tKf K f te σ H Q := h
/-- an error that was just kept -/
theorem kept_new {H : Hp} {e D d : Addr} {fs : List (Str × V)} (he : H e = none) (hd : H d = some (.xd fs)) : let H2 := upd H e (keO e (.ref D) (some d)); H2 e = some (keO e (.ref D) (some d)) ∧ Same H H2 ∧ H2 d = some (.xd fs) ∧ dictAt H2 (some d) := by
  have e2 : Same H (upd H e (keO e (.ref D) (some d))) := same_new he
  exact ⟨upd_same, e2, e2 _ _ hd, fun dd z => by cases z; exact ⟨_, e2 _ _ hd⟩⟩
theorem kept_new0 {H : Hp} {e D : Addr} (he : H e = none) : let H2 := upd H e (keO e (.ref D) none); H2 e = some (keO e (.ref D) none) ∧ Same H H2 ∧ dictAt H2 none := ⟨upd_same, same_new he, fun dd z => nomatch z⟩
end Tw
namespace Tw
open PySem PySem.Spec PyProof.Rows L2
def rInT (K : PySem.W.Frag) : R2 := fun x y H Q => ∃ d ds, Dp K H x d ∧ Dp K H y (.tuple ds) ∧ SeqAt.shaped d = true ∧ SeqAt.shaped (.tuple ds) = true ∧ Q (.bl (ds.any fun z => PyData.eqv z d)) H
def rNotInT (K : PySem.W.Frag) : R2 := fun x y H Q => ∃ d ds, Dp K H x d ∧ Dp K H y (.tuple ds) ∧ SeqAt.shaped d = true ∧ SeqAt.shaped (.tuple ds) = true ∧ Q (.bl (!(ds.any fun z => PyData.eqv z d))) H
theorem op_inT {X : Cx} {K : PySem.W.Frag} (hu : X.A.units + 65 < cLine) (hK : X.K = K := by rfl) : OpR X (compareOp .In) (rInT K) := by
  subst hK
  intro pins s σ H x y v u Q I rx ry h
  obtain ⟨d, ds, h1, h2, h3, h4, q⟩ := h
  obtain ⟨as, r1⟩ := L2.Dp.reads I d x v h1 rx
  obtain ⟨bs, r2⟩ := L2.Dp.reads I _ y u h2 ry
  refine SeqAt.in_tuple_reads r2 r1 (SeqAt.canLay_of_shaped h4) (SeqAt.canLay_of_shaped h3) (room_in_shaped h3 hu) ?_
  exact ⟨.bl _, H, I, rfl, q⟩
theorem op_notInT {X : Cx} {K : PySem.W.Frag} (hu : X.A.units + 65 < cLine) (hK : X.K = K := by rfl) : OpR X (compareOp .NotIn) (rNotInT K) := by
  subst hK
  intro pins s σ H x y v u Q I rx ry h
  obtain ⟨d, ds, h1, h2, h3, h4, q⟩ := h
  obtain ⟨as, r1⟩ := L2.Dp.reads I d x v h1 rx
  obtain ⟨bs, r2⟩ := L2.Dp.reads I _ y u h2 ry
  refine SeqAt.notIn_tuple_reads r2 r1 (SeqAt.canLay_of_shaped h4) (SeqAt.canLay_of_shaped h3) (room_in_shaped h3 hu) ?_
  exact ⟨.bl _, H, I, rfl, q⟩
section
variable {K : PySem.W.Frag} {H : Hp} {Q : VK} {x y : V} {d : PyData} {ds : List PyData}
/-- x in y, y a tuple of data without bools -/
theorem w_inT (h1 : Dp K H x d) (h2 : Dp K H y (.tuple ds)) (p1 : pln 8 d = true) (p2 : pln 9 (.tuple ds) = true) (q1 : d ∈ ds → Q (.bl true) H) (q2 : d ∉ ds → Q (.bl false) H) : rInT K x y H Q := by
  have hs : ∀ z ∈ ds, pln 8 z = true := List.all_eq_true.mp p2
  have e := any_eqv p1 hs
  refine ⟨d, ds, h1, h2, pln_shaped p1 (by decide), pln_shaped p2 (by decide), ?_⟩
  cases hc : ds.any fun z => PyData.eqv z d with
  | true => exact q1 (e.mp hc)
  | false => exact q2 fun z => by rw [e.mpr z] at hc; cases hc
theorem w_notInT (h1 : Dp K H x d) (h2 : Dp K H y (.tuple ds)) (p1 : pln 8 d = true) (p2 : pln 9 (.tuple ds) = true) (q1 : d ∈ ds → Q (.bl false) H) (q2 : d ∉ ds → Q (.bl true) H) : rNotInT K x y H Q := by
  have hs : ∀ z ∈ ds, pln 8 z = true := List.all_eq_true.mp p2
  have e := any_eqv p1 hs
  refine ⟨d, ds, h1, h2, pln_shaped p1 (by decide), pln_shaped p2 (by decide), ?_⟩
  cases hc : ds.any fun z => PyData.eqv z d with
  | true => exact q1 (e.mp hc)
  | false => exact q2 fun z => by rw [e.mpr z] at hc; cases hc
end
end Tw
namespace Tw
open PySem PySem.Spec PyProof.Rows L2
/-! ### more rules: any, all, two fors in a comprehension -/
section
variable {X : Cx} {K : PySem.W.Frag}
def rAnyK (K : PySem.W.Frag) : List V → Hp → VK → Prop := fun vs H Q => ∃ a, ∃ bs : List Bool, vs = [.ref a] ∧ SqL K H a (bs.map V.bl) ∧ Q (.bl (bs.any id)) H
theorem cl_any (hc : X.calm = true) (h : X.K = K := by rfl) : CallR X (.builtin "any") (rAnyK K) := h ▸ cr_any hc
def rAllK (K : PySem.W.Frag) : List V → Hp → VK → Prop := fun vs H Q => ∃ a, ∃ bs : List Bool, vs = [.ref a] ∧ SqL K H a (bs.map V.bl) ∧ Q (.bl (bs.all id)) H
theorem cl_all (hc : X.calm = true) (h : X.K = K := by rfl) : CallR X (.builtin "all") (rAllK K) := h ▸ cr_all hc
def rSumK (K : PySem.W.Frag) : List V → Hp → VK → Prop := fun vs H Q => ∃ a, ∃ ns : List Int, vs = [.ref a] ∧ SqL K H a (ns.map V.int) ∧ Q (.int ns.sum) H
theorem cl_sum (hc : X.calm = true) (h : X.K = K := by rfl) : CallR X (.builtin "sum") (rSumK K) := h ▸ cr_sum hc
end
section
variable {K : PySem.W.Frag} {σ : L2.St} {H H1 : Hp} {Q : VK} {x v : V} {ds : List PyData} {j j1 : Nat} {vs vs1 : List Nat} {tl ts te : TE}
theorem dpa_bools : ∀ (ns : List Bool), DpAll K H (ns.map V.bl) (ns.map PyData.bool)
  | [] => .nil
  | n :: ns => .cons (.bl n) (dpa_bools ns)
theorem dpa_bools_inv : ∀ {vs : List V} {ns : List Bool}, DpAll K H vs (ns.map PyData.bool) → vs = ns.map V.bl
  | _, [], h => by cases h; rfl
  | _, n :: ns, h => by
    cases h with
    | cons h1 h2 => cases h1; rw [dpa_bools_inv h2]; rfl
theorem w_any {bs : List Bool} (h : Dp K H v (.list (bs.map PyData.bool))) (q : Q (.bl (bs.any id)) H) : rAnyK K [v] H Q := by
  obtain ⟨a, xs, rfl, hs, ha⟩ := dp_lst h
  rw [dpa_bools_inv ha] at hs
  exact ⟨a, bs, rfl, hs, q⟩
theorem w_all {bs : List Bool} (h : Dp K H v (.list (bs.map PyData.bool))) (q : Q (.bl (bs.all id)) H) : rAllK K [v] H Q := by
  obtain ⟨a, xs, rfl, hs, ha⟩ := dp_lst h
  rw [dpa_bools_inv ha] at hs
  exact ⟨a, bs, rfl, hs, q⟩
theorem w_sum {ns : List Int} (h : Dp K H v (.list (ns.map PyData.int))) (q : Q (.int ns.sum) H) : rSumK K [v] H Q := by
  obtain ⟨a, xs, rfl, hs, ha⟩ := dp_lst h
  rw [dpa_ints_inv ha] at hs
  exact ⟨a, ns, rfl, hs, q⟩
/-- [e for x in a list for c in a text] -/
def rLc2 (K : PySem.W.Frag) (j j1 : Nat) (ts te : TE) (vs vs1 : List Nat) (σ : L2.St) (x : V) (H1 : Hp) (Q : VK) : Prop :=
  tLc2 (iList K (tC x)) (gName j) tYes (iStr ts) (gName j1) tYes te vs vs1 σ H1 Q
theorem w_lc2 (h : tl σ H fun x H1 => rLc2 K j j1 ts te vs vs1 σ x H1 Q) : tLc2 (iList K tl) (gName j) tYes (iStr ts) (gName j1) tYes te vs vs1 σ H Q := h
/-- a comprehension's turn over data: what one turn makes -/
theorem lc2_by (f : PyData → Nat → PyData) (cs : List Nat) (src : Dp K H1 x (.list ds)) (hz : ds.length * cs.length ≤ 1000000)
    (hf : ∀ d ∈ ds, ∀ c ∈ cs, noL (f d c) = true)
    (hw : ∀ x, wipe ((wipe σ vs).set j (some x)) vs = wipe σ vs) (hw1 : ∀ x y, wipe ((wipe ((wipe σ vs).set j (some x)) vs1).set j1 (some y)) vs1 = wipe ((wipe σ vs).set j (some x)) vs1)
    (text : ∀ y d H', d ∈ ds → Dp K H' y d → ∀ R : VK, R (.str (Sg cs)) H' → ts ((wipe σ vs).set j (some y)) H' R)
    (turn : ∀ y d c H', d ∈ ds → c ∈ cs → Dp K H' y d → ∀ R : VK, (∀ z H4, Same H' H4 → Dp K H4 z (f d c) → R z H4) → te ((wipe ((wipe σ vs).set j (some y)) vs1).set j1 (some (.str (Sg [c])))) H' R)
    (done : ∀ p H' ws, H1 p = none → Same H1 H' → H' p = some (.lst ws) → Dp K H' (.ref p) (.list (ds.flatMap fun d => cs.map (f d))) → Q (.ref p) H') : rLc2 K j j1 ts te vs vs1 σ x H1 Q := by
  obtain ⟨a, xs, rfl, hs, ha⟩ := dp_lst src
  have hl := dpa_len ha
  have hline : sizeLine = 16777216 := sizeLine_eq
  have nof : ∀ (es : List PyData), (∀ d ∈ es, noL d = true) → noLs es = true := by
    intro es
    induction es with
    | nil => intro _; rfl
    | cons e es ih => intro h; simp only [noLs, Bool.and_eq_true]; exact ⟨h e List.mem_cons_self, ih fun d hd => h d (List.mem_cons_of_mem _ hd)⟩
  have fml : ∀ es : List PyData, (es.flatMap fun d => cs.map (f d)).length = es.length * cs.length := by
    intro es
    induction es with
    | nil => simp
    | cons e es ih => rw [List.flatMap_cons, List.length_append, ih, List.length_map, List.length_cons, Nat.succ_mul]; omega
  have nol : ∀ (i : Nat), noLs ((ds.take i).flatMap fun d => cs.map (f d)) = true := fun i => nof _ fun e he => by
    obtain ⟨d, hd, he⟩ := List.mem_flatMap.mp he
    obtain ⟨c, hc, rfl⟩ := List.mem_map.mp he
    exact hf d (List.mem_of_mem_take hd) c hc
  refine ⟨a, rfl, ⟨xs, hs⟩, fun D hD => ?_⟩
  refine ⟨fun i m H' => m = xs.length - i ∧ i ≤ xs.length ∧ Same H1 H' ∧ ∃ ws, H' D = some (.lst ws) ∧ DpAll K H' ws ((ds.take i).flatMap fun d => cs.map (f d)), ⟨xs.length, by simp, Nat.zero_le _, same_new hD, [], upd_same, by simp; exact .nil⟩, ?_⟩
  rintro i m H' ⟨rfl, hi, k1, ws, e1, d1⟩
  have q := k1.seq hs
  by_cases hlt : i < xs.length
  · refine .inr ⟨⟨xs, xs[i], q, by simp [hlt]⟩, fun H2 => Same H1 H2 ∧ ∃ ws, H2 D = some (.lst ws) ∧ DpAll K H2 ws ((ds.take (i + 1)).flatMap fun d => cs.map (f d)), fun H2 p => ⟨xs.length - (i + 1), by omega, rfl, hlt, p⟩, fun y H2 hy => ?_⟩
    obtain ⟨rfl, hy⟩ := hy
    have hyi := hy xs q
    obtain ⟨d, ed, dy0⟩ := dpa_get2 ha hyi
    have hdm : d ∈ ds := List.mem_of_getElem? ed
    have ht : ds.take (i + 1) = ds.take i ++ [d] := by rw [List.take_add_one, ed]; rfl
    refine ⟨hw y, ?_⟩
    refine text y d H2 hdm (dp_same k1 dy0) _ ⟨Sg cs, rfl, ?_⟩
    refine ⟨fun jj k H3 => k = cs.length - jj ∧ jj ≤ cs.length ∧ Same H1 H3 ∧ ∃ ws, H3 D = some (.lst ws) ∧ DpAll K H3 ws (((ds.take i).flatMap fun d => cs.map (f d)) ++ (cs.take jj).map (f d)), ⟨cs.length, by simp, Nat.zero_le _, k1, ws, e1, by simpa using d1⟩, ?_⟩
    rintro jj k H3 ⟨rfl, hj, k3, ws3, e3, d3⟩
    by_cases hjl : jj < cs.length
    · have hc : cs[jj]? = some cs[jj] := by simp [hjl]
      have htc : cs.take (jj + 1) = cs.take jj ++ [cs[jj]] := by rw [List.take_add_one, hc]; rfl
      refine .inr ⟨by show jj < (Sg cs).cps.size; simpa [Sg] using hjl, fun H4 => Same H1 H4 ∧ ∃ ws, H4 D = some (.lst ws) ∧ DpAll K H4 ws (((ds.take i).flatMap fun d => cs.map (f d)) ++ (cs.take (jj + 1)).map (f d)), fun H4 p => ⟨cs.length - (jj + 1), by omega, rfl, hjl, p⟩, fun z H4 hz4 => ?_⟩
      obtain ⟨rfl, c, hc4, rfl⟩ := hz4
      have hcc : c = cs[jj] := by simpa [Sg, hjl] using hc4.symm
      subst hcc
      refine ⟨hw1 _ _, ?_⟩
      refine turn y d cs[jj] H4 hdm (List.getElem_mem hjl) (dp_same k3 dy0) _ fun z H5 k5 d5 => ?_
      have e5 := k5 _ _ e3
      have len3 := dpa_len d3
      have le1 : (((ds.take i).flatMap fun d => cs.map (f d)) ++ (cs.take jj).map (f d)).length ≤ ds.length * cs.length := by
        rw [List.length_append, fml, List.length_map, List.length_take, List.length_take]
        have : min i ds.length + 1 ≤ ds.length := by omega
        have := Nat.mul_le_mul_right cs.length this
        rw [Nat.succ_mul] at this
        omega
      have no3 : noLs (((ds.take i).flatMap fun d => cs.map (f d)) ++ (cs.take jj).map (f d)) = true := noLs_app (nol i) (nof _ fun e he => by
        obtain ⟨c, hc, rfl⟩ := List.mem_map.mp he
        exact hf d hdm c (List.mem_of_mem_take hc))
      refine ⟨ws3, e5, by omega, same_mut (k3.trans k5) hD, _, upd_same, ?_⟩
      rw [htc, List.map_append, ← List.append_assoc]
      exact dpa_app (dpa_upd e5 _ _ no3 (dpa_same k5 d3)) (dpa_one (dp_upd e5 _ _ (hf d hdm _ (List.getElem_mem hjl)) d5))
    · have : jj = cs.length := by omega
      subst this
      refine .inl ⟨by show (Sg cs).cps.size ≤ cs.length; simp [Sg], k3, ws3, e3, ?_⟩
      rw [ht, List.flatMap_append]
      simpa using d3
  · have e : i = xs.length := by omega
    subst e
    refine .inl ⟨⟨xs, q, Nat.le_refl _⟩, done D H' ws hD k1 e1 (dp_newL e1 ?_)⟩
    rw [hl, List.take_length] at d1
    exact d1
/-- [e for c in a text] -/
def rLcS (j : Nat) (tt : TT) (te : TE) (vs : List Nat) (σ : L2.St) (x : V) (H1 : Hp) (Q : VK) : Prop := tLc (iStr (tC x)) (gName j) tt te vs σ H1 Q
theorem w_lcS {tt : TT} (h : ts σ H fun x H1 => rLcS j tt te vs σ x H1 Q) : tLc (iStr ts) (gName j) tt te vs σ H Q := h
theorem lc_str_by {tt : TT} {l : List Nat} (J : Nat → List PyData → Hp → Prop) (lj : LcJ H1 J) (hz : l.length ≤ 1000000) (hw : ∀ x, wipe ((wipe σ vs).set j (some x)) vs = wipe σ vs)
    (turn : ∀ i c H' es, l[i]? = some c → J i es H' → LcTurn K J tt te ((wipe σ vs).set j (some (.str (Sg [c])))) i es H')
    (done : ∀ p H' ws es, H1 p = none → Keep H1 H' → H' p = some (.lst ws) → Dp K H' (.ref p) (.list es) → J l.length es H' → Q (.ref p) H') : rLcS j tt te vs σ (.str (Sg l)) H1 Q := by
  refine ⟨Sg l, rfl, fun D hD => ?_⟩
  refine ⟨fun i m H' => m = l.length - i ∧ i ≤ l.length ∧ LcP K J D i H', ⟨l.length, by simp, Nat.zero_le _, [], [], upd_same, .nil, rfl, Nat.le_refl _, lj.start D hD⟩, ?_⟩
  rintro i m H' ⟨rfl, hi, p⟩
  by_cases hlt : i < l.length
  · refine .inr ⟨by show i < (Sg l).cps.size; simpa [Sg] using hlt, LcP K J D (i + 1), fun H2 p2 => ⟨l.length - (i + 1), by omega, rfl, hlt, p2⟩, fun x H2 y => ?_⟩
    obtain ⟨rfl, c, hc, rfl⟩ := y
    have hc2 : l[i]? = some c := by simpa [Sg] using hc
    exact ⟨hw _, lc_turn lj hD (by omega) p fun es q => turn i c H2 es hc2 q⟩
  · have e : i = l.length := by omega
    subst e
    obtain ⟨ws, es, p1, p2, p3, p4, p5⟩ := p
    exact .inl ⟨by show (Sg l).cps.size ≤ l.length; simp [Sg], done D H' ws es hD (lj.keep _ _ _ p5) p1 (dp_newL p1 p2) p5⟩
end
end Tw
namespace Tw
open PySem PySem.Spec PyProof.Rows L2
/-! ### the next unlike number, reckoned -/
def nxt (l : List Nat) (m : Nat) : Nat :=
  match (List.range l.length).find? (fun i => l.getD ((m + i) % l.length) 0 != l.getD (i % l.length) 0) with
  | some i => m + 1 + i
  | none => 0
theorem mk_nat {l : List Nat} (k : Nat) : mk l ((k : Int) + 1) = l.getD (k % l.length) 0 := by
  unfold mk
  congr 1
  rw [show ((k : Int) + 1 - 1) = (k : Int) by omega]
  omega
theorem StarW.pos {l : List Nat} (h : StarW l) : 0 < l.length := by
  obtain ⟨h, _⟩ := h
  exact List.length_pos_iff.mpr h
theorem StarW.ne {l : List Nat} (h : StarW l) : l ≠ [] := h.1
theorem StarW.bad {l : List Nat} (hs : StarW l) {k : Int} (h1 : 1 ≤ k) (h2 : k < l.length) : mk l l.length ≠ mk l (l.length - k) := by
  obtain ⟨hl, e1, e2⟩ := hs
  rw [mk_last hl, e1]
  exact (e2 _ (mk_lt (by omega) (by omega) hl)).symm
theorem un_nxt {l : List Nat} (hs : StarW l) {m : Nat} (h1 : 1 ≤ m) (h2 : m < l.length) : Un l m (some (nxt l m : Int)) ∧ m < nxt l m ∧ nxt l m ≤ l.length := by
  have hp := hs.pos
  have key : ∀ i : Nat, (l.getD ((m + i) % l.length) 0 != l.getD (i % l.length) 0) = decide (mk l ((m : Int) + 1 + i) ≠ mk l (1 + (i : Int))) := by
    intro i
    rw [show (m : Int) + 1 + i = ((m + i : Nat) : Int) + 1 by push_cast; omega, show 1 + (i : Int) = (i : Int) + 1 by omega, mk_nat, mk_nat]
    by_cases z : l.getD ((m + i) % l.length) 0 = l.getD (i % l.length) 0
    · rw [z]; simp
    · rw [show decide (l.getD ((m + i) % l.length) 0 ≠ l.getD (i % l.length) 0) = true from decide_eq_true z]
      exact bne_iff_ne.mpr z
  unfold nxt
  cases hf : (List.range l.length).find? (fun i => l.getD ((m + i) % l.length) 0 != l.getD (i % l.length) 0) with
  | none =>
    rw [List.find?_eq_none] at hf
    have := hf (l.length - m - 1) (List.mem_range.mpr (by omega))
    rw [key, decide_eq_true_eq] at this
    refine absurd ?_ this
    have := hs.bad (k := m) (by omega) (by omega)
    rw [show (m : Int) + 1 + ((l.length - m - 1 : Nat) : Int) = l.length by omega, show 1 + ((l.length - m - 1 : Nat) : Int) = l.length - (m : Int) by omega]
    exact this
  | some i =>
    rw [List.find?_range_eq_some] at hf
    obtain ⟨p, hi, hj⟩ := hf
    rw [List.mem_range] at hi
    rw [key, decide_eq_true_eq] at p
    dsimp only
    have first : ∀ j : Int, (m : Int) < j → j < (m : Int) + 1 + i → mk l j = mk l (j - m) := by
      intro j a b
      have := hj (j - m - 1).toNat (by omega)
      rw [key] at this
      simp only [Bool.not_eq_true', decide_eq_false_iff_not, Decidable.not_not] at this
      rw [show (m : Int) + 1 + ((j - m - 1).toNat : Int) = j by omega, show 1 + ((j - m - 1).toNat : Int) = j - m by omega] at this
      exact this
    have hle : m + 1 + i ≤ l.length := by
      apply Nat.le_of_not_lt
      intro z
      exact hs.bad (k := m) (by omega) (by omega) (first l.length (by omega) (by omega))
    refine ⟨⟨by push_cast; omega, ?_, fun j a b => first j a (by push_cast at b; omega)⟩, by omega, hle⟩
    push_cast
    rw [show (m : Int) + 1 + i - m = 1 + i by omega]
    exact p
theorem un_is {l : List Nat} (hs : StarW l) {m : Nat} (h1 : 1 ≤ m) (h2 : m < l.length) {r : Option Int} (h : Un l m r) : r = some (nxt l m : Int) := h.unique (un_nxt hs h1 h2).1
/-! ### the numbers from one on, reckoned -/
def comes (l : List Nat) (m : Nat) : Nat → Nat → Bool
  | 0, b => b == m
  | f + 1, b => if b < m then comes l m f (nxt l b) else b == m
theorem comes_more {l : List Nat} (hs : StarW l) {m : Nat} (hm : m < l.length) : ∀ (f g b : Nat), 1 ≤ b → m ≤ b + f → m ≤ b + g → comes l m f b = comes l m g b := by
  intro f
  induction f with
  | zero =>
    intro g b h1 h2 h3
    cases g with
    | zero => rfl
    | succ g => simp only [comes]; rw [if_neg (by omega)]
  | succ f ih =>
    intro g b h1 h2 h3
    cases g with
    | zero => simp only [comes]; rw [if_neg (by omega)]
    | succ g =>
      simp only [comes]
      by_cases h : b < m
      · rw [if_pos h, if_pos h]
        have := un_nxt hs h1 (by omega)
        exact ih g _ (by omega) (by omega) (by omega)
      · rw [if_neg h, if_neg h]
/-- whether m comes, from b on -/
def comesBy (l : List Nat) (b m : Nat) : Bool := comes l m m b
theorem comesBy_step {l : List Nat} (hs : StarW l) {b m : Nat} (hm : m < l.length) (h1 : 1 ≤ b) (h : b < m) : comesBy l b m = comesBy l (nxt l b) m := by
  obtain ⟨k, rfl⟩ : ∃ k, m = k + 1 := ⟨m - 1, by omega⟩
  unfold comesBy
  rw [show comes l (k + 1) (k + 1) b = comes l (k + 1) k (nxt l b) by rw [comes, if_pos h]]
  have := un_nxt hs h1 (by omega)
  exact comes_more hs hm _ _ _ (by omega) (by omega) (by omega)
theorem comesBy_end {l : List Nat} {b m : Nat} (h : m ≤ b) : comesBy l b m = (b == m) := by
  unfold comesBy
  cases m with
  | zero => rfl
  | succ k => rw [comes, if_neg (by omega)]
theorem chn_comes {l : List Nat} (hs : StarW l) {m : Nat} (hm : m < l.length) {o : Option Int} {ns : List Int} (h : Chn l m o ns) : ∀ b : Nat, 1 ≤ b → o = some (b : Int) → ((m : Int) ∈ ns ↔ comesBy l b m = true) := by
  induction h with
  | no => intro b _ e; cases e
  | stop hk =>
    intro b h1 e
    cases e
    rw [comesBy_end (by omega)]
    simp
    omega
  | @go k r ns hk hu hc ih =>
    intro b h1 e
    cases e
    have hr := un_is hs h1 (by omega) hu
    subst hr
    have n1 := un_nxt hs h1 (by omega)
    by_cases hb : b < m
    · rw [comesBy_step hs hm h1 hb, ← ih _ (by omega) rfl, List.mem_cons]
      constructor
      · rintro (h | h)
        · omega
        · exact h
      · exact .inr
    · rw [comesBy_end (by omega)]
      have : b = m := by omega
      subst this
      simp
/-! ### the numbers at which a word fails -/
def fails (l : List Nat) (m : Nat) : Bool :=
  !((List.range (m - 1)).any fun i => m % (i + 1) == 0 && decide (m < nxt l (i + 1))) && comesBy l ((nxt l m - 1) % m + 1) m
def failAt (l : List Nat) (m : Nat) : Bool := !comesBy l 1 m && fails l m
def failO (l : List Nat) : Option Nat := ((List.range (l.length - 1)).find? fun i => failAt l (i + 1)).map (· + 1)
def fo (l : List Nat) : Option Int := (failO l).map fun (n : Nat) => (n : Int)
/-- the first number found is the one -/
theorem failO_first {l : List Nat} {m : Nat} (h1 : 1 ≤ m) (h2 : m < l.length) (h : failAt l m = true) (hb : ∀ j, 1 ≤ j → j < m → failAt l j = false) : fo l = some (m : Int) := by
  unfold fo failO
  have : (List.range (l.length - 1)).find? (fun i => failAt l (i + 1)) = some (m - 1) := by
    rw [List.find?_range_eq_some]
    refine ⟨by rw [show m - 1 + 1 = m by omega]; exact h, List.mem_range.mpr (by omega), fun j hj => by rw [hb _ (by omega) (by omega)]; rfl⟩
  rw [this]
  simp
  omega
theorem failO_none {l : List Nat} (h : ∀ j, 1 ≤ j → j < l.length → failAt l j = false) : fo l = none := by
  unfold fo failO
  have : (List.range (l.length - 1)).find? (fun i => failAt l (i + 1)) = none := by
    rw [List.find?_eq_none]
    intro i hi
    rw [List.mem_range] at hi
    rw [h _ (by omega) (by omega)]
    exact Bool.false_ne_true
  rw [this]
  rfl
theorem chn_addr {l : List Nat} (hs : StarW l) {m : Nat} (h1 : 1 ≤ m) (hm : m < l.length) {ns : List Int} (h : Chn l l.length (some 1) ns) : (m : Int) ∈ ns ↔ comesBy l 1 m = true := by
  have gen : ∀ {o : Option Int} {ns : List Int}, Chn l l.length o ns → ∀ b : Nat, 1 ≤ b → o = some (b : Int) → ((m : Int) ∈ ns ↔ comesBy l b m = true) := by
    intro o ns h
    induction h with
    | no => intro b _ e; cases e
    | stop hk =>
      intro b h1 e
      cases e
      rw [comesBy_end (by omega)]
      simp
      omega
    | @go k r ns hk hu hc ih =>
      intro b h1 e
      cases e
      by_cases hb : b < m
      · have hr := un_is hs h1 (by omega) hu
        subst hr
        have n1 := un_nxt hs h1 (by omega)
        rw [comesBy_step hs hm h1 hb, ← ih _ (by omega) rfl, List.mem_cons]
        constructor
        · rintro (h | h)
          · omega
          · exact h
        · exact .inr
      · rw [comesBy_end (by omega), List.mem_cons]
        constructor
        · rintro (h | h)
          · have : b = m := by omega
            subst this; simp
          · have : b < m ∨ b = m ∨ m < b := by omega
            rcases this with z | z | z
            · omega
            · subst z; simp
            · exfalso
              cases r with
              | none => cases hc; cases h
              | some k2 => have := hc.gt k2 rfl _ h; have := hu.1; omega
        · intro h
          left
          have : b = m := by simpa using h
          omega
  exact gen h 1 (by omega) rfl
/-! ### all words of a few marks -/
def bits : Nat → List (List Nat)
  | 0 => [[]]
  | n + 1 => (bits n).flatMap fun s => [48 :: s, 49 :: s]
theorem mem_bits : ∀ (s : List Nat), (∀ x ∈ s, x = 48 ∨ x = 49) → s ∈ bits s.length := by
  intro s
  induction s with
  | nil => intro _; simp [bits]
  | cons x s ih =>
    intro h
    rw [List.length_cons, bits, List.mem_flatMap]
    refine ⟨s, ih fun y hy => h y (List.mem_cons_of_mem _ hy), ?_⟩
    rcases h x List.mem_cons_self with rfl | rfl <;> simp
/-- a word of the drawing: the star alone, or "1", some digits and the star -/
def WordW (l : List Nat) : Prop := l = [42] ∨ ∃ s : List Nat, l = 49 :: (s ++ [42]) ∧ ∀ x ∈ s, x = 48 ∨ x = 49
theorem WordW.star {l : List Nat} (h : WordW l) : StarW l := by
  rcases h with rfl | ⟨s, rfl, hs⟩
  · exact ⟨by simp, rfl, by simp⟩
  · exact starW_mk (pre := 49 :: s) (fun c hc => by
      rcases List.mem_cons.mp hc with rfl | hc
      · omega
      · have := hs c hc; omega)
/-- all words of at most so many marks -/
def wordsTo (n : Nat) : List (List Nat) := [42] :: (List.range (n - 1)).flatMap fun k => (bits k).map fun s => 49 :: (s ++ [42])
theorem mem_wordsTo {n : Nat} {l : List Nat} (h : WordW l) (hl : l.length ≤ n) : l ∈ wordsTo n := by
  rcases h with rfl | ⟨s, rfl, hs⟩
  · exact List.mem_cons_self
  · refine List.mem_cons_of_mem _ (List.mem_flatMap.mpr ⟨s.length, List.mem_range.mpr (by simp at hl; omega), List.mem_map.mpr ⟨s, mem_bits s hs, rfl⟩⟩)
/-! ### the upper mark, words copied -/
def nxO (l : List Nat) (m : Nat) : Option Nat :=
  ((List.range l.length).find? (fun i => l.getD ((m + i) % l.length) 0 != l.getD (i % l.length) 0)).map (m + 1 + ·)
theorem un_nxO {l : List Nat} (hl : l ≠ []) {m : Nat} (h1 : 1 ≤ m) : Un l m ((nxO l m).map fun (n : Nat) => (n : Int)) := by
  have hp : 0 < l.length := List.length_pos_iff.mpr hl
  have key : ∀ i : Nat, (l.getD ((m + i) % l.length) 0 != l.getD (i % l.length) 0) = decide (mk l ((m : Int) + 1 + i) ≠ mk l (1 + (i : Int))) := by
    intro i
    rw [show (m : Int) + 1 + i = ((m + i : Nat) : Int) + 1 by push_cast; omega, show 1 + (i : Int) = (i : Int) + 1 by omega, mk_nat, mk_nat]
    by_cases z : l.getD ((m + i) % l.length) 0 = l.getD (i % l.length) 0
    · rw [z]; simp
    · rw [show decide (l.getD ((m + i) % l.length) 0 ≠ l.getD (i % l.length) 0) = true from decide_eq_true z]
      exact bne_iff_ne.mpr z
  unfold nxO
  cases hf : (List.range l.length).find? (fun i => l.getD ((m + i) % l.length) 0 != l.getD (i % l.length) 0) with
  | none =>
    rw [List.find?_eq_none] at hf
    refine scan_none hl fun j a b => ?_
    have := hf (j - m - 1).toNat (List.mem_range.mpr (by omega))
    rw [key] at this
    simp only [decide_eq_true_eq, Decidable.not_not] at this
    rw [show (m : Int) + 1 + ((j - m - 1).toNat : Int) = j by omega, show 1 + ((j - m - 1).toNat : Int) = j - m by omega] at this
    exact this
  | some i =>
    rw [List.find?_range_eq_some] at hf
    obtain ⟨p, hi, hj⟩ := hf
    rw [key, decide_eq_true_eq] at p
    refine ⟨by push_cast; omega, ?_, fun j a b => ?_⟩
    · push_cast
      rw [show (m : Int) + 1 + i - m = 1 + i by omega]
      exact p
    · push_cast at b
      have := hj (j - m - 1).toNat (by omega)
      rw [key] at this
      simp only [Bool.not_eq_true', decide_eq_false_iff_not, Decidable.not_not] at this
      rw [show (m : Int) + 1 + ((j - m - 1).toNat : Int) = j by omega, show 1 + ((j - m - 1).toNat : Int) = j - m by omega] at this
      exact this
theorem nxO_gt {l : List Nat} {m k : Nat} (h : nxO l m = some k) : m < k := by
  unfold nxO at h
  rw [Option.map_eq_some_iff] at h
  obtain ⟨a, _, rfl⟩ := h
  omega
def chnL (l : List Nat) (most : Nat) : Nat → Option Nat → List Nat
  | _, none => []
  | 0, _ => []
  | f + 1, some k => if k ≤ most then k :: chnL l most f (nxO l k) else []
theorem chn_chnL {l : List Nat} (hl : l ≠ []) {most : Nat} : ∀ (f : Nat) (o : Option Nat), (∀ k, o = some k → 1 ≤ k ∧ most < k + f) → Chn l most (o.map fun (n : Nat) => (n : Int)) ((chnL l most f o).map fun (n : Nat) => (n : Int)) := by
  intro f
  induction f with
  | zero =>
    intro o h
    cases o with
    | none => exact .no
    | some k => exact .stop (show (most : Int) < (k : Int) by have := h k rfl; omega)
  | succ f ih =>
    intro o h
    cases o with
    | none => exact .no
    | some k =>
      have hk := h k rfl
      simp only [chnL]
      by_cases z : k ≤ most
      · rw [if_pos z]
        refine .go (show (k : Int) ≤ (most : Int) by omega) (un_nxO hl hk.1) (ih _ fun k2 e => ?_)
        have := nxO_gt e
        omega
      · rw [if_neg z]; exact .stop (show (most : Int) < (k : Int) by omega)
/-- the address, reckoned -/
def addrL (l : List Nat) : List Nat := chnL l l.length (l.length + 1) (some 1)
theorem chn_is {l : List Nat} (hl : l ≠ []) {ns : List Int} (h : Chn l l.length (some 1) ns) : ns = (addrL l).map fun (n : Nat) => (n : Int) :=
  h.unique (chn_chnL hl (l.length + 1) (some 1) fun k e => by cases e; omega)
def upM (l : List Nat) : Nat := if (addrL (l.dropLast ++ [49])).contains l.length then 49 else 48
def lowM (l : List Nat) : Nat := if upM l = 49 then 48 else 49
def copiedC (l : List Nat) (c : Nat) : List Nat := l.dropLast ++ [if c = 49 then upM l else if c = 48 then lowM l else 42]
def copiedL (l o : List Nat) : List Nat := (o.map (copiedC l)).flatten
theorem copied_star {l o : List Nat} (hl : StarW l) (ho : WordW o) : StarW (copiedL l o) := by
  obtain ⟨l1, l2, l3⟩ := hl
  have up : upM l ≠ 42 := by unfold upM; split <;> omega
  have lo : lowM l ≠ 42 := by unfold lowM; split <;> omega
  have part : ∀ s : List Nat, (∀ x ∈ s, x = 48 ∨ x = 49) → ∀ c ∈ copiedL l s, c ≠ 42 := by
    intro s hs c hc
    unfold copiedL at hc
    rw [List.mem_flatten] at hc
    obtain ⟨y, hy, hc⟩ := hc
    rw [List.mem_map] at hy
    obtain ⟨x, hx, rfl⟩ := hy
    unfold copiedC at hc
    rcases List.mem_append.mp hc with hc | hc
    · exact l3 c hc
    · simp only [List.mem_singleton] at hc
      subst hc
      rcases hs x hx with rfl | rfl
      · exact lo
      · exact up
  have ec : ∀ s : List Nat, copiedL l (s ++ [42]) = (copiedL l s ++ l.dropLast) ++ [42] := by
    intro s; simp [copiedL, copiedC]
  rcases ho with rfl | ⟨s, rfl, hs⟩
  · have := ec []
    rw [List.nil_append] at this
    rw [this]
    refine starW_mk fun c hc => ?_
    simp [copiedL] at hc
    exact l3 c hc
  · have := ec (49 :: s)
    rw [List.cons_append] at this
    rw [this]
    refine starW_mk fun c hc => ?_
    rcases List.mem_append.mp hc with hc | hc
    · exact part (49 :: s) (fun x hx => by
        rcases List.mem_cons.mp hx with rfl | hx
        · exact .inr rfl
        · exact hs x hx) c hc
    · exact l3 c hc
theorem copied_len (l o : List Nat) (hl : l ≠ []) : (copiedL l o).length = l.length * o.length := by
  have hp : 0 < l.length := List.length_pos_iff.mpr hl
  unfold copiedL
  induction o with
  | nil => simp
  | cons x o ih =>
    rw [List.map_cons, List.flatten_cons, List.length_append, ih, List.length_cons]
    have : (copiedC l x).length = l.length := by simp [copiedC]; omega
    rw [this, Nat.mul_succ]
    omega
/-- what is checked by going through all: a copied word fails nowhere exactly if the first word does -/
def bases61 : List (List Nat) := [[49, 48, 49, 49, 48, 42], [49, 48, 49, 49, 48, 49, 42], [49, 48, 49, 49, 48, 48, 49, 42], [49, 48, 49, 49, 48, 48, 42]] ++ wordsTo 8
def check61 : Bool := bases61.all fun b => b.length == 1 || (wordsTo 3).all fun o => (failO (copiedL b o)).isNone == (failO b).isNone
end Tw
namespace Tw
open PySem PySem.Spec PyProof.Rows L2
/-! ### for the defs -/
def divsOf (m : Nat) : List Nat := ((List.range (m - 1)).filter fun j => m % (j + 1) == 0).map (· + 1)
theorem fails_by (l : List Nat) (m : Nat) : fails l m = (!(((divsOf m).map fun k => decide (m < nxt l k)).any id) && comesBy l ((nxt l m - 1) % m + 1) m) := by
  unfold fails divsOf
  congr 2
  induction List.range (m - 1) with
  | nil => rfl
  | cons i r ih =>
    rw [List.any_cons, List.filter_cons, ih]
    by_cases h : m % (i + 1) == 0
    · rw [if_pos h, h]; simp
    · rw [if_neg h]; simp [h]
theorem ov_none (l : List Nat) : decide (ov (fo l) = V.non) = (failO l).isNone := by
  unfold fo
  cases failO l with
  | none => rfl
  | some n => simp [ov]
/-- all star words of so many marks, without the star -/
def begs : Nat → List (List Nat)
  | 0 => [[49]]
  | k + 1 => (begs k).flatMap fun b => [48, 49].map fun c => b ++ [c]
def swL (n : Nat) : List (List Nat) := (begs (n - 2)).map (· ++ [42])
theorem begs_len : ∀ k : Nat, (begs k).length = 2 ^ k ∧ ∀ b ∈ begs k, b.length = k + 1 := by
  intro k
  induction k with
  | zero => simp [begs]
  | succ k ih =>
    constructor
    · have : ∀ es : List (List Nat), (es.flatMap fun b => [48, 49].map fun c => b ++ [c]).length = 2 * es.length := by
        intro es
        induction es with
        | nil => rfl
        | cons e es ih2 => rw [List.flatMap_cons, List.length_append, ih2]; simp; omega
      rw [begs, this, ih.1, Nat.pow_succ]; omega
    · intro b hb
      rw [begs, List.mem_flatMap] at hb
      obtain ⟨a, ha, hb⟩ := hb
      have := ih.2 a ha
      rw [List.mem_map] at hb
      obtain ⟨c, _, rfl⟩ := hb
      simp [this]
def fSW : PyData → Nat → PyData
  | .str s, c => .str (s ++ Sg [c])
  | _, _ => .none
theorem fSW_all (k : Nat) : (((begs k).map fun b => PyData.str (Sg b)).flatMap fun d => [48, 49].map (fSW d)) = (begs (k + 1)).map fun b => PyData.str (Sg b) := by
  rw [begs]
  induction begs k with
  | nil => rfl
  | cons b r ih => rw [List.map_cons, List.flatMap_cons, ih, List.flatMap_cons, List.map_append]; simp [fSW, sg_app]
end Tw
namespace Tw
theorem rest_iff {f m r : Nat} (h1 : 1 ≤ r) (h2 : r ≤ m) (hf : 1 ≤ f) : ((f : Int) - (r : Int)) % (m : Int) = 0 ↔ r = (f - 1) % m + 1 := by
  have hm : 0 < m := by omega
  have hs := Nat.mod_lt (f - 1) hm
  have hd := Nat.div_add_mod (f - 1) m
  generalize hq : (f - 1) / m = q at hd
  generalize hS : (f - 1) % m = s at hd hs
  have e : (f : Int) - (r : Int) = ((s : Int) + 1 - r) + (m : Int) * (q : Int) := by
    have : ((m * q + s : Nat) : Int) = ((f - 1 : Nat) : Int) := by rw [hd]
    push_cast at this
    omega
  rw [e, Int.add_mul_emod_self_left]
  constructor
  · intro z
    by_cases hp : 0 ≤ (s : Int) + 1 - r
    · rw [Int.emod_eq_of_lt hp (by omega)] at z
      omega
    · rw [← Int.add_emod_right, Int.emod_eq_of_lt (by omega) (by omega)] at z
      omega
  · intro z
    rw [show (s : Int) + 1 - r = 0 by omega]
    simp
/-- the strong word of a drawing -/
theorem wordW_mk {s : List Nat} (h : ∀ x ∈ s, x = 48 ∨ x = 49) : WordW (49 :: (s ++ [42])) := .inr ⟨s, rfl, h⟩
end Tw
namespace Tw
def starB (l : List Nat) : Bool := l.getLast? == some 42 && l.dropLast.all (· != 42)
theorem starB_ok {l : List Nat} (h : starB l = true) : StarW l := by
  unfold starB at h
  rw [Bool.and_eq_true, beq_iff_eq, List.all_eq_true] at h
  have hl : l ≠ [] := fun z => by subst z; simp at h
  refine ⟨hl, ?_, fun c hc => by have := h.2 c hc; simpa using this⟩
  have := h.1
  rw [List.getLast?_eq_getLast hl] at this
  exact Option.some.inj this
def w10110 : List Nat := [49, 48, 49, 49, 48, 42]
theorem k61_a : fo w10110 = some 3 := by decide +kernel
theorem k61_b : ((swL 5).all fun s => starB s && (failO s).isNone) = true := by decide +kernel
theorem k61_c : ((swL 6).all fun s => starB s) = true := by decide +kernel
theorem k61_d : ((swL 6).filter fun s => !(failO s).isNone) = [w10110] := by decide +kernel
set_option maxRecDepth 100000 in
theorem check61_ok : check61 = true := by decide +kernel
theorem swL_len {n : Nat} (h : 2 ≤ n) (h2 : n ≤ 12) : (swL n).length ≤ 1024 ∧ ∀ s ∈ swL n, s.length = n := by
  have hb := begs_len (n - 2)
  have hpow : 2 ^ (n - 2) ≤ 2 ^ 10 := Nat.pow_le_pow_right (by decide) (by omega)
  constructor
  · rw [swL, List.length_map, hb.1]; omega
  · intro s hs
    rw [swL, List.mem_map] at hs
    obtain ⟨b, h1, rfl⟩ := hs
    have := hb.2 b h1
    simp [this]; omega
/-- the bases that are drawn -/
def four61 : List (List Nat) := [[49, 48, 49, 49, 48, 42], [49, 48, 49, 49, 48, 49, 42], [49, 48, 49, 49, 48, 48, 49, 42], [49, 48, 49, 49, 48, 48, 42]]
theorem base61 {b w : List Nat} (hw : WordW w) (hl : w.length ≤ 8) (h : b ∈ four61 ++ [w]) : b ∈ bases61 ∧ WordW b ∧ b.length ≤ 8 := by
  rcases List.mem_append.mp h with h | h
  · refine ⟨List.mem_append_left _ h, ?_⟩
    unfold four61 at h
    simp only [List.mem_cons, List.not_mem_nil, or_false] at h
    rcases h with rfl | rfl | rfl | rfl
    · exact ⟨.inr ⟨[48, 49, 49, 48], rfl, by simp⟩, by simp⟩
    · exact ⟨.inr ⟨[48, 49, 49, 48, 49], rfl, by simp⟩, by simp⟩
    · exact ⟨.inr ⟨[48, 49, 49, 48, 48, 49], rfl, by simp⟩, by simp⟩
    · exact ⟨.inr ⟨[48, 49, 49, 48, 48], rfl, by simp⟩, by simp⟩
  · rw [List.mem_singleton] at h
    subst h
    exact ⟨List.mem_append_right _ (mem_wordsTo hw hl), hw, hl⟩
theorem let61 {b o : List Nat} (hb : b ∈ bases61) (h1 : 1 < b.length) (ho : WordW o) (hl : o.length ≤ 3) : (failO (copiedL b o)).isNone = (failO b).isNone := by
  have h := check61_ok
  unfold check61 at h
  rw [List.all_eq_true] at h
  have := h b hb
  rw [Bool.or_eq_true] at this
  rcases this with z | z
  · have : b.length = 1 := by simpa using z
    omega
  · rw [List.all_eq_true] at z
    simpa using z o (mem_wordsTo ho hl)
end Tw
namespace Tw
open PySem PySem.Spec PyProof.Rows L2
/-! ### doubling, again and again -/
def itN : Nat → Nat × Nat → Nat × Nat
  | 0, x => x
  | i + 1, x => itN i (dblN x)
theorem itN_succ (i : Nat) (x : Nat × Nat) : itN (i + 1) x = dblN (itN i x) := by
  induction i generalizing x with
  | zero => rfl
  | succ i ih => show itN (i + 1) (dblN x) = dblN (itN i (dblN x)); exact ih (dblN x)
theorem itN_add (i j : Nat) (x : Nat × Nat) : itN (i + j) x = itN i (itN j x) := by
  induction j generalizing x with
  | zero => rfl
  | succ j ih => show itN (i + j) (dblN x) = itN i (itN j (dblN x)); exact ih (dblN x)
theorem it_plc {x : Nat × Nat} (h : Plc x) (i : Nat) : Plc (itN i x) := by
  induction i with
  | zero => exact h
  | succ i ih => rw [itN_succ]; exact dbl_plc ih
theorem dbl_red {x : Nat × Nat} (h : Plc x) : dblN x = red (2 * x.1 % x.2) x.2 := by
  have hp := h.pos
  have hd := dbl_plc h
  symm
  refine red_of hd.cop hd.pos hp ?_
  unfold dblN
  split
  · rename_i e
    have hx : x.2 = 2 * (x.2 / 2) := by omega
    have e2 : 2 * x.1 % x.2 = 2 * (x.1 % (x.2 / 2)) := by
      conv => lhs; rw [hx]
      rw [Nat.mul_mod_mul_left]
    rw [e2]
    show x.1 % (x.2 / 2) * x.2 = 2 * (x.1 % (x.2 / 2)) * (x.2 / 2)
    generalize x.1 % (x.2 / 2) = y
    rw [Nat.mul_comm 2 y, Nat.mul_assoc, ← hx]
  · rfl
theorem red_mod2 {p q : Nat} (hq : 0 < q) (hp : p < q) : red (2 * (red p q).1 % (red p q).2) (red p q).2 = red (2 * p % q) q := by
  have hc := red_cross (p := p) (q := q)
  have h0 := red_pos (p := p) hq
  obtain ⟨g, hg⟩ := red_dvd (p := p) (q := q)
  have hg0 : 0 < g := by
    rcases Nat.eq_zero_or_pos g with z | z
    · rw [z] at hg; omega
    · exact z
  generalize hr : red p q = r at *
  have hpe : p = r.1 * g := by
    rw [hg] at hc
    have : r.1 * g * r.2 = p * r.2 := by rw [← hc, Nat.mul_assoc, Nat.mul_comm g]
    exact (Nat.eq_of_mul_eq_mul_right h0 this).symm
  refine red_eq h0 hq ?_
  rw [hpe, hg, show 2 * (r.1 * g) = 2 * r.1 * g from (Nat.mul_assoc _ _ _).symm, Nat.mul_mod_mul_right, Nat.mul_assoc (2 * r.1 % r.2) g, Nat.mul_comm g]
theorem it_red {x : Nat × Nat} (h : Plc x) (i : Nat) : itN i x = red (2 ^ i * x.1 % x.2) x.2 := by
  have hp := h.pos
  induction i with
  | zero =>
    rw [Nat.pow_zero, Nat.one_mul, Nat.mod_eq_of_lt h.lt]
    exact (red_self h.cop).symm
  | succ i ih =>
    rw [itN_succ, dbl_red (it_plc h i), ih, red_mod2 hp (Nat.mod_lt _ hp)]
    congr 1
    rw [Nat.mul_mod, Nat.mod_mod, ← Nat.mul_mod, Nat.pow_succ, Nat.mul_comm (2 ^ i) 2, Nat.mul_assoc]
theorem red_inj {p p' q : Nat} (hq : 0 < q) (h : red p q = red p' q) : p = p' := by
  have h1 := red_cross (p := p) (q := q)
  have h2 := red_cross (p := p') (q := q)
  have h0 := red_pos (p := p) hq
  rw [h] at h1 h0
  exact Nat.eq_of_mul_eq_mul_right h0 (h1.symm.trans h2)
theorem it_eq {x : Nat × Nat} (h : Plc x) {i j : Nat} (hij : i ≤ j) : itN i x = itN j x ↔ x.2 ∣ 2 ^ i * (2 ^ (j - i) - 1) := by
  have hp := h.pos
  rw [it_red h, it_red h]
  have e : 2 ^ j = 2 ^ i * 2 ^ (j - i) := by rw [← Nat.pow_add]; congr 1; omega
  have hpw : 1 ≤ 2 ^ (j - i) := two_pow_pos _
  have key : (2 ^ i * x.1 % x.2 = 2 ^ j * x.1 % x.2) ↔ x.2 ∣ 2 ^ i * (2 ^ (j - i) - 1) := by
    have hle : 2 ^ i * x.1 ≤ 2 ^ j * x.1 := Nat.mul_le_mul_right _ (Nat.pow_le_pow_right (by decide) hij)
    have hsub : 2 ^ j * x.1 - 2 ^ i * x.1 = 2 ^ i * (2 ^ (j - i) - 1) * x.1 := by
      rw [e, ← Nat.sub_mul, Nat.mul_sub_one]
    constructor
    · intro z
      have d1 : x.2 ∣ 2 ^ j * x.1 - 2 ^ i * x.1 := Nat.dvd_of_mod_eq_zero (Nat.sub_mod_eq_zero_of_mod_eq z.symm)
      rw [hsub] at d1
      exact h.cop.symm.dvd_of_dvd_mul_right d1
    · intro d
      have d1 : x.2 ∣ 2 ^ j * x.1 - 2 ^ i * x.1 := by rw [hsub]; exact Nat.dvd_trans d (Nat.dvd_mul_right _ _)
      obtain ⟨c, hc⟩ := d1
      have : 2 ^ j * x.1 = 2 ^ i * x.1 + x.2 * c := by omega
      rw [this, Nat.add_mul_mod_self_left]
  constructor
  · intro z; exact key.mp (red_inj hp z)
  · intro z; rw [key.mpr z]
/-! ### way in and period -/
/-- how often 2 divides, at most f times -/
def twosF : Nat → Nat → Nat
  | 0, _ => 0
  | f + 1, b => if b % 2 = 0 then twosF f (b / 2) + 1 else 0
def twos (b : Nat) : Nat := twosF 60 b
theorem twosF_spec : ∀ (f b : Nat), 0 < b → b < 2 ^ f → ∃ o, b = 2 ^ twosF f b * (2 * o + 1) := by
  intro f
  induction f with
  | zero => intro b h1 h2; omega
  | succ f ih =>
    intro b h1 h2
    unfold twosF
    split
    · rename_i e
      obtain ⟨o, ho⟩ := ih (b / 2) (by omega) (by rw [Nat.pow_succ] at h2; omega)
      refine ⟨o, ?_⟩
      rw [Nat.pow_succ, Nat.mul_assoc, Nat.mul_comm 2, ← Nat.mul_assoc, ← ho]
      omega
    · exact ⟨b / 2, by simp; omega⟩
theorem twos_spec {b : Nat} (h1 : 0 < b) (h2 : b < 2 ^ 60) : ∃ o, b = 2 ^ twos b * (2 * o + 1) := twosF_spec 60 b h1 h2
def oddOf (b : Nat) : Nat := b / 2 ^ twos b
theorem odd_spec {b : Nat} (h1 : 0 < b) (h2 : b < 2 ^ 60) : b = 2 ^ twos b * oddOf b ∧ oddOf b % 2 = 1 := by
  obtain ⟨o, ho⟩ := twos_spec h1 h2
  have : oddOf b = 2 * o + 1 := by
    unfold oddOf
    conv => lhs; rw [ho]
    have e : twos (2 ^ twos b * (2 * o + 1)) = twos b := by rw [← ho]
    rw [e, Nat.mul_div_cancel_left _ (two_pow_pos _)]
  rw [this]
  exact ⟨ho, by omega⟩
/-- the least n from 1 to f with 2 ^ n - 1 divided by o, else 0 -/
def ordN (o : Nat) : Nat := match (List.range 24).find? (fun i => (2 ^ (i + 1) - 1) % o == 0) with
  | some i => i + 1
  | none => 0
theorem ord_spec {o n : Nat} (h1 : 1 ≤ n) (h2 : n ≤ 24) (h : o ∣ 2 ^ n - 1) : 1 ≤ ordN o ∧ ordN o ≤ n ∧ o ∣ 2 ^ ordN o - 1 ∧ ∀ k, 1 ≤ k → k < ordN o → ¬ o ∣ 2 ^ k - 1 := by
  unfold ordN
  cases hf : (List.range 24).find? (fun i => (2 ^ (i + 1) - 1) % o == 0) with
  | none =>
    rw [List.find?_eq_none] at hf
    have := hf (n - 1) (List.mem_range.mpr (by omega))
    rw [show n - 1 + 1 = n by omega, beq_iff_eq] at this
    exact absurd (Nat.mod_eq_zero_of_dvd h) this
  | some i =>
    rw [List.find?_range_eq_some] at hf
    obtain ⟨p, hi, hj⟩ := hf
    rw [beq_iff_eq] at p
    show 1 ≤ i + 1 ∧ i + 1 ≤ n ∧ o ∣ 2 ^ (i + 1) - 1 ∧ ∀ k, 1 ≤ k → k < i + 1 → ¬ o ∣ 2 ^ k - 1
    refine ⟨by omega, ?_, Nat.dvd_of_mod_eq_zero p, fun k a b d => ?_⟩
    · apply Nat.le_of_not_lt
      intro z
      have := hj (n - 1) (by omega)
      rw [show n - 1 + 1 = n by omega, Bool.not_eq_true', beq_eq_false_iff_ne] at this
      exact this (Nat.mod_eq_zero_of_dvd h)
    · have := hj (k - 1) (by omega)
      rw [show k - 1 + 1 = k by omega, Bool.not_eq_true', beq_eq_false_iff_ne] at this
      exact this (Nat.mod_eq_zero_of_dvd d)
def wayN (x : Nat × Nat) : Nat := twos x.2
def perN (x : Nat × Nat) : Nat := ordN (oddOf x.2)
theorem cop_two_pow {o : Nat} (h : o % 2 = 1) (m : Nat) : Nat.Coprime (2 ^ m) o := by
  refine Nat.Coprime.pow_left m ?_
  unfold Nat.Coprime
  rw [Nat.gcd_rec, h]
  rfl
/-- 2 ^ m o divides 2 ^ i (2 ^ n - 1), o odd -/
theorem dvd_split {m o i n : Nat} (ho : o % 2 = 1) (hn : 1 ≤ n) : 2 ^ m * o ∣ 2 ^ i * (2 ^ n - 1) ↔ m ≤ i ∧ o ∣ 2 ^ n - 1 := by
  have hodd : (2 ^ n - 1) % 2 = 1 := by
    have h1 : 2 ^ n = 2 * 2 ^ (n - 1) := by rw [← Nat.pow_succ']; congr 1; omega
    have := two_pow_pos (n - 1)
    omega
  constructor
  · intro d
    have d1 : 2 ^ m ∣ 2 ^ i * (2 ^ n - 1) := Nat.dvd_trans (Nat.dvd_mul_right _ _) d
    have d2 : o ∣ 2 ^ i * (2 ^ n - 1) := Nat.dvd_trans (Nat.dvd_mul_left _ _) d
    have d3 : 2 ^ m ∣ 2 ^ i := (cop_two_pow hodd m).dvd_of_dvd_mul_right d1
    have d4 : o ∣ 2 ^ n - 1 := (cop_two_pow ho i).symm.dvd_of_dvd_mul_left d2
    refine ⟨?_, d4⟩
    apply Nat.le_of_not_lt
    intro z
    have := Nat.le_of_dvd (two_pow_pos i) d3
    have := Nat.pow_lt_pow_right (a := 2) (by decide) z
    omega
  · rintro ⟨h1, h2⟩
    exact Nat.mul_dvd_mul (Nat.pow_dvd_pow 2 h1) h2
structure Ways (x : Nat × Nat) (m n : Nat) : Prop where
  n1 : 1 ≤ n
  le : m + n ≤ 24
  eq : ∀ i j, i < j → (itN i x = itN j x ↔ m ≤ i ∧ (oddOf x.2) ∣ 2 ^ (j - i) - 1)
  dv : oddOf x.2 ∣ 2 ^ n - 1
  lt : ∀ k, 1 ≤ k → k < n → ¬ oddOf x.2 ∣ 2 ^ k - 1
theorem ways {x : Nat × Nat} (h : Plc x) : Ways x (wayN x) (perN x) := by
  have hp := h.pos
  have hs := h.small
  obtain ⟨e1, e2⟩ := odd_spec hp (Nat.lt_trans hs (by decide))
  obtain ⟨m', n', h1, h2, h3⟩ := h.bot
  rw [e1, dvd_split e2 h1] at h3
  have ho := ord_spec h1 (by omega) h3.2
  refine ⟨ho.1, ?_, fun i j hij => ?_, ho.2.2.1, ho.2.2.2⟩
  · have := ho.2.1
    have : twos x.2 ≤ m' := h3.1
    unfold wayN perN
    omega
  · rw [it_eq h (Nat.le_of_lt hij)]
    conv => lhs; rw [e1]
    rw [dvd_split e2 (by omega)]
    rfl
namespace Ways
variable {x : Nat × Nat} {m n : Nat}
theorem back (w : Ways x m n) : itN (m + n) x = itN m x := by
  symm
  have := w.n1
  rw [w.eq m (m + n) (by omega)]
  exact ⟨Nat.le_refl _, by rw [show m + n - m = n by omega]; exact w.dv⟩
theorem ne (w : Ways x m n) {i j : Nat} (h1 : i < j) (h2 : j < m + n) : itN i x ≠ itN j x := by
  intro z
  obtain ⟨a, b⟩ := (w.eq i j h1).mp z
  exact w.lt (j - i) (by omega) (by omega) b
theorem inj (w : Ways x m n) {i j : Nat} (h1 : i < m + n) (h2 : j < m + n) (h : itN i x = itN j x) : i = j := by
  rcases Nat.lt_trichotomy i j with z | z | z
  · exact absurd h (w.ne z h2)
  · exact z
  · exact absurd h.symm (w.ne z h1)
end Ways
/-- the orbit -/
def orbN (x : Nat × Nat) : List (Nat × Nat) := (List.range (wayN x + perN x)).map fun i => itN i x
theorem orb_len (x : Nat × Nat) : (orbN x).length = wayN x + perN x := by simp [orbN]
theorem orb_get {x : Nat × Nat} {i : Nat} (h : i < wayN x + perN x) : (orbN x)[i]? = some (itN i x) := by simp [orbN, h]
theorem orb_plc {x : Nat × Nat} (h : Plc x) : ∀ y ∈ orbN x, Plc y := by
  intro y hy
  obtain ⟨i, _, rfl⟩ := List.mem_map.mp hy
  exact it_plc h i
/-- the first i places of the orbit -/
def preN (x : Nat × Nat) (i : Nat) : List (Nat × Nat) := (List.range i).map fun i => itN i x
theorem pre_succ (x : Nat × Nat) (i : Nat) : preN x (i + 1) = preN x i ++ [itN i x] := by simp [preN, List.range_succ]
theorem pre_len (x : Nat × Nat) (i : Nat) : (preN x i).length = i := by simp [preN]
theorem pre_mem {x : Nat × Nat} (h : Plc x) {i : Nat} (hi : i ≤ wayN x + perN x) : itN i x ∈ preN x i ↔ i = wayN x + perN x := by
  have w := ways h
  constructor
  · intro hm
    obtain ⟨j, hj, e⟩ := List.mem_map.mp hm
    have hj := List.mem_range.mp hj
    by_cases z : i = wayN x + perN x
    · exact z
    · exact absurd e (w.ne hj (by omega))
  · intro e
    have := w.n1
    rw [e, w.back]
    exact List.mem_map.mpr ⟨wayN x, List.mem_range.mpr (by omega), rfl⟩
/-! ### for the defs -/
theorem twos_bits {b : Nat} (h1 : 0 < b) (h2 : b < 2 ^ 60) : Builtin.bitAnd (b : Int) (-(b : Int)) = ((2 ^ twos b : Nat) : Int) := by
  obtain ⟨o, ho⟩ := twos_spec h1 h2
  have e : (b : Int) = 2 ^ twos b * (2 * (o : Int) + 1) := by
    conv => lhs; rw [ho]
    push_cast
    rfl
  conv => lhs; rw [e]
  rw [PySem.W.kbt_low]
  push_cast
  rfl
theorem pow_bits (k : Nat) : Builtin.Int.intBits ((2 ^ k : Nat) : Int) = k + 1 := by
  unfold Builtin.Int.intBits
  have hp := two_pow_pos k
  have e : (((2 ^ k : Nat) : Int) == 0) = false := beq_eq_false_iff_ne.mpr fun z => by
    have : (2 ^ k : Nat) = 0 := Int.ofNat.inj z
    omega
  rw [e, Int.natAbs_natCast, Nat.log2_two_pow]
  rfl
theorem ord_first {o k : Nat} (h1 : 1 ≤ k) (h2 : k ≤ 24) (h : (2 ^ k - 1) % o = 0) (hb : ∀ j, 1 ≤ j → j < k → ¬ (2 ^ j - 1) % o = 0) : ordN o = k := by
  unfold ordN
  have : (List.range 24).find? (fun i => (2 ^ (i + 1) - 1) % o == 0) = some (k - 1) := by
    rw [List.find?_range_eq_some]
    refine ⟨by rw [show k - 1 + 1 = k by omega, beq_iff_eq]; exact h, List.mem_range.mpr (by omega), fun j hj => ?_⟩
    rw [Bool.not_eq_true', beq_eq_false_iff_ne]
    exact hb (j + 1) (by omega) (by omega)
  rw [this]
  show k - 1 + 1 = k
  omega
theorem ord_none {o : Nat} (h : ∀ j, 1 ≤ j → j ≤ 24 → ¬ (2 ^ j - 1) % o = 0) : ordN o = 0 := by
  unfold ordN
  have : (List.range 24).find? (fun i => (2 ^ (i + 1) - 1) % o == 0) = none := by
    rw [List.find?_eq_none]
    intro i hi
    rw [beq_iff_eq]
    exact h (i + 1) (by omega) (by have := List.mem_range.mp hi; omega)
  rw [this]
theorem odd_pos {b : Nat} (h1 : 0 < b) (h2 : b < 2 ^ 60) : 0 < oddOf b := by have := (odd_spec h1 h2).2; omega
theorem bits_le {b k : Nat} (h1 : 0 < b) (h : b < 2 ^ k) : Builtin.Int.intBits (b : Int) ≤ k := by
  unfold Builtin.Int.intBits
  have e : ((b : Int) == 0) = false := beq_eq_false_iff_ne.mpr fun z => by omega
  rw [e, Int.natAbs_natCast]
  have := (Nat.log2_lt (by omega : b ≠ 0)).mpr h
  simp
  omega
theorem dig_lt (k : Nat) : 2 ^ k - 1 < 2 ^ k := by have := two_pow_pos k; omega
/-! ### digits -/
def dig (y : Nat × Nat) : Nat := if 2 * y.1 < y.2 then 48 else 49
def digL (x : Nat × Nat) : List Nat := (orbN x).map dig
theorem digL_len (x : Nat × Nat) : (digL x).length = wayN x + perN x := by simp [digL, orb_len]
theorem digL_dg (x : Nat × Nat) : Dg (digL x) := by
  intro c hc
  obtain ⟨y, _, rfl⟩ := List.mem_map.mp hc
  unfold dig
  split
  · exact .inl rfl
  · exact .inr rfl
/-! ### readings -/
section
variable {K : PySem.W.Frag} {σ : L2.St} {H : Hp} {Q : VK} {v y : V} {to : TE}
def rBits (x : V) (H : Hp) (Q : VK) : Prop := ∃ i, x = .int i ∧ Q (.int (Builtin.Int.intBits i : Nat)) H
theorem w_bits (h : to σ H fun x H1 => rBits x H1 Q) : tBits to σ H Q := h
theorem w_bitsI {i : Int} (h : Q (.int (Builtin.Int.intBits i : Nat)) H) : rBits (.int i) H Q := ⟨i, rfl, h⟩
def rDivmod : List V → Hp → VK → Prop := fun xs H Q => ∃ i j, xs = [.int i, .int j] ∧ CDivP i j ∧ ∀ p, H p = none → Q (.ref p) (upd H p (.tup [.int (i / j), .int (i % j)]))
theorem cl_divmod {X : Cx} : CallR X (.builtin "divmod") rDivmod := call_divmodW
theorem w_divmod {i j : Int} (hc : CDivP i j) (q : ∀ p H', Same H H' → Dp K H' (.ref p) (.tuple [.int (i / j), .int (i % j)]) → Q (.ref p) H') : rDivmod [.int i, .int j] H Q :=
  ⟨i, j, rfl, hc, fun p hp => q p _ (same_new hp) (dp_newT upd_same (.cons (.int _) (.cons (.int _) .nil)))⟩
def rIndexK (K : PySem.W.Frag) : V → List V → Hp → VK → Prop := fun x xs H Q => ∃ (a : Addr) (y : V) (d : PyData) (ds : List PyData) (j : Nat) (z : PyData), x = V.ref a ∧ xs = [y] ∧ Dp K H (V.ref a) (.list ds) ∧ Dp K H y d ∧ SeqAt.shaped (.list ds) = true ∧ SeqAt.shaped d = true ∧
  ds[j]? = some z ∧ PyData.eqv z d = true ∧ (∀ (m : Nat) (z' : PyData), m < j → ds[m]? = some z' → PyData.eqv z' d = false) ∧ Q (.int (j : Nat)) H
theorem mt_indexK {X : Cx} {K : PySem.W.Frag} (hu : X.A.units + 65 < cLine) (h : X.K = K := by rfl) : MtR X "list.index" (rIndexK K) := h ▸ mt_indexD hu
theorem w_index {d : PyData} {ds : List PyData} {j : Nat} (h1 : Dp K H v (.list ds)) (h2 : Dp K H y d) (p1 : pln 8 d = true) (p2 : ∀ z ∈ ds, pln 8 z = true) (hj : ds[j]? = some d) (hn : ∀ m, m < j → ds[m]? ≠ some d) (q : Q (.int (j : Nat)) H) : rIndexK K v [y] H Q := by
  obtain ⟨a, xs, rfl, hs, ha⟩ := dp_lst h1
  refine ⟨a, y, d, ds, j, d, rfl, rfl, h1, h2, pln_shaped (pln_list p2) (by decide), pln_shaped p1 (by decide), hj, (pln_eqv 8 8 d d p1 p1).mpr rfl, fun m z' hm hz => ?_, q⟩
  cases he : PyData.eqv z' d with
  | false => rfl
  | true =>
    have := (pln_eqv 8 8 z' d (p2 z' (List.mem_of_getElem? hz)) p1).mp he
    subst this
    exact absurd hz (hn m hm)
theorem w_tyLD {ds : List PyData} {A : Prop} (h : Dp K H v (.list ds)) (q : A) : tyV K "list" v H ∧ A := by
  obtain ⟨a, xs, rfl, hs, ha⟩ := dp_lst h
  exact ⟨.inl ⟨rfl, xs, hs⟩, q⟩
end
/-! ### digits of a place: what they are worth -/
/-- the numerator over x's own denominator -/
def aN (x : Nat × Nat) (i : Nat) : Nat := 2 ^ i * x.1 % x.2
theorem it_aN {x : Nat × Nat} (h : Plc x) (i : Nat) : itN i x = red (aN x i) x.2 := it_red h i
theorem aN_lt {x : Nat × Nat} (h : Plc x) (i : Nat) : aN x i < x.2 := Nat.mod_lt _ h.pos
theorem red_low {p q : Nat} (hq : 0 < q) : 2 * (red p q).1 < (red p q).2 ↔ 2 * p < q := by
  have hc := red_cross (p := p) (q := q)
  have h0 := red_pos (p := p) hq
  constructor
  · intro h
    have : 2 * (red p q).1 * q < (red p q).2 * q := Nat.mul_lt_mul_of_pos_right h hq
    rw [Nat.mul_assoc, hc, ← Nat.mul_assoc, Nat.mul_comm _ q] at this
    exact Nat.lt_of_mul_lt_mul_right this
  · intro h
    have : 2 * p * (red p q).2 < q * (red p q).2 := Nat.mul_lt_mul_of_pos_right h h0
    rw [Nat.mul_assoc, ← hc, ← Nat.mul_assoc, Nat.mul_comm q] at this
    exact Nat.lt_of_mul_lt_mul_right this
theorem aN_succ {x : Nat × Nat} (h : Plc x) (i : Nat) : aN x (i + 1) + (dig (itN i x) - 48) * x.2 = 2 * aN x i := by
  have hp := h.pos
  have hl := aN_lt h i
  have e : aN x (i + 1) = 2 * aN x i % x.2 := by
    unfold aN
    rw [Nat.pow_succ, Nat.mul_comm (2 ^ i) 2, Nat.mul_assoc]
    conv => lhs; rw [Nat.mul_mod]
    conv => rhs; rw [Nat.mul_mod, Nat.mod_mod]
  have hd := red_low (p := aN x i) hp
  rw [← it_aN h] at hd
  rw [e]
  unfold dig
  split
  · rename_i z
    have := hd.mp z
    rw [Nat.mod_eq_of_lt this]; simp
  · rename_i z
    have z2 : ¬ 2 * aN x i < x.2 := fun w => z (hd.mpr w)
    rw [show 2 * aN x i = (2 * aN x i - x.2) + x.2 by omega, Nat.add_mod_right, Nat.mod_eq_of_lt (by omega)]
    simp
def digsFrom (x : Nat × Nat) (i k : Nat) : List Nat := (List.range k).map fun j => dig (itN (i + j) x)
theorem digsFrom_succ (x : Nat × Nat) (i k : Nat) : digsFrom x i (k + 1) = digsFrom x i k ++ [dig (itN (i + k) x)] := by simp [digsFrom, List.range_succ]
theorem digs_val {x : Nat × Nat} (h : Plc x) (i k : Nat) : bv (digsFrom x i k) * x.2 + aN x (i + k) = 2 ^ k * aN x i := by
  induction k with
  | zero => simp [digsFrom, bv]
  | succ k ih =>
    rw [digsFrom_succ, bv_snoc]
    have := aN_succ h (i + k)
    rw [← Nat.add_assoc, Nat.pow_succ, Nat.mul_comm (2 ^ k) 2, Nat.mul_assoc, ← ih, Nat.add_mul]
    generalize (dig (itN (i + k) x) - 48) * x.2 = u at *
    rw [Nat.mul_add, ← this, Nat.mul_assoc]
    omega
theorem digL_take (x : Nat × Nat) : (digL x).take (wayN x) = digsFrom x 0 (wayN x) := by
  unfold digL orbN digsFrom
  rw [List.map_map, ← List.map_take, List.take_range, Nat.min_eq_left (by omega)]
  apply List.map_congr_left
  intro j _
  simp
theorem digL_drop (x : Nat × Nat) : (digL x).drop (wayN x) = digsFrom x (wayN x) (perN x) := by
  unfold digL orbN digsFrom
  rw [List.map_map]
  apply List.ext_getElem?
  intro j
  simp only [List.getElem?_drop, List.getElem?_map]
  by_cases z : j < perN x
  · rw [List.getElem?_range (by omega), List.getElem?_range z]
    simp
  · rw [List.getElem?_eq_none (by simp; omega), List.getElem?_eq_none (by simp; omega)]
    rfl
def frontL (x : Nat × Nat) : List Nat := (digL x).take (wayN x)
def backL (x : Nat × Nat) : List Nat := (digL x).drop (wayN x)
theorem front_len (x : Nat × Nat) : (frontL x).length = wayN x := by unfold frontL; rw [List.length_take, digL_len]; omega
theorem back_len (x : Nat × Nat) : (backL x).length = perN x := by unfold backL; rw [List.length_drop, digL_len]; omega
theorem front_dg (x : Nat × Nat) : Dg (frontL x) := fun c hc => digL_dg x c (List.mem_of_mem_take hc)
theorem back_dg (x : Nat × Nat) : Dg (backL x) := fun c hc => digL_dg x c (List.mem_of_mem_drop hc)
/-- the digits are those of the place -/
theorem bin_digits {x : Nat × Nat} (h : Plc x) : binN (frontL x) (backL x) = x := by
  have hp := h.pos
  have w := ways h
  have hw1 := w.n1
  have e1 := digs_val h 0 (wayN x)
  have e2 := digs_val h (wayN x) (perN x)
  rw [← digL_take, Nat.zero_add] at e1
  rw [← digL_drop] at e2
  have a0 : aN x 0 = x.1 := by unfold aN; rw [Nat.pow_zero, Nat.one_mul, Nat.mod_eq_of_lt h.lt]
  have ab : aN x (wayN x + perN x) = aN x (wayN x) := by
    have := w.back
    rw [it_aN h, it_aN h] at this
    exact red_inj hp this
  rw [a0] at e1
  rw [ab] at e2
  have hw : 1 ≤ 2 ^ perN x := two_pow_pos _
  unfold binN botN
  rw [front_len, back_len]
  have hB : 0 < 2 ^ wayN x * (2 ^ perN x - 1) := bot_pos hw1
  have e3 : bv (backL x) * x.2 = (2 ^ perN x - 1) * aN x (wayN x) := by
    rw [Nat.sub_mul, Nat.one_mul, ← e2]
    unfold backL
    omega
  have key : (bv (frontL x) * (2 ^ perN x - 1) + bv (backL x)) * x.2 = x.1 * (2 ^ wayN x * (2 ^ perN x - 1)) := by
    rw [Nat.add_mul, e3]
    have e4 : bv (frontL x) * x.2 + aN x (wayN x) = 2 ^ wayN x * x.1 := e1
    generalize 2 ^ perN x - 1 = W at *
    generalize bv (frontL x) = f at *
    generalize aN x (wayN x) = A at *
    calc f * W * x.2 + W * A = W * (f * x.2 + A) := by grind
      _ = W * (2 ^ wayN x * x.1) := by rw [e4]
      _ = x.1 * (2 ^ wayN x * W) := by grind
  have hlt : bv (frontL x) * (2 ^ perN x - 1) + bv (backL x) < 2 ^ wayN x * (2 ^ perN x - 1) := by
    have : (bv (frontL x) * (2 ^ perN x - 1) + bv (backL x)) * x.2 < 2 ^ wayN x * (2 ^ perN x - 1) * x.2 := by
      rw [key, Nat.mul_comm x.1]
      exact Nat.mul_lt_mul_of_pos_left h.lt hB
    exact Nat.lt_of_mul_lt_mul_right this
  rw [Nat.mod_eq_of_lt hlt]
  exact red_of h.cop hp hB key.symm
/-- one digit moved into the head -/
theorem bv_cons (c : Nat) (r : List Nat) : bv (c :: r) = (c - 48) * 2 ^ r.length + bv r := by
  have gen : ∀ (r : List Nat) (s : Nat), r.foldl (fun s c => 2 * s + (c - 48)) s = s * 2 ^ r.length + bv r := by
    intro r
    induction r with
    | nil => intro s; simp [bv]
    | cons d r ih =>
      intro s
      have h1 := ih (2 * s + (d - 48))
      have h2 := ih (2 * 0 + (d - 48))
      show r.foldl _ (2 * s + (d - 48)) = s * 2 ^ (r.length + 1) + r.foldl _ (2 * 0 + (d - 48))
      rw [h1, h2, Nat.pow_succ]
      grind
  have := gen r (2 * 0 + (c - 48))
  show r.foldl _ (2 * 0 + (c - 48)) = _
  rw [this]
  simp
theorem bin_turn (h r : List Nat) (c : Nat) : binN (h ++ [c]) (r ++ [c]) = binN h (c :: r) := by
  have hB : 0 < 2 ^ h.length * (2 ^ (r.length + 1) - 1) := bot_pos (by omega)
  have hw : 1 ≤ 2 ^ (r.length + 1) := two_pow_pos _
  unfold binN botN
  rw [bv_snoc, bv_snoc, bv_cons]
  simp only [List.length_append, List.length_cons, List.length_nil, Nat.zero_add]
  have e1 : 2 ^ (h.length + 1) * (2 ^ (r.length + 1) - 1) = 2 * (2 ^ h.length * (2 ^ (r.length + 1) - 1)) := by rw [Nat.pow_succ]; grind
  have e2 : (2 * bv h + (c - 48)) * (2 ^ (r.length + 1) - 1) + (2 * bv r + (c - 48)) = 2 * (bv h * (2 ^ (r.length + 1) - 1) + ((c - 48) * 2 ^ r.length + bv r)) := by
    have e3 : 2 ^ (r.length + 1) = (2 ^ (r.length + 1) - 1) + 1 := by omega
    have e4 : 2 ^ (r.length + 1) = 2 * 2 ^ r.length := by rw [Nat.pow_succ]; omega
    generalize 2 ^ (r.length + 1) - 1 = W at *
    rw [e3] at e4
    generalize 2 ^ r.length = V at *
    have : W = 2 * V - 1 := by omega
    have hV : 1 ≤ V := by omega
    obtain ⟨u, rfl⟩ : ∃ u, V = u + 1 := ⟨V - 1, by omega⟩
    have : W = 2 * u + 1 := by omega
    subst this
    grind
  rw [e1, e2, Nat.mul_mod_mul_left]
  refine red_eq (by omega) hB ?_
  grind
/-- all digits exchanged -/
def swC (c : Nat) : Nat := if c = 49 then 48 else 49
theorem bv_swap : ∀ (l : List Nat), Dg l → bv (l.map swC) + bv l = 2 ^ l.length - 1 := by
  intro l
  induction l with
  | nil => intro _; rfl
  | cons c r ih =>
    intro h
    have h1 := ih fun d hd => h d (List.mem_cons_of_mem _ hd)
    have hp := two_pow_pos r.length
    rw [List.map_cons, bv_cons, bv_cons, List.length_map, List.length_cons, Nat.pow_succ]
    rcases h c List.mem_cons_self with rfl | rfl
    · simp [swC]; omega
    · simp [swC]; omega
theorem dg_swap {l : List Nat} (h : Dg l) : Dg (l.map swC) := by
  intro c hc
  obtain ⟨d, _, rfl⟩ := List.mem_map.mp hc
  unfold swC
  split
  · exact .inl rfl
  · exact .inr rfl
theorem red_mirN {p q : Nat} (hq : 0 < q) (hp : p ≤ q) : red ((q - p) % q) q = mirN (red (p % q) q) := by
  have hl : p % q < q := Nat.mod_lt _ hq
  generalize hr : p % q = r at *
  have e : (q - p) % q = if r = 0 then 0 else q - r := by
    by_cases z : p = q
    · subst z
      rw [Nat.mod_self] at hr
      rw [if_pos hr.symm, Nat.sub_self, Nat.zero_mod]
    · have : r = p := by rw [← hr, Nat.mod_eq_of_lt (by omega)]
      subst this
      split
      · rename_i z0; rw [z0, Nat.sub_zero, Nat.mod_self]
      · rw [Nat.mod_eq_of_lt (by omega)]
  rw [e]
  have hc := red_cross (p := r) (q := q)
  have h0 := red_pos (p := r) hq
  have hlt := red_lt hl
  have hcop := red_coprime (p := r) hq
  generalize red r q = x at *
  have hm : Nat.Coprime (mirN x).1 (mirN x).2 := by
    show Nat.Coprime (if x.1 = 0 then 0 else x.2 - x.1) x.2
    split
    · rename_i z; rw [z] at hcop; exact hcop
    · unfold Nat.Coprime at hcop ⊢
      rw [Nat.gcd_comm, Nat.gcd_self_sub_right (Nat.le_of_lt hlt), Nat.gcd_comm]
      exact hcop
  refine red_of hm h0 hq ?_
  show (if x.1 = 0 then 0 else x.2 - x.1) * q = (if r = 0 then 0 else q - r) * x.2
  by_cases z : r = 0
  · have z1 : x.1 = 0 := by
      rw [z, Nat.zero_mul] at hc
      rcases Nat.mul_eq_zero.mp hc with w | w
      · exact w
      · omega
    rw [if_pos z, if_pos z1, Nat.zero_mul, Nat.zero_mul]
  · have z1 : x.1 ≠ 0 := by
      intro w
      rw [w, Nat.zero_mul] at hc
      rcases Nat.mul_eq_zero.mp hc.symm with u | u
      · exact z u
      · omega
    rw [if_neg z, if_neg z1, Nat.sub_mul, Nat.sub_mul, hc, Nat.mul_comm x.2 q]
theorem bin_swap {h t : List Nat} (dh : Dg h) (dt : Dg t) (ht : t ≠ []) : binN (h.map swC) (t.map swC) = mirN (binN h t) := by
  have hB := botN_pos (h := h) ht
  have e1 := bv_swap h dh
  have e2 := bv_swap t dt
  have b1 := bv_lt h dh
  have b2 := bv_lt t dt
  have p1 := two_pow_pos h.length
  unfold binN
  rw [show botN (h.map swC) (t.map swC) = botN h t by simp [botN], List.length_map]
  have hle : bv h * (2 ^ t.length - 1) + bv t ≤ botN h t := by
    unfold botN
    have : (bv h + 1) * (2 ^ t.length - 1) ≤ 2 ^ h.length * (2 ^ t.length - 1) := Nat.mul_le_mul_right _ b1
    rw [Nat.add_mul, Nat.one_mul] at this
    omega
  have e3 : bv (h.map swC) * (2 ^ t.length - 1) + bv (t.map swC) = botN h t - (bv h * (2 ^ t.length - 1) + bv t) := by
    have e4 : bv (t.map swC) = (2 ^ t.length - 1) - bv t := by omega
    have e5 : bv (h.map swC) = 2 ^ h.length - 1 - bv h := by omega
    rw [e4, e5]
    unfold botN at *
    generalize 2 ^ t.length - 1 = W at *
    have : (2 ^ h.length - 1 - bv h) * W = 2 ^ h.length * W - (bv h + 1) * W := by rw [← Nat.sub_mul]; congr 1; omega
    rw [this, Nat.add_mul, Nat.one_mul]
    have : (bv h + 1) * W ≤ 2 ^ h.length * W := Nat.mul_le_mul_right _ b1
    rw [Nat.add_mul, Nat.one_mul] at this
    omega
  rw [e3]
  exact red_mirN hB hle
/-! ### the doubled place's orbit -/
theorem twosF_half {f b : Nat} (h : b % 2 = 0) (hb : 0 < b) (hf : b < 2 ^ f) : twosF (f + 1) b = twosF f (b / 2) + 1 := by
  show (if b % 2 = 0 then twosF f (b / 2) + 1 else 0) = _
  rw [if_pos h]
theorem twosF_mono : ∀ (f g b : Nat), 0 < b → b < 2 ^ f → b < 2 ^ g → twosF f b = twosF g b := by
  intro f
  induction f with
  | zero => intro g b h1 h2; omega
  | succ f ih =>
    intro g b h1 h2 h3
    cases g with
    | zero => omega
    | succ g =>
      show (if b % 2 = 0 then twosF f (b / 2) + 1 else 0) = (if b % 2 = 0 then twosF g (b / 2) + 1 else 0)
      split
      · rw [ih g (b / 2) (by omega) (by rw [Nat.pow_succ] at h2; omega) (by rw [Nat.pow_succ] at h3; omega)]
      · rfl
theorem twos_even {b : Nat} (h1 : 0 < b) (h2 : b < 2 ^ 50) (e : b % 2 = 0) : twos b = twos (b / 2) + 1 := by
  have h60 : (2 : Nat) ^ 50 < 2 ^ 60 := by decide
  have h59 : (2 : Nat) ^ 50 < 2 ^ 59 := by decide
  show twosF (59 + 1) b = twosF 60 (b / 2) + 1
  rw [twosF_half e h1 (by omega), twosF_mono 59 60 (b / 2) (by omega) (by omega) (by omega)]
theorem twos_odd {b : Nat} (e : b % 2 = 1) : twos b = 0 := by
  show (if b % 2 = 0 then twosF 59 (b / 2) + 1 else 0) = 0
  rw [if_neg (by omega)]
theorem odd_half {b : Nat} (h1 : 0 < b) (h2 : b < 2 ^ 50) (e : b % 2 = 0) : oddOf (b / 2) = oddOf b := by
  unfold oddOf
  rw [twos_even h1 h2 e, Nat.pow_succ, Nat.div_div_eq_div_mul, Nat.mul_comm 2]
theorem dbl_ways {x : Nat × Nat} (h : Plc x) : wayN (dblN x) = wayN x - 1 ∧ perN (dblN x) = perN x := by
  have hp := h.pos
  have hs := h.small
  have h50 : (2 : Nat) ^ 24 < 2 ^ 50 := by decide
  unfold wayN perN dblN
  split
  · rename_i e
    refine ⟨?_, ?_⟩
    · show twos (x.2 / 2) = twos x.2 - 1
      rw [twos_even hp (by omega) e]; omega
    · show ordN (oddOf (x.2 / 2)) = ordN (oddOf x.2)
      rw [odd_half hp (by omega) e]
  · rename_i e
    refine ⟨?_, rfl⟩
    show twos x.2 = twos x.2 - 1
    rw [twos_odd (by omega)]
theorem digL_dbl {x : Nat × Nat} (h : Plc x) : (frontL (dblN x), backL (dblN x)) = if wayN x = 0 then ([], (backL x).tail ++ (backL x).take 1) else ((frontL x).tail, backL x) := by
  have w := ways h
  have w1 := w.n1
  obtain ⟨d1, d2⟩ := dbl_ways h
  have hit : ∀ i, itN i (dblN x) = itN (i + 1) x := fun i => rfl
  have fd : ∀ y i k, digsFrom y i k = (List.range k).map fun j => dig (itN (i + j) y) := fun _ _ _ => rfl
  unfold frontL backL
  rw [digL_take, digL_drop, digL_take, digL_drop, d1, d2]
  by_cases z : wayN x = 0
  · rw [if_pos z, z]
    have e0 : itN (0 + perN x) x = itN 0 x := by have := w.back; rwa [z] at this
    refine Prod.ext rfl ?_
    show digsFrom (dblN x) 0 (perN x) = (digsFrom x 0 (perN x)).tail ++ (digsFrom x 0 (perN x)).take 1
    obtain ⟨n, hn⟩ : ∃ n, perN x = n + 1 := ⟨perN x - 1, by omega⟩
    rw [hn] at e0 ⊢
    have e1 : digsFrom x 0 (n + 1) = dig (itN 0 x) :: (List.range n).map fun j => dig (itN (j + 1) x) := by
      rw [fd, List.range_succ_eq_map, List.map_cons, List.map_map]
      congr 1
      apply List.map_congr_left
      intro j _
      simp
    rw [e1, digsFrom_succ, fd]
    simp only [List.tail_cons, List.take_succ_cons, List.take_zero, hit, Nat.zero_add] at *
    rw [e0]
  · rw [if_neg z]
    obtain ⟨m, hm⟩ : ∃ m, wayN x = m + 1 := ⟨wayN x - 1, by omega⟩
    rw [hm, Nat.add_sub_cancel]
    refine Prod.ext ?_ ?_
    · show digsFrom (dblN x) 0 m = (digsFrom x 0 (m + 1)).tail
      rw [fd, fd, List.range_succ_eq_map, List.map_cons, List.map_map, List.tail_cons]
      apply List.map_congr_left
      intro j _
      simp [hit]
    · show digsFrom (dblN x) m (perN x) = digsFrom x (m + 1) (perN x)
      rw [fd, fd]
      apply List.map_congr_left
      intro j _
      rw [hit, show m + j + 1 = m + 1 + j by omega]
/-! ### mirrored -/
theorem mir_dbl {x : Nat × Nat} (h : Plc x) : dblN (mirN x) = mirN (dblN x) := by
  have hm := mir_plc h
  have hp := h.pos
  rw [dbl_red hm, dbl_red h]
  show red (2 * (if x.1 = 0 then 0 else x.2 - x.1) % x.2) x.2 = _
  have hl := h.lt
  have e : 2 * (if x.1 = 0 then 0 else x.2 - x.1) % x.2 = (x.2 - 2 * x.1 % x.2) % x.2 := by
    by_cases z : x.1 = 0
    · rw [if_pos z, z]; simp
    · rw [if_neg z]
      by_cases z2 : 2 * x.1 < x.2
      · rw [Nat.mod_eq_of_lt z2, show 2 * (x.2 - x.1) = (x.2 - 2 * x.1) + x.2 by omega, Nat.add_mod_right]
      · rw [show 2 * x.1 = (2 * x.1 - x.2) + x.2 by omega, Nat.add_mod_right, Nat.mod_eq_of_lt (show 2 * x.1 - x.2 < x.2 by omega)]
        congr 1
        omega
  rw [e, red_mirN hp (Nat.le_of_lt (Nat.mod_lt _ hp)), Nat.mod_mod]
theorem mir_it {x : Nat × Nat} (h : Plc x) (i : Nat) : itN i (mirN x) = mirN (itN i x) := by
  induction i with
  | zero => rfl
  | succ i ih => rw [itN_succ, ih, mir_dbl (it_plc h i), itN_succ]
theorem mir_digs {x : Nat × Nat} (h : Plc x) (hn : ∀ i, i < wayN x + perN x → (itN i x).1 ≠ 0 ∧ 2 * (itN i x).1 ≠ (itN i x).2) : frontL (mirN x) = (frontL x).map swC ∧ backL (mirN x) = (backL x).map swC := by
  have hw : wayN (mirN x) = wayN x := rfl
  have hpr : perN (mirN x) = perN x := rfl
  have hd : digL (mirN x) = (digL x).map swC := by
    unfold digL orbN
    rw [hw, hpr, List.map_map, List.map_map, List.map_map]
    apply List.map_congr_left
    intro i hi
    have := hn i (List.mem_range.mp hi)
    have hl := (it_plc h i).lt
    show dig (itN i (mirN x)) = swC (dig (itN i x))
    rw [mir_it h]
    unfold dig mirN swC
    simp only [if_neg this.1]
    by_cases z : 2 * (itN i x).1 < (itN i x).2
    · rw [if_pos z, if_neg (by omega), if_neg (by decide)]
    · rw [if_neg z, if_pos (by omega), if_pos rfl]
  unfold frontL backL
  rw [hd, hw, List.map_take, List.map_drop]
  exact ⟨rfl, rfl⟩
/-- a place that comes to zero has the cycle "0" -/
theorem zero_back {x : Nat × Nat} (h : Plc x) {i : Nat} (hi : (itN i x).1 = 0) : backL x = [48] := by
  have hz : ∀ y : Nat × Nat, Plc y → y.1 = 0 → y = (0, 1) := by
    intro y hy e
    have hc := hy.cop
    rw [e] at hc
    have : y.2 = 1 := by simpa [Nat.Coprime] using hc
    exact Prod.ext e this
  have e0 : itN i x = (0, 1) := hz _ (it_plc h i) hi
  have d0 : dblN (0, 1) = (0, 1) := by decide
  have e1 : itN (i + 1) x = itN i x := by rw [itN_succ, e0, d0]
  have w := ways h
  have hper : perN x = 1 := by
    have h1 := (w.eq i (i + 1) (by omega)).mp e1.symm
    have h2 := w.lt 1 (by omega)
    have h3 := w.n1
    by_cases z : perN x = 1
    · exact z
    · have := h2 (by omega)
      rw [show i + 1 - i = 1 by omega] at h1
      exact absurd h1.2 this
  have hway : wayN x ≤ i := ((w.eq i (i + 1) (by omega)).mp e1.symm).1
  have e2 : itN (wayN x) x = (0, 1) := by
    have hb := w.back
    rw [hper] at hb
    have : ∀ k, itN (wayN x + k) x = itN (wayN x) x := by
      intro k
      induction k with
      | zero => rfl
      | succ k ih => rw [← Nat.add_assoc, itN_succ, ih, ← itN_succ, hb]
    have := this (i - wayN x)
    rw [show wayN x + (i - wayN x) = i by omega] at this
    rw [← this, e0]
  unfold backL
  rw [digL_drop, hper]
  show [dig (itN (wayN x + 0) x)] = [48]
  rw [Nat.add_zero, e2]
  rfl
theorem half_zero {y : Nat × Nat} (h : Plc y) (e : 2 * y.1 = y.2) : (dblN y).1 = 0 := by
  rw [dbl_red h, e, Nat.mod_self]
  show 0 / _ = 0
  simp
theorem rep_dg {n : Nat} {l : List Nat} (h : Dg l) : Dg (List.replicate n l).flatten := by
  intro c hc
  obtain ⟨y, hy, hc⟩ := List.mem_flatten.mp hc
  rw [(List.mem_replicate.mp hy).2] at hc
  exact h c hc
theorem repl_len (n : Nat) (l : List Nat) : (List.replicate n l).flatten.length = n * l.length := by
  induction n with
  | zero => simp
  | succ n ih => rw [List.replicate_succ, List.flatten_cons, List.length_append, ih, Nat.succ_mul]; omega
theorem dg_one : Dg [49] := fun c hc => by simp at hc; exact .inr hc
theorem dg_zero : Dg [48] := fun c hc => by simp at hc; exact .inl hc
theorem dg_nil : Dg [] := fun c hc => by cases hc
end Tw
namespace Tw
open PySem PySem.Spec PyProof.Rows L2
/-! ### going back by halves -/
/-- (x + j) / 2 ^ k -/
def hvN (x : Nat × Nat) (k j : Nat) : Nat × Nat := red (x.1 + j * x.2) (2 ^ k * x.2)
theorem hv_zero {x : Nat × Nat} (h : Plc x) : hvN x 0 0 = x := by
  unfold hvN
  rw [Nat.zero_mul, Nat.add_zero, Nat.pow_zero, Nat.one_mul]
  exact red_self h.cop
theorem hv_top {x : Nat × Nat} (h : Plc x) {k j : Nat} (hj : j < 2 ^ k) : x.1 + j * x.2 < 2 ^ k * x.2 := by
  have : (j + 1) * x.2 ≤ 2 ^ k * x.2 := Nat.mul_le_mul_right _ hj
  have := h.lt
  rw [Nat.add_mul, Nat.one_mul] at *
  omega
theorem hv_plc {x : Nat × Nat} (h : Plc x) {m n k j : Nat} (hn : 1 ≤ n) (hmn : m + k + n ≤ 24) (hd : x.2 ∣ 2 ^ m * (2 ^ n - 1)) (hj : j < 2 ^ k) : Plc (hvN x k j) := by
  have hp := h.pos
  have hq : 0 < 2 ^ k * x.2 := Nat.mul_pos (two_pow_pos k) hp
  refine ⟨red_lt (hv_top h hj), red_coprime hq, m + k, n, hn, by omega, ?_⟩
  refine Nat.dvd_trans red_dvd ?_
  rw [Nat.pow_add, Nat.mul_comm (2 ^ m), Nat.mul_assoc]
  exact Nat.mul_dvd_mul_left _ hd
theorem red_half (p q : Nat) (hq : 0 < q) (c : Nat) : red ((red p q).1 + c * (red p q).2) (2 * (red p q).2) = red (p + c * q) (2 * q) := by
  have hc := red_cross (p := p) (q := q)
  have h0 := red_pos (p := p) hq
  refine red_eq (by omega) (by omega) ?_
  generalize red p q = r at *
  grind
theorem hv_low {x : Nat × Nat} (h : Plc x) (k j : Nat) : red (hvN x k j).1 (2 * (hvN x k j).2) = hvN x (k + 1) j := by
  have hq : 0 < 2 ^ k * x.2 := Nat.mul_pos (two_pow_pos k) h.pos
  have := red_half (x.1 + j * x.2) (2 ^ k * x.2) hq 0
  rw [Nat.zero_mul, Nat.zero_mul, Nat.add_zero, Nat.add_zero] at this
  show red (red _ _).1 _ = _
  unfold hvN
  rw [this, Nat.pow_succ]
  congr 1
  rw [Nat.mul_comm (2 ^ k) 2, Nat.mul_assoc]
theorem hv_high {x : Nat × Nat} (h : Plc x) (k j : Nat) : red ((hvN x k j).1 + (hvN x k j).2) (2 * (hvN x k j).2) = hvN x (k + 1) (j + 2 ^ k) := by
  have hq : 0 < 2 ^ k * x.2 := Nat.mul_pos (two_pow_pos k) h.pos
  have := red_half (x.1 + j * x.2) (2 ^ k * x.2) hq 1
  rw [Nat.one_mul, Nat.one_mul] at this
  unfold hvN
  rw [this, Nat.pow_succ]
  congr 1
  · rw [Nat.add_mul, Nat.add_assoc]
  · rw [Nat.mul_comm (2 ^ k) 2, Nat.mul_assoc]
/-- the numbers of the rows, in their turn -/
def jsN : Nat → List Nat
  | 0 => [0]
  | k + 1 => (jsN k).flatMap fun j => [j, j + 2 ^ k]
theorem js_len (k : Nat) : (jsN k).length = 2 ^ k := by
  induction k with
  | zero => rfl
  | succ k ih =>
    have : ∀ l : List Nat, (l.flatMap fun j => [j, j + 2 ^ k]).length = 2 * l.length := by
      intro l
      induction l with
      | nil => rfl
      | cons a r ih => rw [List.flatMap_cons, List.length_append, ih]; simp; omega
    rw [jsN, this, ih, Nat.pow_succ]; omega
theorem js_mem (k j : Nat) : j ∈ jsN k ↔ j < 2 ^ k := by
  induction k generalizing j with
  | zero => simp [jsN]
  | succ k ih =>
    rw [jsN, List.mem_flatMap, Nat.pow_succ]
    constructor
    · rintro ⟨i, hi, hj⟩
      have := (ih i).mp hi
      simp at hj
      omega
    · intro h
      by_cases z : j < 2 ^ k
      · exact ⟨j, (ih j).mpr z, by simp⟩
      · exact ⟨j - 2 ^ k, (ih _).mpr (by omega), by simp; omega⟩
/-- the places (x + j) / 2 ^ k by size -/
def dueN (x : Nat × Nat) (k : Nat) : List (Nat × Nat) := (List.range (2 ^ k)).map (hvN x k)
theorem hv_sz {x : Nat × Nat} (h : Plc x) {k j : Nat} (hy : Plc (hvN x k j)) : sz (hvN x k j) * (2 ^ k * x.2) = (x.1 + j * x.2) * CN := by
  have hq : 0 < 2 ^ k * x.2 := Nat.mul_pos (two_pow_pos k) h.pos
  have h1 := sz_mul hy
  have h2 := red_cross (p := x.1 + j * x.2) (q := 2 ^ k * x.2)
  have h0 := hy.pos
  change (hvN x k j).1 * _ = _ * (hvN x k j).2 at h2
  have : sz (hvN x k j) * (2 ^ k * x.2) * (hvN x k j).2 = (x.1 + j * x.2) * CN * (hvN x k j).2 := by
    generalize hvN x k j = y at *
    generalize 2 ^ k * x.2 = B at *
    generalize x.1 + j * x.2 = A at *
    calc sz y * B * y.2 = sz y * y.2 * B := by grind
      _ = y.1 * CN * B := by rw [h1]
      _ = y.1 * B * CN := by grind
      _ = A * y.2 * CN := by rw [h2]
      _ = A * CN * y.2 := by grind
  exact Nat.eq_of_mul_eq_mul_right h0 this
theorem hv_less {x : Nat × Nat} (h : Plc x) {k i j : Nat} (hi : Plc (hvN x k i)) (hj : Plc (hvN x k j)) (hij : i < j) : sz (hvN x k i) < sz (hvN x k j) := by
  have hq : 0 < 2 ^ k * x.2 := Nat.mul_pos (two_pow_pos k) h.pos
  have e1 := hv_sz h hi
  have e2 := hv_sz h hj
  have hlt : (x.1 + i * x.2) * CN < (x.1 + j * x.2) * CN := by
    refine Nat.mul_lt_mul_of_pos_right ?_ CN_pos
    have := Nat.mul_lt_mul_of_pos_right hij h.pos
    omega
  rw [← e1, ← e2] at hlt
  exact Nat.lt_of_mul_lt_mul_right hlt
/-- two lists that ascend and have the same places are one -/
theorem asc_unique : ∀ {xs ys : List (Nat × Nat)}, xs.Pairwise (fun x y => sz x < sz y) → ys.Pairwise (fun x y => sz x < sz y) → (∀ x, x ∈ xs ↔ x ∈ ys) → xs = ys := by
  intro xs
  induction xs with
  | nil =>
    intro ys _ _ h
    cases ys with
    | nil => rfl
    | cons y ys => exact absurd ((h y).mpr List.mem_cons_self) (by simp)
  | cons x xs ih =>
    intro ys h1 h2 h
    cases ys with
    | nil => exact absurd ((h x).mp List.mem_cons_self) (by simp)
    | cons y ys =>
      cases h1 with
      | cons a1 b1 => cases h2 with
        | cons a2 b2 =>
          have hxy : x = y := by
            rcases List.mem_cons.mp ((h x).mp List.mem_cons_self) with e | hx
            · exact e
            · rcases List.mem_cons.mp ((h y).mpr List.mem_cons_self) with e | hy
              · exact e.symm
              · have := a2 x hx; have := a1 y hy; omega
          subst hxy
          congr 1
          refine ih b1 b2 fun z => ?_
          constructor
          · intro hz
            rcases List.mem_cons.mp ((h z).mp (List.mem_cons_of_mem _ hz)) with e | h'
            · have := a1 z hz; rw [e] at this; omega
            · exact h'
          · intro hz
            rcases List.mem_cons.mp ((h z).mpr (List.mem_cons_of_mem _ hz)) with e | h'
            · have := a2 z hz; rw [e] at this; omega
            · exact h'
theorem due_asc {x : Nat × Nat} (h : Plc x) {k : Nat} (hy : ∀ j, j < 2 ^ k → Plc (hvN x k j)) : (dueN x k).Pairwise fun x y => sz x < sz y := by
  unfold dueN
  rw [List.pairwise_map]
  refine List.Pairwise.imp_of_mem ?_ (List.pairwise_lt_range (n := 2 ^ k))
  intro i j hi hj hij
  exact hv_less h (hy i (List.mem_range.mp hi)) (hy j (List.mem_range.mp hj)) hij
theorem due_mem {x : Nat × Nat} {k : Nat} {y : Nat × Nat} : y ∈ dueN x k ↔ ∃ j, j < 2 ^ k ∧ hvN x k j = y := by
  unfold dueN
  rw [List.mem_map]
  constructor
  · rintro ⟨j, hj, e⟩; exact ⟨j, List.mem_range.mp hj, e⟩
  · rintro ⟨j, hj, e⟩; exact ⟨j, List.mem_range.mpr hj, e⟩
/-- doubled so many times, it is x -/
theorem dbl_hv {x : Nat × Nat} (h : Plc x) {k j : Nat} (hy : Plc (hvN x (k + 1) j)) : dblN (hvN x (k + 1) j) = hvN x k (j % 2 ^ k) := by
  have hp := h.pos
  have hq : 0 < 2 ^ k * x.2 := Nat.mul_pos (two_pow_pos k) hp
  have hq1 : 0 < 2 ^ (k + 1) * x.2 := Nat.mul_pos (two_pow_pos _) hp
  have hl : x.1 + j * x.2 < 2 ^ (k + 1) * x.2 := by
    have := hy.lt
    have hc := red_cross (p := x.1 + j * x.2) (q := 2 ^ (k + 1) * x.2)
    have h0 := hy.pos
    change (hvN x (k + 1) j).1 * _ = _ * (hvN x (k + 1) j).2 at hc
    have h3 : (hvN x (k + 1) j).1 * (2 ^ (k + 1) * x.2) < (hvN x (k + 1) j).2 * (2 ^ (k + 1) * x.2) := Nat.mul_lt_mul_of_pos_right this hq1
    rw [hc, Nat.mul_comm] at h3
    exact Nat.lt_of_mul_lt_mul_left h3
  rw [dbl_red hy]
  unfold hvN
  rw [red_mod2 hq1 hl]
  have e1 : 2 ^ (k + 1) * x.2 = 2 * (2 ^ k * x.2) := by rw [Nat.pow_succ, Nat.mul_comm (2 ^ k) 2, Nat.mul_assoc]
  rw [e1, Nat.mul_mod_mul_left]
  have e2 : (x.1 + j * x.2) % (2 ^ k * x.2) = x.1 + j % 2 ^ k * x.2 := by
    have hm := Nat.mod_lt j (two_pow_pos k)
    have hd := Nat.div_add_mod j (2 ^ k)
    have : x.1 + j * x.2 = (x.1 + j % 2 ^ k * x.2) + (2 ^ k * x.2) * (j / 2 ^ k) := by
      conv => lhs; rw [← hd]
      grind
    rw [this, Nat.add_mul_mod_self_left, Nat.mod_eq_of_lt (hv_top h hm)]
  rw [e2]
  refine red_eq (by omega) hq ?_
  grind
theorem it_hv {x : Nat × Nat} (h : Plc x) : ∀ (k j : Nat), (∀ i, i ≤ k → ∀ j, j < 2 ^ i → Plc (hvN x i j)) → j < 2 ^ k → itN k (hvN x k j) = x := by
  intro k
  induction k with
  | zero =>
    intro j _ hj
    have : j = 0 := by simpa using hj
    subst this
    exact hv_zero h
  | succ k ih =>
    intro j hy hj
    show itN k (dblN (hvN x (k + 1) j)) = x
    rw [dbl_hv h (hy (k + 1) (Nat.le_refl _) j hj)]
    exact ih _ (fun i hi => hy i (by omega)) (Nat.mod_lt _ (two_pow_pos k))
theorem it_ways {x : Nat × Nat} (h : Plc x) (k : Nat) : wayN (itN k x) = wayN x - k ∧ perN (itN k x) = perN x := by
  induction k with
  | zero => exact ⟨rfl, rfl⟩
  | succ k ih =>
    rw [itN_succ]
    have := dbl_ways (it_plc h k)
    rw [ih.1, ih.2] at this
    exact ⟨by rw [this.1]; omega, this.2⟩
/-! ### texts of digits ahead -/
def hdsN : Nat → List (List Nat)
  | 0 => [[]]
  | k + 1 => (hdsN k).map (48 :: ·) ++ (hdsN k).map (49 :: ·)
theorem hds_len (k : Nat) : (hdsN k).length = 2 ^ k ∧ ∀ t ∈ hdsN k, t.length = k ∧ Dg t := by
  induction k with
  | zero => exact ⟨rfl, fun t ht => by simp [hdsN] at ht; subst ht; exact ⟨rfl, dg_nil⟩⟩
  | succ k ih =>
    constructor
    · rw [hdsN, List.length_append, List.length_map, List.length_map, ih.1, Nat.pow_succ]; omega
    · intro t ht
      rw [hdsN, List.mem_append, List.mem_map, List.mem_map] at ht
      have go : ∀ c, (c = 48 ∨ c = 49) → ∀ s, s ∈ hdsN k → (c :: s).length = k + 1 ∧ Dg (c :: s) := by
        intro c hc s hs
        have := ih.2 s hs
        refine ⟨by simp [this.1], fun d hd => ?_⟩
        rcases List.mem_cons.mp hd with rfl | hd
        · exact hc
        · exact this.2 d hd
      rcases ht with ⟨s, hs, rfl⟩ | ⟨s, hs, rfl⟩
      · exact go 48 (.inl rfl) s hs
      · exact go 49 (.inr rfl) s hs
theorem hds_bv (k : Nat) : (hdsN k).map bv = List.range (2 ^ k) := by
  induction k with
  | zero => rfl
  | succ k ih =>
    have hl := hds_len k
    rw [hdsN, List.map_append, List.map_map, List.map_map]
    have e1 : (hdsN k).map (bv ∘ (48 :: ·)) = (hdsN k).map bv := by
      apply List.map_congr_left
      intro t _
      show bv (48 :: t) = bv t
      rw [bv_cons]; simp
    have e2 : (hdsN k).map (bv ∘ (49 :: ·)) = ((hdsN k).map bv).map (2 ^ k + ·) := by
      rw [List.map_map]
      apply List.map_congr_left
      intro t ht
      show bv (49 :: t) = 2 ^ k + bv t
      rw [bv_cons, (hl.2 t ht).1]; simp
    rw [e1, e2, ih, Nat.pow_succ, show 2 ^ k * 2 = 2 ^ k + 2 ^ k by omega]
    exact List.range_add.symm
theorem bv_app (a b : List Nat) : bv (a ++ b) = bv a * 2 ^ b.length + bv b := by
  induction a with
  | nil => simp [bv]
  | cons c a ih =>
    rw [List.cons_append, bv_cons, ih, bv_cons, List.length_append, Nat.pow_add]
    grind
theorem bin_ahead {x : Nat × Nat} (hx : Plc x) {h c t : List Nat} (dt : Dg t) (dh : Dg h) (dc : Dg c) (hc : c ≠ []) (e : binN h c = x) (hlt : bv h * (2 ^ c.length - 1) + bv c < botN h c) : binN (t ++ h) c = hvN x t.length (bv t) := by
  have hB := botN_pos (h := h) hc
  have hB2 := botN_pos (h := t ++ h) hc
  have hp := hx.pos
  have eB : botN (t ++ h) c = 2 ^ t.length * botN h c := by
    unfold botN
    rw [List.length_append, Nat.pow_add, Nat.mul_assoc]
  have hx2 : x.1 * botN h c = (bv h * (2 ^ c.length - 1) + bv c) * x.2 := by
    have := red_cross (p := (bv h * (2 ^ c.length - 1) + bv c) % botN h c) (q := botN h c)
    rw [Nat.mod_eq_of_lt hlt] at this
    unfold binN at e
    rw [Nat.mod_eq_of_lt hlt] at e
    rw [e] at this
    exact this
  have b1 := bv_lt t dt
  have etop : bv (t ++ h) * (2 ^ c.length - 1) + bv c = bv t * botN h c + (bv h * (2 ^ c.length - 1) + bv c) := by
    rw [bv_app]
    unfold botN
    generalize 2 ^ c.length - 1 = W
    grind
  have hlt2 : bv t * botN h c + (bv h * (2 ^ c.length - 1) + bv c) < 2 ^ t.length * botN h c := by
    have : (bv t + 1) * botN h c ≤ 2 ^ t.length * botN h c := Nat.mul_le_mul_right _ b1
    rw [Nat.add_mul, Nat.one_mul] at this
    omega
  unfold binN hvN
  rw [etop, eB, Nat.mod_eq_of_lt hlt2]
  have hq : 0 < 2 ^ t.length * x.2 := Nat.mul_pos (two_pow_pos _) hp
  refine red_eq (by rw [← eB]; exact hB2) hq ?_
  generalize bv h * (2 ^ c.length - 1) + bv c = N at *
  generalize botN h c = B at *
  generalize 2 ^ t.length = T at *
  calc (bv t * B + N) * (T * x.2) = T * (bv t * B * x.2 + N * x.2) := by grind
    _ = T * (bv t * B * x.2 + x.1 * B) := by rw [hx2]
    _ = (x.1 + bv t * x.2) * (T * B) := by grind
/-- the digits of a place lie below the whole -/
theorem dig_below {x : Nat × Nat} (h : Plc x) : bv (frontL x) * (2 ^ (backL x).length - 1) + bv (backL x) < botN (frontL x) (backL x) := by
  have hp := h.pos
  have w := ways h
  have hw1 := w.n1
  have e1 := digs_val h 0 (wayN x)
  have e2 := digs_val h (wayN x) (perN x)
  rw [← digL_take, Nat.zero_add] at e1
  rw [← digL_drop] at e2
  have a0 : aN x 0 = x.1 := by unfold aN; rw [Nat.pow_zero, Nat.one_mul, Nat.mod_eq_of_lt h.lt]
  have ab : aN x (wayN x + perN x) = aN x (wayN x) := by
    have := w.back
    rw [it_aN h, it_aN h] at this
    exact red_inj hp this
  rw [a0] at e1
  rw [ab] at e2
  have hw : 1 ≤ 2 ^ perN x := two_pow_pos _
  have hB : 0 < 2 ^ wayN x * (2 ^ perN x - 1) := bot_pos hw1
  unfold botN
  rw [front_len, back_len]
  have e3 : bv (backL x) * x.2 = (2 ^ perN x - 1) * aN x (wayN x) := by
    rw [Nat.sub_mul, Nat.one_mul, ← e2]
    unfold backL
    omega
  have e4 : bv (frontL x) * x.2 + aN x (wayN x) = 2 ^ wayN x * x.1 := e1
  have : (bv (frontL x) * (2 ^ perN x - 1) + bv (backL x)) * x.2 < 2 ^ wayN x * (2 ^ perN x - 1) * x.2 := by
    have key : (bv (frontL x) * (2 ^ perN x - 1) + bv (backL x)) * x.2 = x.1 * (2 ^ wayN x * (2 ^ perN x - 1)) := by
      rw [Nat.add_mul, e3]
      generalize 2 ^ perN x - 1 = W at *
      generalize bv (frontL x) = f at *
      generalize aN x (wayN x) = A at *
      calc f * W * x.2 + W * A = W * (f * x.2 + A) := by grind
        _ = W * (2 ^ wayN x * x.1) := by rw [e4]
        _ = x.1 * (2 ^ wayN x * W) := by grind
    rw [key, Nat.mul_comm x.1]
    exact Nat.mul_lt_mul_of_pos_left h.lt hB
  exact Nat.lt_of_mul_lt_mul_right this
/-! ### mirrored -/
theorem mir_hv {x : Nat × Nat} (h : Plc x) {k j : Nat} (hj : j < 2 ^ k) : mirN (hvN x k j) = hvN (mirN x) k (if x.1 = 0 then (2 ^ k - j) % 2 ^ k else 2 ^ k - 1 - j) := by
  have hp := h.pos
  have hq : 0 < 2 ^ k * x.2 := Nat.mul_pos (two_pow_pos k) hp
  have ht := hv_top h hj
  have e := red_mirN hq (Nat.le_of_lt ht)
  rw [Nat.mod_eq_of_lt ht] at e
  unfold hvN
  rw [← e]
  show red _ _ = red ((if x.1 = 0 then 0 else x.2 - x.1) + (if x.1 = 0 then (2 ^ k - j) % 2 ^ k else 2 ^ k - 1 - j) * x.2) (2 ^ k * x.2)
  congr 1
  have hl := h.lt
  by_cases z : x.1 = 0
  · rw [if_pos z, if_pos z, z, Nat.zero_add, Nat.zero_add]
    rw [← Nat.sub_mul, Nat.mul_mod_mul_right]
  · rw [if_neg z, if_neg z, Nat.mod_eq_of_lt (by omega)]
    have : 2 ^ k * x.2 = (j + 1) * x.2 + (2 ^ k - 1 - j) * x.2 := by rw [← Nat.add_mul]; congr 1; omega
    rw [this, Nat.add_mul, Nat.one_mul]
    omega
theorem mir_due {x : Nat × Nat} (h : Plc x) (k : Nat) (y : Nat × Nat) : y ∈ (dueN x k).map mirN ↔ y ∈ dueN (mirN x) k := by
  have hp2 := two_pow_pos k
  rw [List.mem_map, due_mem]
  constructor
  · rintro ⟨z, hz, rfl⟩
    obtain ⟨j, hj, rfl⟩ := due_mem.mp hz
    refine ⟨_, ?_, (mir_hv h hj).symm⟩
    split
    · exact Nat.mod_lt _ hp2
    · omega
  · rintro ⟨j, hj, rfl⟩
    by_cases z : x.1 = 0
    · refine ⟨hvN x k ((2 ^ k - j) % 2 ^ k), due_mem.mpr ⟨_, Nat.mod_lt _ hp2, rfl⟩, ?_⟩
      rw [mir_hv h (Nat.mod_lt _ hp2), if_pos z]
      congr 1
      by_cases j0 : j = 0
      · subst j0; rw [Nat.sub_zero, Nat.mod_self, Nat.sub_zero, Nat.mod_self]
      · rw [Nat.mod_eq_of_lt (show 2 ^ k - j < 2 ^ k by omega), Nat.mod_eq_of_lt (by omega)]
        omega
    · refine ⟨hvN x k (2 ^ k - 1 - j), due_mem.mpr ⟨_, by omega, rfl⟩, ?_⟩
      rw [mir_hv h (by omega), if_neg z]
      congr 1
      omega
/-! ### readings -/
section
variable {K : PySem.W.Frag} {σ : L2.St} {H H1 : Hp} {Q : VK} {v x y : V} {ds : List PyData} {j : Nat} {vs : List Nat} {tt : TT} {te : TE}
theorem w_extend {l b : Addr} {xs zs : List V} (h : H l = some (.lst xs)) (h' : H b = some (.lst zs)) (hz : xs.length + zs.length ≤ 1000000) (q : Q .non (upd H l (.lst (xs ++ zs)))) : rExtend (.ref l) [.ref b] H Q :=
  ⟨l, b, xs, zs, rfl, rfl, h, h', by rw [sizeLine_eq]; omega, q⟩
theorem w_lstT (h : Dp K H v (.tuple ds)) (q : ∀ p H' xs, H p = none → Same H H' → H' p = some (.lst xs) → DpAll K H' xs ds → Q (.ref p) H') : rLstOf K [v] H Q := by
  obtain ⟨a, xs, rfl, hs, ha⟩ := dp_tup h
  exact ⟨a, xs, rfl, .inr hs, fun l hl => q l _ xs hl (same_new hl) upd_same (dpa_same (same_new hl) ha)⟩
/-- as lc_list_by, with the values and their data at the end -/
theorem lc_list_byA (J : Nat → List PyData → Hp → Prop) (lj : LcJ H1 J) (src : Dp K H1 x (.list ds)) (hz : ds.length ≤ 1000000) (hw : ∀ x, wipe ((wipe σ vs).set j (some x)) vs = wipe σ vs)
    (turn : ∀ i d y H' es, ds[i]? = some d → Dp K H' y d → J i es H' → LcTurn K J tt te ((wipe σ vs).set j (some y)) i es H')
    (done : ∀ p H' ws es, H1 p = none → Keep H1 H' → H' p = some (.lst ws) → DpAll K H' ws es → J ds.length es H' → Q (.ref p) H') : rLcL K j tt te vs σ x H1 Q := by
  obtain ⟨a, xs, rfl, hs, ha⟩ := dp_lst src
  have hl := dpa_len ha
  refine ⟨a, rfl, ⟨xs, hs⟩, fun D hD => lc_list (xs := xs) (LcP K J D) ⟨[], [], upd_same, .nil, rfl, Nat.le_refl _, lj.start D hD⟩ (fun i H' _ p => ?_) (fun i y H' hi p => ⟨hw y, lc_turn lj hD ?_ p fun es q => ?_⟩) fun H' p => ?_⟩
  · obtain ⟨ws, es, p1, p2, p3, p4, p5⟩ := p
    exact (lj.keep _ _ _ p5).seqL hs
  · have := (List.getElem?_eq_some_iff.mp hi).1; omega
  · obtain ⟨d, e1, e2⟩ := dpa_get2 ha hi
    exact turn i d y H' es e1 (dp_keep (lj.keep _ _ _ q) e2) q
  · obtain ⟨ws, es, p1, p2, p3, p4, p5⟩ := p
    rw [hl] at p5
    exact done D H' ws es hD (lj.keep _ _ _ p5) p1 p2 p5
theorem noLs_pd (l : List (Nat × Nat)) : noLs (l.map pd) = true := by
  induction l with
  | nil => rfl
  | cons u r ih => simp only [List.map_cons, noLs, pd_noL, Bool.true_and]; exact ih
theorem pln_pds (l : List (Nat × Nat)) : pln 9 (.list (l.map pd)) = true := pln_list fun z hz => by
  obtain ⟨u, _, rfl⟩ := List.mem_map.mp hz
  exact pd_pln _
/-- a list walked while other objects change: what keeps it is said by the invariant -/
theorem forL_byB {σ : L2.St} {D : Ends} {g : TG} {tb : TS} {a : Addr} {xs : List V} {ds : List PyData} (Pv : Nat → L2.St → Hp → Prop) (h0 : Pv 0 σ H) (hl : xs.length = ds.length)
    (hk : ∀ i σ' H', i ≤ ds.length → Pv i σ' H' → H' a = some (.lst xs) ∧ DpAll K H' xs ds)
    (hs : ∀ i d y σ' H', ds[i]? = some d → Dp K H' y d → Pv i σ' H' → g y σ' H' fun σ2 H2 => tb { D with nx := Pv (i + 1), ct := Pv (i + 1), bk := D.nx } σ2 H2) (hd : ∀ σ' H', Pv ds.length σ' H' → D.nx σ' H') : rForL K g tb D σ (.ref a) H := by
  refine ⟨a, rfl, ⟨xs, .of (hk 0 _ _ (Nat.zero_le _) h0).1⟩, for_list (xs := xs) Pv h0 (fun i σ' H' hi p => .of (hk i σ' H' (by omega) p).1) (fun i y σ' H' hi p => ?_) (fun σ' H' p => hd σ' H' (by rw [← hl]; exact p))⟩
  have hlt := (List.getElem?_eq_some_iff.mp hi).1
  obtain ⟨d, e1, e2⟩ := dpa_get2 (hk i σ' H' (by omega) p).2 hi
  exact hs i d y σ' H' e1 e2 p
end
end Tw
namespace Tw
open PySem PySem.Spec PyProof.Rows L2
/-! ### sums along a way, round a ring -/
section
variable {α : Type}
def pathG (g : α → α → Nat) : α → List α → Nat
  | _, [] => 0
  | p, q :: r => g p q + pathG g q r
def cyc (g : α → α → Nat) : List α → Nat
  | [] => 0
  | a :: r => pathG g a (r ++ [a])
theorem path_snoc (g : α → α → Nat) (p : α) (r : List α) (x y : α) : pathG g p (r ++ [x] ++ [y]) = pathG g p (r ++ [x]) + g x y := by
  induction r generalizing p with
  | nil => simp [pathG]
  | cons q r ih =>
    show g p q + pathG g q (r ++ [x] ++ [y]) = g p q + pathG g q (r ++ [x]) + g x y
    rw [ih]; omega
theorem path_app (g : α → α → Nat) (p : α) (r : List α) (q : α) (s : List α) : pathG g p (r ++ q :: s) = pathG g p (r ++ [q]) + pathG g q s := by
  induction r generalizing p with
  | nil => simp [pathG]
  | cons a r ih =>
    show g p a + pathG g a (r ++ q :: s) = g p a + pathG g a (r ++ [q]) + pathG g q s
    rw [ih]; omega
theorem cyc_rot (g : α → α → Nat) (a : α) (r : List α) : cyc g (r ++ [a]) = cyc g (a :: r) := by
  cases r with
  | nil => rfl
  | cons b r =>
    show pathG g b (r ++ [a] ++ [b]) = g a b + pathG g b (r ++ [a])
    rw [path_snoc]; omega
theorem cyc_turn (g : α → α → Nat) (u v : List α) : cyc g (v ++ u) = cyc g (u ++ v) := by
  induction u generalizing v with
  | nil => simp
  | cons a u ih =>
    have := ih (v ++ [a])
    rw [List.append_assoc, List.singleton_append] at this
    rw [this, ← List.append_assoc, List.cons_append, cyc_rot]
theorem path_rev (g : α → α → Nat) (a b : α) (r : List α) : pathG g b (r.reverse ++ [a]) = pathG (fun x y => g y x) a (r ++ [b]) := by
  induction r generalizing a with
  | nil => rfl
  | cons c r ih =>
    rw [List.reverse_cons, path_snoc, ih]
    show _ = g c a + pathG (fun x y => g y x) c (r ++ [b])
    omega
theorem cyc_rev (g : α → α → Nat) (l : List α) : cyc g l.reverse = cyc (fun x y => g y x) l := by
  cases l with
  | nil => rfl
  | cons a r =>
    rw [List.reverse_cons, cyc_rot]
    exact path_rev g a a r
theorem path_map {β : Type} (f : β → α) (g : α → α → Nat) (p : β) (r : List β) : pathG g (f p) (r.map f) = pathG (fun x y => g (f x) (f y)) p r := by
  induction r generalizing p with
  | nil => rfl
  | cons q r ih => show g (f p) (f q) + _ = _; rw [ih]; rfl
theorem cyc_map {β : Type} (f : β → α) (g : α → α → Nat) (l : List β) : cyc g (l.map f) = cyc (fun x y => g (f x) (f y)) l := by
  cases l with
  | nil => rfl
  | cons a r =>
    show pathG g (f a) (r.map f ++ [f a]) = _
    rw [show r.map f ++ [f a] = (r ++ [a]).map f by simp, path_map]
    rfl
theorem path_congr {g h : α → α → Nat} {p : α} {r : List α} (e : ∀ x ∈ p :: r, ∀ y ∈ p :: r, g x y = h x y) : pathG g p r = pathG h p r := by
  induction r generalizing p with
  | nil => rfl
  | cons q r ih =>
    show g p q + _ = h p q + _
    rw [e p List.mem_cons_self q (by simp), ih fun x hx y hy => e x (List.mem_cons_of_mem _ hx) y (List.mem_cons_of_mem _ hy)]
theorem cyc_congr {g h : α → α → Nat} {l : List α} (e : ∀ x ∈ l, ∀ y ∈ l, g x y = h x y) : cyc g l = cyc h l := by
  cases l with
  | nil => rfl
  | cons a r =>
    refine path_congr fun x hx y hy => e x ?_ y ?_
    · simp at hx ⊢; rcases hx with h | h | h <;> simp [h]
    · simp at hy ⊢; rcases hy with h | h | h <;> simp [h]
/-- w is c times g, round the ring -/
theorem path_scale {w g : α → α → Nat} {f : α → Nat} {c : Nat} {p : α} {r : List α} {z : α} (e : ∀ x ∈ p :: r ++ [z], ∀ y ∈ p :: r ++ [z], w x y + f x = f y + c * g x y) : pathG w p (r ++ [z]) + f p = f z + c * pathG g p (r ++ [z]) := by
  induction r generalizing p with
  | nil =>
    show w p z + 0 + f p = f z + c * (g p z + 0)
    have := e p (by simp) z (by simp)
    simp; omega
  | cons q r ih =>
    show w p q + pathG w q (r ++ [z]) + f p = f z + c * (g p q + pathG g q (r ++ [z]))
    have h1 := e p (by simp) q (by simp)
    have h2 := ih (p := q) fun x hx y hy => e x (List.mem_cons_of_mem _ hx) y (List.mem_cons_of_mem _ hy)
    rw [Nat.mul_add]
    omega
theorem cyc_scale {w g : α → α → Nat} {f : α → Nat} {c : Nat} {l : List α} (e : ∀ x ∈ l, ∀ y ∈ l, w x y + f x = f y + c * g x y) : cyc w l = c * cyc g l := by
  cases l with
  | nil => simp [cyc]
  | cons a r =>
    have := path_scale (w := w) (g := g) (f := f) (c := c) (p := a) (r := r) (z := a) fun x hx y hy => e x (by simp at hx ⊢; rcases hx with h | h | h <;> simp [h]) y (by simp at hy ⊢; rcases hy with h | h | h <;> simp [h])
    show pathG w a (r ++ [a]) = c * pathG g a (r ++ [a])
    omega
end
/-! ### falls -/
def fall (a b : Nat) : Nat := if b < a then 1 else 0
theorem path_fall_zero {p : Nat} {r : List Nat} (h : pathG fall p r = 0) (hn : (p :: r).Nodup) : (p :: r).Pairwise (· < ·) := by
  induction r generalizing p with
  | nil => simp
  | cons q r ih =>
    have h1 : fall p q = 0 := by have : fall p q + pathG fall q r = 0 := h; omega
    have h2 : pathG fall q r = 0 := by have : fall p q + pathG fall q r = 0 := h; omega
    have hpq : p < q := by
      unfold fall at h1
      have hne : p ≠ q := fun z => by subst z; simp at hn
      split at h1
      · omega
      · omega
    have hq := ih h2 (List.nodup_cons.mp hn).2
    refine List.Pairwise.cons (fun x hx => ?_) hq
    rcases List.mem_cons.mp hx with rfl | hx
    · exact hpq
    · have := (List.pairwise_cons.mp hq).1 x hx
      omega
theorem asc_fall {p : Nat} {r : List Nat} (h : (p :: r).Pairwise (· < ·)) : pathG fall p r = 0 := by
  induction r generalizing p with
  | nil => rfl
  | cons q r ih =>
    have h1 := (List.pairwise_cons.mp h)
    have := h1.1 q List.mem_cons_self
    show fall p q + pathG fall q r = 0
    rw [ih h1.2]
    unfold fall
    rw [if_neg (by omega)]
theorem asc_nodup {l : List Nat} (h : l.Pairwise (· < ·)) : l.Nodup := h.imp fun hab => by omega
theorem asc_cyc {l : List Nat} (h : l.Pairwise (· < ·)) : cyc fall l ≤ 1 := by
  cases l with
  | nil => simp [cyc]
  | cons a r =>
    show pathG fall a (r ++ [a]) ≤ 1
    rcases List.eq_nil_or_concat r with rfl | ⟨r, x, rfl⟩
    · show fall a a + 0 ≤ 1
      unfold fall
      rw [if_neg (by omega)]
      omega
    · rw [List.concat_eq_append] at h ⊢
      rw [path_snoc, asc_fall h]
      unfold fall
      split <;> omega
/-- where a way falls -/
theorem fall_at {p : Nat} {r : List Nat} (h : pathG fall p r ≠ 0) : ∃ u x y v, p :: r = u ++ x :: y :: v ∧ fall x y = 1 := by
  induction r generalizing p with
  | nil => exact absurd rfl h
  | cons q r ih =>
    by_cases h1 : fall p q = 1
    · exact ⟨[], p, q, r, rfl, h1⟩
    · have h0 : fall p q = 0 := by unfold fall at h1 ⊢; split at h1 <;> simp_all
      have h2 : pathG fall q r ≠ 0 := fun z => h (show fall p q + pathG fall q r = 0 by omega)
      obtain ⟨u, x, y, v, e, f⟩ := ih h2
      exact ⟨p :: u, x, y, v, by rw [e]; rfl, f⟩
/-- a ring ascends from some beginning exactly if it has no two equal numbers and falls at most once -/
theorem turn_asc (l : List Nat) : (∃ k, k < l.length ∧ (l.drop k ++ l.take k).Pairwise (· < ·)) ↔ (l ≠ [] ∧ l.Nodup ∧ cyc fall l ≤ 1) := by
  constructor
  · rintro ⟨k, hk, h⟩
    refine ⟨fun z => by subst z; simp at hk, ?_, ?_⟩
    · have := asc_nodup h
      have hp : (l.drop k ++ l.take k).Perm (l.take k ++ l.drop k) := List.perm_append_comm
      rw [List.take_append_drop] at hp
      exact hp.nodup_iff.mp this
    · have := asc_cyc h
      rw [cyc_turn, List.take_append_drop] at this
      exact this
  · rintro ⟨hne, hn, hc⟩
    obtain ⟨a, r, rfl⟩ := List.exists_cons_of_ne_nil hne
    by_cases hz : pathG fall a r = 0
    · exact ⟨0, by simp, by simpa using path_fall_zero hz hn⟩
    · obtain ⟨u, x, y, v, e, f⟩ := fall_at hz
      have hturn : cyc fall (y :: v ++ (u ++ [x])) = cyc fall (a :: r) := by
        rw [cyc_turn, e]
        congr 1
        simp
      have hd : (a :: r).drop (u.length + 1) ++ (a :: r).take (u.length + 1) = y :: (v ++ (u ++ [x])) := by
        rw [e, show u ++ x :: y :: v = (u ++ [x]) ++ (y :: v) by simp, List.drop_left' (by simp), List.take_left' (by simp)]
        rfl
      refine ⟨u.length + 1, by rw [e]; simp, ?_⟩
      rw [hd]
      have hnd : (y :: (v ++ (u ++ [x]))).Nodup := by
        rw [← hd]
        have hp : ((a :: r).drop (u.length + 1) ++ (a :: r).take (u.length + 1)).Perm ((a :: r).take (u.length + 1) ++ (a :: r).drop (u.length + 1)) := List.perm_append_comm
        rw [List.take_append_drop] at hp
        exact hp.nodup_iff.mpr hn
      refine path_fall_zero ?_ hnd
      have h2 : cyc fall (y :: v ++ (u ++ [x])) = pathG fall y (v ++ (u ++ [x])) + fall x y := by
        show pathG fall y (v ++ (u ++ [x]) ++ [y]) = _
        rw [show v ++ (u ++ [x]) ++ [y] = (v ++ u) ++ [x] ++ [y] by simp, path_snoc]
        congr 2
        simp
      rw [hturn, f] at h2
      omega
/-! ### the number of falls, as the program counts it -/
theorem path_count (p : Nat) (r : List Nat) : ((List.range r.length).filter fun k => decide (r.getD k 0 < (p :: r).getD k 0)).length = pathG fall p r := by
  induction r generalizing p with
  | nil => rfl
  | cons q r ih =>
    rw [List.length_cons, List.range_succ_eq_map, List.filter_cons, List.filter_map, ]
    have e : ((List.range r.length).filter ((fun k => decide ((q :: r).getD k 0 < (p :: q :: r).getD k 0)) ∘ Nat.succ)) = (List.range r.length).filter fun k => decide (r.getD k 0 < (q :: r).getD k 0) := by
      congr 1
    rw [e]
    show _ = fall p q + pathG fall q r
    rw [← ih q]
    unfold fall
    by_cases h : q < p
    · rw [if_pos (by simpa using h), if_pos h]
      simp
      omega
    · rw [if_neg (by simpa using h), if_neg h]
      simp
def prevAt (s : List Nat) (k : Nat) : Nat := if k = 0 then s.getLastD 0 else s.getD (k - 1) 0
theorem fall_count (s : List Nat) : ((List.range s.length).filter fun k => decide (s.getD k 0 < prevAt s k)).length = cyc fall s := by
  cases s with
  | nil => rfl
  | cons a r =>
    rw [List.length_cons, List.range_succ_eq_map, List.filter_cons, List.filter_map]
    have e : ((List.range r.length).filter ((fun k => decide ((a :: r).getD k 0 < prevAt (a :: r) k)) ∘ Nat.succ)) = (List.range r.length).filter fun k => decide (r.getD k 0 < (a :: r).getD k 0) := by
      apply List.filter_congr
      intro k _
      simp [prevAt]
    rw [e]
    have hc : cyc fall (a :: r) = fall ((a :: r).getLastD 0) a + pathG fall a r := by
      show pathG fall a (r ++ [a]) = _
      rcases List.eq_nil_or_concat r with rfl | ⟨r, x, rfl⟩
      · show fall a a + 0 = fall a a + 0; rfl
      · rw [List.concat_eq_append]
        rw [path_snoc]
        have : (a :: (r ++ [x])).getLastD 0 = x := by
          rw [List.getLastD_eq_getLast?, ← List.cons_append, List.getLast?_concat]
          rfl
        rw [this]
        omega
    rw [hc, ← path_count]
    have h0 : prevAt (a :: r) 0 = (a :: r).getLastD 0 := rfl
    unfold fall
    by_cases h : a < (a :: r).getLastD 0
    · rw [if_pos (by rw [h0]; simpa using h), if_pos h]
      simp
      omega
    · rw [if_neg (by rw [h0]; simpa using h), if_neg h]
      simp
/-! ### how many different numbers -/
def dcount (ns : List Int) : Nat := (PyProof.Rows.firstMet (fun i => ns.getD i 0) ns.length).length
theorem met_nodup (ns : List Int) : ∀ i, i ≤ ns.length → (PyProof.Rows.firstMet (fun i => ns.getD i 0) i).length = i → (ns.take i).Nodup := by
  intro i
  induction i with
  | zero => intro _ _; simp
  | succ i ih =>
    intro hi h
    have hle := PyProof.Rows.firstMet_length_le (fun i => ns.getD i 0) i
    have hany := PyProof.Rows.firstMet_any (fun i => ns.getD i 0) i (ns.getD i 0)
    rw [PyProof.Rows.firstMet_succ] at h
    unfold PyProof.Rows.step_dedup at h
    split at h
    · omega
    · rename_i hn
      rw [hany] at hn
      rw [List.length_append, List.length_singleton] at h
      have h1 := ih (by omega) (by omega)
      rw [List.take_add_one, List.getElem?_eq_getElem (by omega)]
      have hmem : ns[i] ∉ ns.take i := fun hm => by
        apply hn
        rw [List.any_eq_true]
        obtain ⟨j, hj⟩ := List.getElem?_of_mem hm
        have hjl := (List.getElem?_eq_some_iff.mp hj).1
        rw [List.length_take] at hjl
        rw [List.getElem?_take] at hj
        refine ⟨ns.getD j 0, List.mem_map.mpr ⟨j, List.mem_range.mpr (by omega), rfl⟩, ?_⟩
        rw [beq_iff_eq, List.getD_eq_getElem?_getD, List.getD_eq_getElem?_getD, List.getElem?_eq_getElem (show i < ns.length by omega)]
        rw [if_pos (by omega)] at hj
        rw [hj]
      rw [List.nodup_append]
      refine ⟨h1, by simp, fun a ha b hb z => ?_⟩
      simp only [Option.toList, List.mem_singleton] at hb
      rw [z, hb] at ha
      exact hmem ha
theorem dcount_iff (ns : List Int) : dcount ns < ns.length ↔ ¬ ns.Nodup := by
  have hle := PyProof.Rows.firstMet_length_le (fun i => ns.getD i 0) ns.length
  unfold dcount
  constructor
  · intro h hn
    rw [firstMet_nodup ns hn ns.length (Nat.le_refl _), List.take_length] at h
    omega
  · intro h
    by_cases z : (PyProof.Rows.firstMet (fun i => ns.getD i 0) ns.length).length = ns.length
    · have := met_nodup ns ns.length (Nat.le_refl _) z
      rw [List.take_length] at this
      exact absurd this h
    · omega
def rLenSet (K : PySem.W.Frag) (x : V) (H : Hp) (Q : VK) : Prop := ∃ (l : Addr) (ns : List Int), x = .ref l ∧ SqL K H l (ns.map V.int) ∧ ns.length < 64 ∧ Q (.int (dcount ns : Nat)) H
def tLenSet2 (K : PySem.W.Frag) (ta : TE) : TE := fun σ H Q => ta σ H fun x H1 => rLenSet K x H1 Q
section
variable {X : Cx} {K : PySem.W.Frag}
theorem pe_lenSet2 {a : Expr} {ta : TE} {p p2 q pos : Pos} (calm : X.calm = true) (g1 : Gl X "len") (m1 : X.mg "len" = none) (g2 : Gl X "set") (m2 : X.mg "set" = none) (pa : PE X a ta) (hK : X.K = K := by rfl)
    (arg : starEach [a] X.env = (false, eval a X.env) :: starEach [] X.env := by rfl) : PE X (.Call (.Name "len" p) [.Call (.Name "set" p2) [a] [] q] [] pos) (tLenSet2 K ta) := by
  subst hK
  constructor
  intro pins s σ H Q J hyp
  apply Call_ (ld_blt J g1 m1 PySem.boot_len _)
  apply PyProof.Rows.callWith_builtin1 (PyProof.Rows.args_cons _ rfl) rfl rfl
  apply Call_ (ld_blt J g2 m2 PyProof.Rows.boot_set _)
  apply PyProof.Rows.callWith_type1 (PyProof.Rows.args_cons (thn (pa.run pins s σ H _ J hyp) fun v s1 w => PyProof.Rows.args_nil (?_ : _)) arg) arg rfl
  obtain ⟨x, H1, J1, rel, hx⟩ := w
  obtain ⟨l, ns, rfl, seq, few, fin⟩ := hx
  cases rel
  obtain ⟨its, vals, plain, hz⟩ := J1.list seq
  have size : its.toArray.size = ns.length := by rw [List.size_toArray, ← vals.length, List.length_map]
  apply call_set_list (J1.ok.hd calm) plain.isList (ns := ns) (by simpa using vals.ints) (by unfold scanBound; omega)
  intro h' tk made kept
  rw [size] at made
  apply PyProof.Rows.args_nil
  obtain ⟨o, es, ep, t, ho, hex, hd, _, _, _, hf, hn⟩ := made
  have J2 : Inv X pins σ H1 { s1 with heap := h', toks := tk } := J1.kept fun b o e => kept b o (Heap.lt_size e) e
  have small := PyProof.Rows.firstMet_length_le (fun i => ns.getD i 0) ns.length
  exact call_len_set ho hex hd hf (by rw [hn]; omega) ⟨.int (dcount ns : Nat), H1, J2.tok _, ⟨_, by rw [hn]; rfl⟩, fin⟩
end
section
variable {K : PySem.W.Frag} {σ : L2.St} {H : Hp} {Q : VK} {v : V} {ta : TE}
theorem w_lenSet (h : ta σ H fun x H1 => rLenSet K x H1 Q) : tLenSet2 K ta σ H Q := h
theorem w_lenSetD {ns : List Int} (h : Dp K H v (.list (ns.map PyData.int))) (few : ns.length < 64) (q : Q (.int (dcount ns : Nat)) H) : rLenSet K v H Q := by
  obtain ⟨a, xs, rfl, hs, ha⟩ := dp_lst h
  rw [dpa_ints_inv ha] at hs
  exact ⟨a, ns, rfl, hs, few, q⟩
end
/-! ### classes -/
/-- the sizes of the doubled places -/
def dszs (xs : List (Nat × Nat)) : List Nat := (xs.map dblN).map sz
def keepP (xs : List (Nat × Nat)) : Prop := (dszs xs).Nodup ∧ cyc fall (dszs xs) ≤ 1
instance (xs : List (Nat × Nat)) : Decidable (keepP xs) := by unfold keepP; infer_instance
theorem wu_fall {a b : Nat × Nat} (ha : Plc a) (hb : Plc b) : wu a b + sz a = sz b + CN * fall (sz a) (sz b) := by
  have h1 := sz_lt ha
  rw [wu_eq ha hb]
  unfold fall
  by_cases h : sz a ≤ sz b
  · rw [if_pos h, if_neg (by omega)]; omega
  · rw [if_neg h, if_pos (by omega)]; omega
theorem fall_wu {ys : List (Nat × Nat)} (h : ∀ y ∈ ys, Plc y) : cyc wu ys = CN * cyc fall (ys.map sz) := by
  rw [cyc_map]
  exact cyc_scale (f := sz) fun x hx y hy => wu_fall (h x hx) (h y hy)
/-- mirrored and turned about: as many falls -/
theorem mir_falls {ys : List (Nat × Nat)} (h : ∀ y ∈ ys, Plc y) : cyc fall (((ys.map mirN).reverse).map sz) = cyc fall (ys.map sz) := by
  have hm : ∀ y ∈ (ys.map mirN).reverse, Plc y := fun y hy => by
    obtain ⟨z, hz, rfl⟩ := List.mem_map.mp (List.mem_reverse.mp hy)
    exact mir_plc (h z hz)
  have e1 := fall_wu hm
  have e2 := fall_wu h
  rw [cyc_rev, cyc_map] at e1
  have e3 : cyc (fun x y => wu (mirN y) (mirN x)) ys = cyc wu ys := cyc_congr fun x hx y hy => mir_wu (h x hx) (h y hy)
  have e4 : cyc (fun x y => (fun x y => wu y x) (mirN x) (mirN y)) ys = cyc (fun x y => wu (mirN y) (mirN x)) ys := rfl
  rw [e4, e3, e2] at e1
  exact Nat.eq_of_mul_eq_mul_left CN_pos e1.symm
theorem keep_turn (u v : List (Nat × Nat)) : keepP (v ++ u) ↔ keepP (u ++ v) := by
  unfold keepP dszs
  have hp : ((v ++ u).map dblN).map sz = ((v.map dblN).map sz) ++ ((u.map dblN).map sz) := by simp
  have hq : ((u ++ v).map dblN).map sz = ((u.map dblN).map sz) ++ ((v.map dblN).map sz) := by simp
  rw [hp, hq, cyc_turn]
  have : ((v.map dblN).map sz ++ (u.map dblN).map sz).Perm ((u.map dblN).map sz ++ (v.map dblN).map sz) := List.perm_append_comm
  rw [this.nodup_iff]
theorem keep_mir {xs : List (Nat × Nat)} (h : ∀ x ∈ xs, Plc x) : keepP ((xs.map mirN).reverse) ↔ keepP xs := by
  have hd : ∀ y ∈ xs.map dblN, Plc y := fun y hy => by
    obtain ⟨z, hz, rfl⟩ := List.mem_map.mp hy
    exact dbl_plc (h z hz)
  have e : dszs ((xs.map mirN).reverse) = (((xs.map dblN).map mirN).reverse).map sz := by
    unfold dszs
    rw [List.map_reverse, List.map_map, List.map_map]
    congr 2
    apply List.map_congr_left
    intro x hx
    exact mir_dbl (h x hx)
  unfold keepP
  rw [e, mir_falls hd]
  have hn : ((((xs.map dblN).map mirN).reverse).map sz).Nodup ↔ (dszs xs).Nodup := by
    unfold dszs
    generalize xs.map dblN = ys at hd ⊢
    rw [List.map_reverse, (List.reverse_perm _).nodup_iff, List.map_map]
    have inj : ∀ a ∈ ys, ∀ b ∈ ys, ((sz ∘ mirN) a = (sz ∘ mirN) b ↔ sz a = sz b) := fun a ha b hb => by
      show sz (mirN a) = sz (mirN b) ↔ _
      have pa := hd a ha
      have pb := hd b hb
      rw [mir_sz pa, mir_sz pb]
      have := sz_lt pa
      have := sz_lt pb
      split <;> split <;> omega
    unfold List.Nodup
    rw [List.pairwise_map, List.pairwise_map]
    constructor
    · intro hp
      exact hp.imp_of_mem (fun {a b} ha hb hne z => hne ((inj a ha b hb).mpr z))
    · intro hp
      exact hp.imp_of_mem (fun {a b} ha hb hne z => hne ((inj a ha b hb).mp z))
  rw [hn]
  exact Iff.rfl
/-- the mirrored class by size -/
theorem glass_keep {xs ys : List (Nat × Nat)} (h : ∀ x ∈ xs, Plc x) (ha : xs.Pairwise fun x y => sz x < sz y) (hb : ys.Pairwise fun x y => sz x < sz y) (hm : ∀ y, y ∈ ys ↔ y ∈ xs.map mirN) : keepP ys ↔ keepP xs := by
  have desc : ∀ {l : List (Nat × Nat)}, (∀ x ∈ l, Plc x) → (∀ x ∈ l, sz x ≠ 0) → l.Pairwise (fun x y => sz x < sz y) → ((l.map mirN).reverse).Pairwise fun x y => sz x < sz y := by
    intro l hl h0 hp
    rw [List.pairwise_reverse, List.pairwise_map]
    refine hp.imp_of_mem fun ha hb hab => ?_
    rw [mir_sz (hl _ ha), mir_sz (hl _ hb), if_neg (h0 _ ha), if_neg (h0 _ hb)]
    have := sz_lt (hl _ hb)
    omega
  cases xs with
  | nil =>
    have : ys = [] := List.eq_nil_iff_forall_not_mem.mpr fun y hy => by have := (hm y).mp hy; simp at this
    rw [this]
  | cons x r =>
    have hr : ∀ z ∈ r, sz z ≠ 0 := fun z hz => by have := (List.pairwise_cons.mp ha).1 z hz; omega
    have hpr : ∀ z ∈ r, Plc z := fun z hz => h z (List.mem_cons_of_mem _ hz)
    have har := (List.pairwise_cons.mp ha).2
    rw [← keep_mir h]
    by_cases h0 : sz x = 0
    · have px := h x List.mem_cons_self
      have hmx : sz (mirN x) = 0 := by rw [mir_sz px, if_pos h0]
      have : ys = mirN x :: (r.map mirN).reverse := by
        refine asc_unique hb (List.Pairwise.cons (fun z hz => ?_) (desc hpr hr har)) fun y => ?_
        · rw [hmx]
          obtain ⟨w, hw, rfl⟩ := List.mem_map.mp (List.mem_reverse.mp hz)
          rw [mir_sz (hpr w hw), if_neg (hr w hw)]
          have := sz_lt (hpr w hw)
          omega
        · rw [hm y]; simp
      rw [this, List.map_cons, List.reverse_cons]
      exact keep_turn _ [mirN x]
    · have : ys = ((x :: r).map mirN).reverse := by
        refine asc_unique hb (desc h (fun z hz => ?_) ha) fun y => by rw [hm y]; exact List.mem_reverse.symm
        rcases List.mem_cons.mp hz with rfl | hz
        · exact h0
        · exact hr z hz
      rw [this]
theorem asc_keep {xs : List (Nat × Nat)} (h : (dszs xs).Pairwise (· < ·)) : keepP xs := ⟨asc_nodup h, asc_cyc h⟩
section
variable {K : PySem.W.Frag} {σ : L2.St} {H H1 : Hp} {Q : VK} {v x y : V} {ds : List PyData} {j : Nat} {vs : List Nat} {tt : TT} {te : TE}
/-- as lc_tup_by, with the values and their data at the end -/
theorem lc_tup_byA (J : Nat → List PyData → Hp → Prop) (lj : LcJ H1 J) (src : Dp K H1 x (.tuple ds)) (hz : ds.length ≤ 1000000) (hw : ∀ x, wipe ((wipe σ vs).set j (some x)) vs = wipe σ vs)
    (turn : ∀ i d y H' es, ds[i]? = some d → Dp K H' y d → J i es H' → LcTurn K J tt te ((wipe σ vs).set j (some y)) i es H')
    (done : ∀ p H' ws es, H1 p = none → Keep H1 H' → H' p = some (.lst ws) → DpAll K H' ws es → J ds.length es H' → Q (.ref p) H') : rLcT K j tt te vs σ x H1 Q := by
  obtain ⟨a, xs, rfl, hs, ha⟩ := dp_tup src
  have hl := dpa_len ha
  refine ⟨a, rfl, ⟨xs, hs⟩, fun D hD => lc_tup (xs := xs) (LcP K J D) ⟨[], [], upd_same, .nil, rfl, Nat.le_refl _, lj.start D hD⟩ (fun i H' _ p => ?_) (fun i y H' hi p => ⟨hw y, lc_turn lj hD ?_ p fun es q => ?_⟩) fun H' p => ?_⟩
  · obtain ⟨ws, es, p1, p2, p3, p4, p5⟩ := p
    exact (lj.keep _ _ _ p5).seqT hs
  · have := (List.getElem?_eq_some_iff.mp hi).1; omega
  · obtain ⟨d, e1, e2⟩ := dpa_get2 ha hi
    exact turn i d y H' es e1 (dp_keep (lj.keep _ _ _ q) e2) q
  · obtain ⟨ws, es, p1, p2, p3, p4, p5⟩ := p
    rw [hl] at p5
    exact done D H' ws es hD (lj.keep _ _ _ p5) p1 p2 p5
end
end Tw
namespace Tw
/-- a place of at most 10 steps -/
structure P10 (x : Nat × Nat) : Prop where
  plc : Plc x
  bot : ∃ m n, 1 ≤ n ∧ m + n ≤ 10 ∧ x.2 ∣ 2 ^ m * (2 ^ n - 1)
theorem p10_bin {h c : List Nat} (hc : c ≠ []) (hl : h.length + c.length ≤ 10) : P10 (binN h c) := ⟨bin_plc hc (by omega), h.length, c.length, List.length_pos_iff.mpr hc, hl, red_dvd⟩
theorem p10_dbl {x : Nat × Nat} (h : P10 x) : P10 (dblN x) := by
  obtain ⟨hp, m, n, h1, h2, h3⟩ := h
  refine ⟨dbl_plc hp, m, n, h1, h2, Nat.dvd_trans ?_ h3⟩
  unfold dblN
  split
  · exact Nat.div_dvd_of_dvd (Nat.dvd_of_mod_eq_zero (by omega))
  · exact Nat.dvd_refl _
theorem p10_it {x : Nat × Nat} (h : P10 x) (i : Nat) : P10 (itN i x) := by
  induction i with
  | zero => exact h
  | succ i ih => rw [itN_succ]; exact p10_dbl ih
theorem p10_orb {x : Nat × Nat} (h : P10 x) : ∀ y ∈ orbN x, P10 y := fun y hy => by
  obtain ⟨i, _, rfl⟩ := List.mem_map.mp hy
  exact p10_it h i
theorem p10_third : P10 (1, 3) := ⟨⟨by decide, by decide, 0, 2, by decide, by decide, by decide⟩, 0, 2, by decide, by decide, by decide⟩
/-- the halves of a place of few steps -/
theorem half_plc {x : Nat × Nat} (hx : Plc x) {m n : Nat} (h1 : 1 ≤ n) (h2 : m + n ≤ 23) (h3 : x.2 ∣ 2 ^ m * (2 ^ n - 1)) : Plc (red x.1 (2 * x.2)) ∧ Plc (red (x.1 + x.2) (2 * x.2)) := by
  have e : hvN x 1 0 = red x.1 (2 * x.2) := by unfold hvN; simp
  have e2 : hvN x 1 1 = red (x.1 + x.2) (2 * x.2) := by unfold hvN; simp
  rw [← e, ← e2]
  exact ⟨hv_plc hx h1 (by omega) h3 (by decide), hv_plc hx h1 (by omega) h3 (by decide)⟩
/-- a place of at most k steps -/
def Ps (k : Nat) (x : Nat × Nat) : Prop := Plc x ∧ ∃ m n, 1 ≤ n ∧ m + n ≤ k ∧ x.2 ∣ 2 ^ m * (2 ^ n - 1)
theorem ps_bin {k : Nat} {h c : List Nat} (hc : c ≠ []) (hk : k ≤ 24) (hl : h.length + c.length ≤ k) : Ps k (binN h c) := ⟨bin_plc hc (by omega), h.length, c.length, List.length_pos_iff.mpr hc, hl, red_dvd⟩
theorem ps_p10 {x : Nat × Nat} (h : Ps 9 x) : P10 x := by
  obtain ⟨h, m, n, h1, h2, h3⟩ := h
  exact ⟨h, m, n, h1, by omega, h3⟩
theorem half_dvd {p q m n : Nat} (h3 : q ∣ 2 ^ m * (2 ^ n - 1)) : (red p (2 * q)).2 ∣ 2 ^ (m + 1) * (2 ^ n - 1) := by
  refine Nat.dvd_trans red_dvd ?_
  rw [Nat.pow_succ, Nat.mul_comm (2 ^ m) 2, Nat.mul_assoc]
  exact Nat.mul_dvd_mul_left _ h3
theorem p10_half {x : Nat × Nat} (h : Ps 9 x) : P10 (red x.1 (2 * x.2)) ∧ P10 (red (x.1 + x.2) (2 * x.2)) := by
  obtain ⟨h, m, n, h1, h2, h3⟩ := h
  have := half_plc h h1 (by omega) h3
  exact ⟨⟨this.1, m + 1, n, h1, by omega, half_dvd h3⟩, ⟨this.2, m + 1, n, h1, by omega, half_dvd h3⟩⟩
theorem p10_hplc {x : Nat × Nat} (h : P10 x) : Plc (red x.1 (2 * x.2)) ∧ Plc (red (x.1 + x.2) (2 * x.2)) := by
  obtain ⟨h, m, n, h1, h2, h3⟩ := h
  exact half_plc h h1 (by omega) h3
theorem len_sub {ys xs : List (Nat × Nat)} (hn : ys.Nodup) (h : ∀ y ∈ ys, y ∈ xs) : ys.length ≤ xs.length := by
  induction ys generalizing xs with
  | nil => simp
  | cons y r ih =>
    have hy := h y List.mem_cons_self
    have hr := List.nodup_cons.mp hn
    have := ih (xs := xs.erase y) hr.2 fun z hz => (List.mem_erase_of_ne fun e => hr.1 (by rw [← e]; exact hz)).mpr (h z (List.mem_cons_of_mem _ hz))
    rw [List.length_erase_of_mem hy] at this
    have := List.length_pos_of_mem hy
    simp
    omega
theorem asc_len {ys xs : List (Nat × Nat)} (ha : ys.Pairwise fun x y => sz x < sz y) (h : ∀ y, y ∈ ys ↔ y ∈ xs) : ys.length ≤ xs.length := by
  refine len_sub (ha.imp fun hab z => ?_) fun y hy => (h y).mp hy
  rw [z] at hab
  omega
theorem asc_ne {ys xs : List (Nat × Nat)} (h : ∀ y, y ∈ ys ↔ y ∈ xs) (hx : xs ≠ []) : ys ≠ [] := fun z => by
  obtain ⟨x, r, rfl⟩ := List.exists_cons_of_ne_nil hx
  have := (h x).mpr List.mem_cons_self
  rw [z] at this
  simp at this
/-- the double of a half, and how great a half is -/
theorem low_eq (x : Nat × Nat) : red x.1 (2 * x.2) = hvN x 1 0 := by unfold hvN; simp
theorem high_eq (x : Nat × Nat) : red (x.1 + x.2) (2 * x.2) = hvN x 1 1 := by unfold hvN; simp
theorem dbl_half {x : Nat × Nat} (h : P10 x) : dblN (red x.1 (2 * x.2)) = x ∧ dblN (red (x.1 + x.2) (2 * x.2)) = x := by
  obtain ⟨h1, h2⟩ := p10_hplc h
  rw [low_eq] at h1 ⊢
  rw [high_eq] at h2 ⊢
  rw [dbl_hv h.plc h1, dbl_hv h.plc h2]
  exact ⟨hv_zero h.plc, hv_zero h.plc⟩
theorem low_sz {x : Nat × Nat} (h : P10 x) : 2 * sz (red x.1 (2 * x.2)) = sz x := by
  have h1 := (p10_hplc h).1
  have hp := h.plc.pos
  rw [low_eq] at h1 ⊢
  have e1 := hv_sz h.plc h1
  have e2 := sz_mul h.plc
  rw [Nat.zero_mul, Nat.add_zero, ← e2] at e1
  refine Nat.eq_of_mul_eq_mul_right hp ?_
  rw [← e1]
  generalize sz (hvN x 1 0) = s
  grind
theorem near_keep {xs ys : List (Nat × Nat)} (h : ∀ x ∈ xs, P10 x) (ha : xs.Pairwise fun x y => sz x < sz y) (hb : ys.Pairwise fun x y => sz x < sz y) (hm : ∀ y, y ∈ ys ↔ y ∈ xs.map fun x => red x.1 (2 * x.2)) : keepP ys := by
  have hc : (xs.map fun x => red x.1 (2 * x.2)).Pairwise fun x y => sz x < sz y := by
    rw [List.pairwise_map]
    refine ha.imp_of_mem fun hx hy hxy => ?_
    have := low_sz (h _ hx)
    have := low_sz (h _ hy)
    omega
  rw [asc_unique hb hc hm]
  apply asc_keep
  unfold dszs
  rw [List.map_map, List.map_map, List.pairwise_map]
  refine ha.imp_of_mem fun {x y} hx hy hxy => ?_
  show sz (dblN (red x.1 (2 * x.2))) < sz (dblN (red y.1 (2 * y.2)))
  rw [(dbl_half (h x hx)).1, (dbl_half (h y hy)).1]
  exact hxy
theorem opp_keep {x : Nat × Nat} {ys : List (Nat × Nat)} (h : P10 x) (hb : ys.Pairwise fun x y => sz x < sz y) (hm : ∀ y, y ∈ ys ↔ y ∈ [red x.1 (2 * x.2), red (x.1 + x.2) (2 * x.2)]) : ¬ keepP ys := by
  obtain ⟨h1, h2⟩ := p10_hplc h
  have hlt : sz (red x.1 (2 * x.2)) < sz (red (x.1 + x.2) (2 * x.2)) := by
    rw [low_eq] at h1 ⊢
    rw [high_eq] at h2 ⊢
    exact hv_less h.plc h1 h2 (by decide)
  rw [asc_unique hb (.cons (fun z hz => by rw [List.mem_singleton.mp hz]; exact hlt) (.cons (fun z hz => by simp at hz) .nil)) hm]
  rintro ⟨hn, _⟩
  unfold dszs at hn
  rw [List.map_cons, List.map_cons, List.map_cons, List.map_nil, (dbl_half h).1, (dbl_half h).2] at hn
  simp at hn
end Tw
namespace Tw
open PySem PySem.Spec PyProof.Rows L2
/-! ### how many different tuples -/
theorem nd_len {α : Type} [DecidableEq α] {l m : List α} (hn : l.Nodup) (h : ∀ y ∈ l, y ∈ m) : l.length ≤ m.length := by
  induction l generalizing m with
  | nil => simp
  | cons y r ih =>
    have hy := h y List.mem_cons_self
    have hr := List.nodup_cons.mp hn
    have := ih (m := m.erase y) hr.2 fun z hz => (List.mem_erase_of_ne fun e => hr.1 (by rw [← e]; exact hz)).mpr (h z (List.mem_cons_of_mem _ hz))
    rw [List.length_erase_of_mem hy] at this
    have := List.length_pos_of_mem hy
    simp
    omega
theorem dup_less {α : Type} [DecidableEq α] {m : List α} (h : ¬ m.Nodup) : ∃ m' : List α, m'.length + 1 = m.length ∧ ∀ x ∈ m, x ∈ m' := by
  induction m with
  | nil => simp at h
  | cons a r ih =>
    rw [List.nodup_cons] at h
    by_cases ha : a ∈ r
    · exact ⟨r, rfl, fun x hx => (List.mem_cons.mp hx).elim (fun e => by rw [e]; exact ha) id⟩
    · obtain ⟨m', h1, h2⟩ := ih fun z => h ⟨ha, z⟩
      refine ⟨a :: m', by simp; omega, fun x hx => ?_⟩
      rcases List.mem_cons.mp hx with rfl | hx
      · exact List.mem_cons_self
      · exact List.mem_cons_of_mem _ (h2 x hx)
theorem dup_count {α : Type} [DecidableEq α] {l m : List α} (hn : l.Nodup) (h1 : ∀ y ∈ l, y ∈ m) (h2 : ∀ y ∈ m, y ∈ l) : l.length < m.length ↔ ¬ m.Nodup := by
  constructor
  · intro hlt hm
    have := nd_len hm h2
    omega
  · intro hm
    obtain ⟨m', e, hs⟩ := dup_less hm
    have := nd_len hn fun y hy => hs y (h1 y hy)
    omega
def rLenSetT (K : PySem.W.Frag) (x : V) (H : Hp) (Q : VK) : Prop := ∃ (l : Addr) (ks : List (Addr × List Int)), x = .ref l ∧ SqL K H l (ks.map fun p => V.ref p.1) ∧ (∀ p ∈ ks, SqT K H p.1 (p.2.map V.int)) ∧ ks.length < 64 ∧
  ∀ n : Nat, (n < ks.length ↔ ¬ (ks.map (·.2)).Nodup) → Q (.int (n : Nat)) H
def tLenSetT (K : PySem.W.Frag) (ta : TE) : TE := fun σ H Q => ta σ H fun x H1 => rLenSetT K x H1 Q
section
variable {X : Cx} {K : PySem.W.Frag}
theorem pe_lenSetT {a : Expr} {ta : TE} {p p2 q pos : Pos} (calm : X.calm = true) (hu : X.A.units + 65 < cLine) (g1 : Gl X "len") (m1 : X.mg "len" = none) (g2 : Gl X "set") (m2 : X.mg "set" = none) (pa : PE X a ta) (hK : X.K = K := by rfl)
    (arg : starEach [a] X.env = (false, eval a X.env) :: starEach [] X.env := by rfl) : PE X (.Call (.Name "len" p) [.Call (.Name "set" p2) [a] [] q] [] pos) (tLenSetT K ta) := by
  subst hK
  constructor
  intro pins s σ H Q J hyp
  apply Call_ (ld_blt J g1 m1 PySem.boot_len _)
  apply PyProof.Rows.callWith_builtin1 (PyProof.Rows.args_cons _ rfl) rfl rfl
  apply Call_ (ld_blt J g2 m2 PyProof.Rows.boot_set _)
  apply PyProof.Rows.callWith_type1 (PyProof.Rows.args_cons (thn (pa.run pins s σ H _ J hyp) fun v s1 w => PyProof.Rows.args_nil (?_ : _)) arg) arg rfl
  obtain ⟨x, H1, J1, rel, hx⟩ := w
  obtain ⟨l, ks, rfl, seq, hk, few, fin⟩ := hx
  cases rel
  obtain ⟨its, vals, plain, hz⟩ := J1.list seq
  refine call_set_tups (P := X.prog) (w := X.w) ks (J1.ok.hd calm) plain.isList (by simpa using refs_of_vals vals) (fun p hp => J1.isT (hk p hp)) few (by show X.A.units + 3 < cLine; omega) fun h' tk L es ep t R g kept => ?_
  apply PyProof.Rows.args_nil
  obtain ⟨o, ho, hex, hd⟩ := R.ob
  have J2 : Inv X pins σ H1 { s1 with heap := h', toks := tk } := J1.kept kept
  have hsz := SetTR.size (s := { s1 with heap := h', toks := tk }) R
  have hfit := SetTR.fits (s := { s1 with heap := h', toks := tk }) R
  have hsub : ∀ y ∈ L.map (·.2), y ∈ ks.map (·.2) := fun y hy => by
    obtain ⟨z, hz, rfl⟩ := List.mem_map.mp hy
    exact List.mem_map.mpr ⟨z, List.mem_of_mem_take (g.sub z hz), rfl⟩
  have hall : ∀ y ∈ ks.map (·.2), y ∈ L.map (·.2) := fun y hy => by
    obtain ⟨z, hz, rfl⟩ := List.mem_map.mp hy
    exact g.all z (by rw [List.take_length]; exact hz)
  have hc := dup_count R.nd hsub hall
  rw [List.length_map, List.length_map] at hc
  exact call_len_set ho hex hd hfit (by have := R.few; omega) ⟨.int (L.length : Nat), H1, J2.tok _, ⟨_, by rw [hsz]⟩, fin _ hc⟩
end
section
variable {K : PySem.W.Frag} {σ : L2.St} {H : Hp} {Q : VK} {v : V} {ta : TE}
theorem w_lenSetT (h : ta σ H fun x H1 => rLenSetT K x H1 Q) : tLenSetT K ta σ H Q := h
theorem dpa_pds : ∀ {xs : List (Nat × Nat)} {vs : List V}, DpAll K H vs (xs.map pd) → ∃ ks : List (Addr × List Int), vs = ks.map (fun p => V.ref p.1) ∧ ks.map (·.2) = xs.map (fun x => [(x.1 : Int), (x.2 : Int)]) ∧ ∀ p ∈ ks, SqT K H p.1 (p.2.map V.int)
  | [], _, h => by cases h; exact ⟨[], rfl, rfl, by simp⟩
  | x :: xs, _, h => by
    cases h with
    | cons h1 h2 =>
      obtain ⟨ks, rfl, e, hk⟩ := dpa_pds h2
      obtain ⟨a, ws, rfl, hs, ha⟩ := dp_tup h1
      have := dpa_ints_inv (ns := [(x.1 : Int), (x.2 : Int)]) ha
      subst this
      refine ⟨(a, [(x.1 : Int), (x.2 : Int)]) :: ks, rfl, by simp [e], fun p hp => ?_⟩
      rcases List.mem_cons.mp hp with rfl | hp
      · exact hs
      · exact hk p hp
theorem w_lenSetP {xs : List (Nat × Nat)} (h : Dp K H v (.list (xs.map pd))) (few : xs.length < 64) (q : ∀ n : Nat, (n < xs.length ↔ ¬ xs.Nodup) → Q (.int (n : Nat)) H) : rLenSetT K v H Q := by
  obtain ⟨a, ws, rfl, hs, ha⟩ := dp_lst h
  obtain ⟨ks, rfl, e, hk⟩ := dpa_pds ha
  have hl : ks.length = xs.length := by have := congrArg List.length e; simpa using this
  refine ⟨a, ks, rfl, hs, hk, by omega, fun n hn => q n ?_⟩
  rw [e, hl] at hn
  rw [hn]
  have : (xs.map fun x => [(x.1 : Int), (x.2 : Int)]).Nodup ↔ xs.Nodup := by
    unfold List.Nodup
    rw [List.pairwise_map]
    constructor
    · intro h; exact h.imp fun hab z => hab (by rw [z])
    · intro h; exact h.imp fun {a b} hab z => hab (by
        simp only [List.cons.injEq, and_true] at z
        exact Prod.ext (by omega) (by omega))
  rw [this]
theorem sl_tupAK {X : Cx} {K : PySem.W.Frag} (h : X.K = K := by rfl) : SlR X (rSlA K) := h ▸ sl_tupA
/-- t[lo:hi] of data, the whole too -/
theorem w_slTA {ds : List PyData} {lo hi : Option Int} (h : Dp K H v (.tuple ds)) (q : ∀ v' H', Same H H' → Dp K H' v' (.tuple (cutD ds lo hi)) → Q v' H') : rSlA K v lo hi H Q := by
  obtain ⟨a, xs, rfl, hs, ha⟩ := dp_tup h
  refine ⟨a, xs, rfl, hs, fun hw => ?_, fun hw p hp => ?_⟩
  · refine q _ H (Same.refl _) ?_
    have : cutD ds lo hi = ds := by
      unfold cutD
      rw [← dpa_len ha, hw.1, hw.2]
      simp [dpa_len ha]
    rw [this]
    exact h
  · exact q _ _ (same_new hp) (dp_newT upd_same (dpa_same (same_new hp) (dpa_cut ha)))
end
/-! ### a way by steps that may end, until it comes again -/
section
variable {α : Type} [DecidableEq α]
def stO (f : α → Option α) (c : α) : Nat → Option α
  | 0 => some c
  | i + 1 => (stO f c i).bind f
theorem stO_add (f : α → Option α) (c d : α) (i j : Nat) (h : stO f c i = some d) : stO f c (i + j) = stO f d j := by
  induction j with
  | zero => exact h
  | succ j ih => show (stO f c (i + j)).bind f = _; rw [ih]; rfl
structure PreO (f : α → Option α) (c : α) (l : List α) : Prop where
  get : ∀ i, i < l.length → l[i]? = stO f c i
  nd : l.Nodup
structure OrbO (f : α → Option α) (c : α) (l : List α) : Prop extends PreO f c l where
  ne : l ≠ []
  fin : stO f c l.length = none ∨ ∃ b ∈ l, stO f c l.length = some b
theorem PreO.nil {f : α → Option α} {c : α} : PreO f c [] := ⟨fun i h => by simp at h, List.nodup_nil⟩
theorem PreO.snoc {f : α → Option α} {c d : α} {l : List α} (h : PreO f c l) (hd : stO f c l.length = some d) (hn : d ∉ l) : PreO f c (l ++ [d]) := by
  refine ⟨fun i hi => ?_, ?_⟩
  · rw [List.length_append, List.length_singleton] at hi
    by_cases z : i < l.length
    · rw [List.getElem?_append_left z]; exact h.get i z
    · have : i = l.length := by omega
      subst this
      rw [List.getElem?_concat_length, hd]
  · rw [List.nodup_append]
    exact ⟨h.nd, by simp, fun a ha b hb z => by rw [List.mem_singleton.mp hb] at z; exact hn (z ▸ ha)⟩
theorem PreO.mem {f : α → Option α} {c : α} {l : List α} (h : PreO f c l) {b : α} (hb : b ∈ l) : ∃ j, j < l.length ∧ stO f c j = some b := by
  obtain ⟨j, hj⟩ := List.getElem?_of_mem hb
  have hl := (List.getElem?_eq_some_iff.mp hj).1
  exact ⟨j, hl, by rw [← h.get j hl]; exact hj⟩
theorem PreO.inj {f : α → Option α} {c : α} {l : List α} (h : PreO f c l) {i j : Nat} (hi : i < l.length) (hj : j < l.length) (e : stO f c i = stO f c j) : i = j := by
  rw [← h.get i hi, ← h.get j hj, List.getElem?_eq_getElem hi, List.getElem?_eq_getElem hj] at e
  have e2 := Option.some.inj e
  have hp := List.pairwise_iff_getElem.mp h.nd
  rcases Nat.lt_trichotomy i j with z | z | z
  · exact absurd e2 (hp i j hi hj z)
  · exact z
  · exact absurd e2.symm (hp j i hj hi z)
theorem OrbO.past {f : α → Option α} {c : α} {l m : List α} (h : OrbO f c l) (g : PreO f c m) : m.length ≤ l.length := by
  refine Decidable.byContradiction fun z => ?_
  have hlt : l.length < m.length := by omega
  have e := g.get l.length hlt
  rw [List.getElem?_eq_getElem hlt] at e
  rcases h.fin with h0 | ⟨b, hb, hs⟩
  · rw [h0] at e; cases e
  · obtain ⟨j, hj, ej⟩ := h.mem hb
    have := g.inj (i := l.length) (j := j) hlt (by omega) (by rw [hs, ej])
    omega
theorem OrbO.unique {f : α → Option α} {c : α} {l m : List α} (h : OrbO f c l) (g : OrbO f c m) : l = m := by
  have h1 := h.past g.toPreO
  have h2 := g.past h.toPreO
  refine List.ext_getElem? fun i => ?_
  by_cases hi : i < l.length
  · rw [h.get i hi, g.get i (by omega)]
  · rw [List.getElem?_eq_none (by omega), List.getElem?_eq_none (by omega)]
theorem OrbO.all {f : α → Option α} {c : α} {l : List α} (h : OrbO f c l) : ∀ (n i : Nat), i ≤ n → ∀ b, stO f c i = some b → b ∈ l := by
  intro n
  induction n with
  | zero =>
    intro i hi b e
    have hp := List.length_pos_iff.mpr h.ne
    have : i = 0 := by omega
    subst this
    rw [← h.get 0 hp] at e
    exact List.mem_of_getElem? e
  | succ n ih =>
    intro i hi b e
    by_cases hl : i < l.length
    · rw [← h.get i hl] at e
      exact List.mem_of_getElem? e
    · have hp := List.length_pos_iff.mpr h.ne
      rcases h.fin with h0 | ⟨d, hd, hs⟩
      · have : ∀ t, stO f c (l.length + t) = none := fun t => by
          induction t with
          | zero => exact h0
          | succ t iht => show (stO f c (l.length + t)).bind f = none; rw [iht]; rfl
        have := this (i - l.length)
        rw [show l.length + (i - l.length) = i by omega, e] at this
        cases this
      · obtain ⟨j, hj, ej⟩ := h.mem hd
        have e1 := stO_add f c d l.length (i - l.length) hs
        have e2 := stO_add f c d j (i - l.length) ej
        rw [show l.length + (i - l.length) = i by omega, e, ← e2] at e1
        exact ih (j + (i - l.length)) (by omega) b e1.symm
/-- the way from a later entry -/
theorem OrbO.later {f : α → Option α} {c d : α} {l m : List α} {k : Nat} (h : OrbO f c l) (hd : l[k]? = some d) (g : OrbO f d m) : m.take (l.length - k) = l.drop k ∧ ∀ x ∈ m, x ∈ l := by
  have hk := (List.getElem?_eq_some_iff.mp hd).1
  have hs : stO f c k = some d := by rw [← h.get k hk]; exact hd
  have hst : ∀ j, stO f c (k + j) = stO f d j := fun j => stO_add f c d k j hs
  have hlen : l.length - k ≤ m.length := by
    refine Decidable.byContradiction fun z => ?_
    rcases g.fin with h0 | ⟨b, hb, hb2⟩
    · have := h.get (k + m.length) (by omega)
      rw [hst, h0, List.getElem?_eq_getElem (by omega)] at this
      cases this
    · obtain ⟨j, hj, ej⟩ := g.mem hb
      have := h.toPreO.inj (i := k + m.length) (j := k + j) (by omega) (by omega) (by rw [hst, hst, hb2, ej])
      omega
  constructor
  · refine List.ext_getElem? fun i => ?_
    rw [List.getElem?_take, List.getElem?_drop]
    split
    · rename_i hi
      rw [g.get i (by omega), h.get (k + i) (by omega), hst]
    · rw [List.getElem?_eq_none (by omega)]
  · intro x hx
    obtain ⟨j, hj, ej⟩ := g.mem hx
    exact h.all (k + j) (k + j) (Nat.le_refl _) x (by rw [hst]; exact ej)
end
end Tw
namespace Tw
open PySem PySem.Spec PyProof.Rows L2
/-! ### chords -/
abbrev Cd := (Nat × Nat) × (Nat × Nat)
def cd (c : Cd) : PyData := .tuple [pd c.1, pd c.2]
theorem cd_inj {x y : Cd} (h : cd x = cd y) : x = y := by
  have h2 : pd x.1 = pd y.1 ∧ pd x.2 = pd y.2 := by
    have := PyData.tuple.inj h
    simpa using this
  exact Prod.ext (pd_inj h2.1) (pd_inj h2.2)
theorem cd_pln {k : Nat} (x : Cd) : pln (k + 2) (cd x) = true := by
  refine pln_tuple fun z hz => ?_
  simp only [List.mem_cons, List.not_mem_nil, or_false] at hz
  rcases hz with rfl | rfl
  · exact pd_pln _
  · exact pd_pln _
theorem cd_noL (x : Cd) : noL (cd x) = true := rfl
def ordP (a b : Nat × Nat) : Cd := if sz a < sz b then (a, b) else (b, a)
/-- a chord: two places, the lesser first -/
structure PC (c : Cd) : Prop where
  a : Plc c.1
  b : Plc c.2
  lt : sz c.1 < sz c.2
theorem ord_pc {a b : Nat × Nat} (ha : Plc a) (hb : Plc b) (h : a ≠ b) : PC (ordP a b) := by
  unfold ordP
  split
  · rename_i z; exact ⟨ha, hb, z⟩
  · rename_i z
    have : sz a ≠ sz b := fun e => h (sz_inj ha hb e)
    exact ⟨hb, ha, by show sz b < sz a; omega⟩
theorem ord_self {c : Cd} (h : PC c) : ordP c.1 c.2 = c := by unfold ordP; rw [if_pos h.lt]
theorem ord_comm {a b : Nat × Nat} (ha : Plc a) (hb : Plc b) (h : a ≠ b) : ordP a b = ordP b a := by
  have : sz a ≠ sz b := fun e => h (sz_inj ha hb e)
  unfold ordP
  split <;> split <;> first | rfl | omega
/-- is x within the arc from a up to b -/
def wiB (a x b : Nat × Nat) : Bool := decide (0 < wu a x ∧ wu a x < wu a b)
def crB (c d : Cd) : Bool := if c.1 = d.1 ∨ c.1 = d.2 ∨ c.2 = d.1 ∨ c.2 = d.2 then false else wiB c.1 d.1 c.2 != wiB c.1 d.2 c.2
theorem wiB_in {a x b : Nat × Nat} (ha : Plc a) (hx : Plc x) (hb : Plc b) (h : sz a < sz b) : wiB a x b = decide (sz a < sz x ∧ sz x < sz b) := by
  have h1 := sz_lt ha
  have h2 := sz_lt hb
  have h3 := sz_lt hx
  have e1 := wu_eq ha hx
  have e2 := wu_eq ha hb
  rw [if_pos (by omega)] at e2
  unfold wiB
  rw [decide_eq_decide, e1, e2]
  split <;> omega
/-- one chord's ends lie on both sides of the other, by the sizes -/
def inter (a b c d : Nat) : Prop := (a < c ∧ c < b ∧ b < d) ∨ (c < a ∧ a < d ∧ d < b)
instance {a b c d : Nat} : Decidable (inter a b c d) := by unfold inter; infer_instance
theorem crB_in {c d : Cd} (hc : PC c) (hd : PC d) : crB c d = decide (inter (sz c.1) (sz c.2) (sz d.1) (sz d.2)) := by
  unfold crB
  have e1 : (c.1 = d.1) ↔ sz c.1 = sz d.1 := ⟨fun e => by rw [e], sz_inj hc.a hd.a⟩
  have e2 : (c.1 = d.2) ↔ sz c.1 = sz d.2 := ⟨fun e => by rw [e], sz_inj hc.a hd.b⟩
  have e3 : (c.2 = d.1) ↔ sz c.2 = sz d.1 := ⟨fun e => by rw [e], sz_inj hc.b hd.a⟩
  have e4 : (c.2 = d.2) ↔ sz c.2 = sz d.2 := ⟨fun e => by rw [e], sz_inj hc.b hd.b⟩
  have l1 := hc.lt
  have l2 := hd.lt
  rw [wiB_in hc.a hd.a hc.b l1, wiB_in hc.a hd.b hc.b l1]
  by_cases z : c.1 = d.1 ∨ c.1 = d.2 ∨ c.2 = d.1 ∨ c.2 = d.2
  · rw [if_pos z]
    rw [e1, e2, e3, e4] at z
    symm
    rw [decide_eq_false_iff_not]
    unfold inter
    omega
  · rw [if_neg z]
    rw [e1, e2, e3, e4] at z
    by_cases p : sz c.1 < sz d.1 ∧ sz d.1 < sz c.2 <;> by_cases r : sz c.1 < sz d.2 ∧ sz d.2 < sz c.2
    · rw [decide_eq_true p, decide_eq_true r, decide_eq_false (show ¬ inter (sz c.1) (sz c.2) (sz d.1) (sz d.2) from by unfold inter; omega)]; rfl
    · rw [decide_eq_true p, decide_eq_false r, decide_eq_true (show inter (sz c.1) (sz c.2) (sz d.1) (sz d.2) from by unfold inter; omega)]; rfl
    · rw [decide_eq_false p, decide_eq_true r, decide_eq_true (show inter (sz c.1) (sz c.2) (sz d.1) (sz d.2) from by unfold inter; omega)]; rfl
    · rw [decide_eq_false p, decide_eq_false r, decide_eq_false (show ¬ inter (sz c.1) (sz c.2) (sz d.1) (sz d.2) from by unfold inter; omega)]; rfl
def mirC (c : Cd) : Cd := ordP (mirN c.1) (mirN c.2)
theorem mirC_sz {c : Cd} (h : PC c) : PC (mirC c) ∧ (if sz c.1 = 0 then sz (mirC c).1 = 0 ∧ sz (mirC c).2 = CN - sz c.2 else sz (mirC c).1 = CN - sz c.2 ∧ sz (mirC c).2 = CN - sz c.1) := by
  have h1 := sz_lt h.a
  have h2 := sz_lt h.b
  have l := h.lt
  have e1 := mir_sz h.a
  have e2 := mir_sz h.b
  rw [if_neg (by omega)] at e2
  have hne : mirN c.1 ≠ mirN c.2 := fun e => by
    have : sz (mirN c.1) = sz (mirN c.2) := by rw [e]
    rw [e1, e2] at this
    split at this <;> omega
  refine ⟨ord_pc (mir_plc h.a) (mir_plc h.b) hne, ?_⟩
  unfold mirC ordP
  rw [e1, e2]
  by_cases z : sz c.1 = 0
  · rw [if_pos z, if_pos z, if_pos (by omega)]
    exact ⟨by rw [e1, if_pos z], e2⟩
  · rw [if_neg z, if_neg z, if_neg (by omega)]
    exact ⟨e2, by rw [e1, if_neg z]⟩
theorem crB_mir {c d : Cd} (hc : PC c) (hd : PC d) : crB (mirC c) (mirC d) = crB c d := by
  obtain ⟨pc, ec⟩ := mirC_sz hc
  obtain ⟨pd', ed⟩ := mirC_sz hd
  rw [crB_in pc pd', crB_in hc hd, decide_eq_decide]
  have h1 := sz_lt hc.a
  have h2 := sz_lt hc.b
  have h3 := sz_lt hd.a
  have h4 := sz_lt hd.b
  have l1 := hc.lt
  have l2 := hd.lt
  unfold inter
  split at ec <;> split at ed <;> omega
/-- the length of a chord -/
def clN (c : Cd) : Nat × Nat := red (min (wu c.1 c.2) (CN - wu c.1 c.2)) CN
theorem clN_sz {c : Cd} (h : PC c) : clN c = red (min (sz c.2 - sz c.1) (CN - (sz c.2 - sz c.1))) CN := by
  unfold clN
  rw [wu_eq h.a h.b, if_pos (by have := h.lt; omega)]
theorem clN_mir {c : Cd} (h : PC c) : clN (mirC c) = clN c := by
  obtain ⟨pc, ec⟩ := mirC_sz h
  rw [clN_sz pc, clN_sz h]
  have h1 := sz_lt h.a
  have h2 := sz_lt h.b
  have l1 := h.lt
  congr 1
  split at ec
  · rename_i z
    rw [ec.1, ec.2, z]
    omega
  · rw [ec.1, ec.2]
    omega
theorem clN_law {c : Cd} (h : PC c) : ∃ t : Nat, ((c.2.1 : Int) * c.1.2 - (c.1.1 : Int) * c.2.2 = (t : Int)) ∧ t < c.1.2 * c.2.2 ∧ red (min t (c.1.2 * c.2.2 - t)) (c.1.2 * c.2.2) = clN c := by
  rw [clN_sz h]
  have ha := sz_mul h.a
  have hb := sz_mul h.b
  have pa := h.a.pos
  have pb := h.b.pos
  have la := h.a.lt
  have lb := h.b.lt
  have hl := h.lt
  have hless := (sz_less h.a h.b).mpr hl
  have c0 := CN_pos
  have s2 := sz_lt h.b
  obtain ⟨t, ht⟩ : ∃ t, c.2.1 * c.1.2 = c.1.1 * c.2.2 + t := ⟨c.2.1 * c.1.2 - c.1.1 * c.2.2, by omega⟩
  obtain ⟨u, hu⟩ : ∃ u, sz c.2 = sz c.1 + u := ⟨sz c.2 - sz c.1, by omega⟩
  have hB : 0 < c.1.2 * c.2.2 := Nat.mul_pos pa pb
  -- u over CN is t over the product
  have key : u * (c.1.2 * c.2.2) = t * CN := by
    have e1 : sz c.2 * (c.1.2 * c.2.2) = c.2.1 * c.1.2 * CN := by
      generalize sz c.2 = s at *
      calc s * (c.1.2 * c.2.2) = s * c.2.2 * c.1.2 := by grind
        _ = c.2.1 * CN * c.1.2 := by rw [hb]
        _ = c.2.1 * c.1.2 * CN := by grind
    have e2 : sz c.1 * (c.1.2 * c.2.2) = c.1.1 * c.2.2 * CN := by
      generalize sz c.1 = s at *
      calc s * (c.1.2 * c.2.2) = s * c.1.2 * c.2.2 := by grind
        _ = c.1.1 * CN * c.2.2 := by rw [ha]
        _ = c.1.1 * c.2.2 * CN := by grind
    rw [hu, ht, Nat.add_mul, Nat.add_mul, e2] at e1
    omega
  have htl : t < c.1.2 * c.2.2 := by
    have : c.2.1 * c.1.2 < c.1.2 * c.2.2 := by
      rw [Nat.mul_comm c.1.2]
      exact Nat.mul_lt_mul_of_pos_right lb pa
    omega
  have hul : u < CN := by omega
  refine ⟨t, by have : ((c.2.1 * c.1.2 : Nat) : Int) = ((c.1.1 * c.2.2 + t : Nat) : Int) := by rw [ht]
                push_cast at this; omega, htl, ?_⟩
  rw [hu, show sz c.1 + u - sz c.1 = u by omega]
  refine red_eq hB c0 ?_
  generalize c.1.2 * c.2.2 = B at *
  have k2 : (CN - u) * B = (B - t) * CN := by
    rw [Nat.sub_mul, Nat.sub_mul, key, Nat.mul_comm CN B]
  rcases Nat.le_total t (B - t) with z | z
  · have : u ≤ CN - u := by
      have := Nat.mul_le_mul_right CN z
      rw [← key, ← k2] at this
      exact Nat.le_of_mul_le_mul_right this hB
    rw [Nat.min_eq_left z, Nat.min_eq_left this, key]
  · have : CN - u ≤ u := by
      have := Nat.mul_le_mul_right CN z
      rw [← key, ← k2] at this
      exact Nat.le_of_mul_le_mul_right this hB
    rw [Nat.min_eq_right z, Nat.min_eq_right this, k2]
/-! ### a chord doubled -/
def fC (c : Cd) : Option Cd := if dblN c.1 = dblN c.2 then none else some (ordP (dblN c.1) (dblN c.2))
theorem fC_pc {c d : Cd} (h : PC c) (e : fC c = some d) : PC d := by
  unfold fC at e
  split at e
  · cases e
  · rename_i z
    cases e
    exact ord_pc (dbl_plc h.a) (dbl_plc h.b) z
theorem st_pc {c : Cd} (h : PC c) : ∀ (i : Nat) (d : Cd), stO fC c i = some d → PC d := by
  intro i
  induction i with
  | zero => intro d e; cases e; exact h
  | succ i ih =>
    intro d e
    change (stO fC c i).bind fC = some d at e
    obtain ⟨b, hb, hd⟩ := Option.bind_eq_some_iff.mp e
    exact fC_pc (ih b hb) hd
theorem st_it {c : Cd} (h : PC c) : ∀ (i : Nat) (d : Cd), stO fC c i = some d → d = ordP (itN i c.1) (itN i c.2) ∧ itN i c.1 ≠ itN i c.2 := by
  intro i
  induction i with
  | zero =>
    intro d e
    cases e
    exact ⟨(ord_self h).symm, fun z => by have := h.lt; have e : c.1 = c.2 := z; rw [e] at this; omega⟩
  | succ i ih =>
    intro d e
    change (stO fC c i).bind fC = some d at e
    obtain ⟨b, hb, hd⟩ := Option.bind_eq_some_iff.mp e
    obtain ⟨eb, hne⟩ := ih b hb
    unfold fC at hd
    split at hd
    · cases hd
    · rename_i z
      cases hd
      have p1 := it_plc h.a i
      have p2 := it_plc h.b i
      rw [itN_succ, itN_succ]
      rw [eb] at z ⊢
      unfold ordP at z ⊢
      split at z
      · rename_i y
        rw [if_pos y]
        exact ⟨rfl, z⟩
      · rename_i y
        rw [if_neg y]
        exact ⟨ord_comm (dbl_plc p2) (dbl_plc p1) z, fun e => z e.symm⟩
theorem it_back {x : Nat × Nat} (h : Plc x) (k : Nat) : ∀ i, wayN x ≤ i → itN (i + perN x * k) x = itN i x := by
  have w := ways h
  have hb := w.back
  have step : ∀ i, wayN x ≤ i → itN (i + perN x) x = itN i x := fun i hi => by
    obtain ⟨j, rfl⟩ : ∃ j, i = j + wayN x := ⟨i - wayN x, by omega⟩
    rw [Nat.add_assoc, itN_add, hb, ← itN_add]
  induction k with
  | zero => intro i _; rfl
  | succ k ih =>
    intro i hi
    rw [Nat.mul_succ, ← Nat.add_assoc, step (i + perN x * k) (by omega), ih i hi]
/-- a way of chords comes again soon -/
theorem pre_short {c : Cd} (h : PC c) {l : List Cd} (g : PreO fC c l) : l.length ≤ max (wayN c.1) (wayN c.2) + perN c.1 * perN c.2 := by
  refine Decidable.byContradiction fun z => ?_
  generalize hw : max (wayN c.1) (wayN c.2) = w at z
  have h1 := (ways h.a).n1
  have h2 := (ways h.b).n1
  have hp : 0 < perN c.1 * perN c.2 := Nat.mul_pos h1 h2
  have hi : w < l.length := by omega
  have hj : w + perN c.1 * perN c.2 < l.length := by omega
  have e1 := g.get w hi
  have e2 := g.get (w + perN c.1 * perN c.2) hj
  rw [List.getElem?_eq_getElem hi] at e1
  rw [List.getElem?_eq_getElem hj] at e2
  have d1 := (st_it h _ _ e1.symm).1
  have d2 := (st_it h _ _ e2.symm).1
  rw [it_back h.a _ w (by omega)] at d2
  have hb2 := it_back h.b (perN c.1) w (by omega)
  rw [Nat.mul_comm (perN c.2)] at hb2
  rw [hb2, ← d1] at d2
  have := g.inj hj hi (by rw [← e1, ← e2, d2])
  omega
/-- a place of at most k steps, at most 7 of them again and again -/
def Qs (k : Nat) (x : Nat × Nat) : Prop := Plc x ∧ ∃ m n, 1 ≤ n ∧ n ≤ 7 ∧ m + n ≤ k ∧ x.2 ∣ 2 ^ m * (2 ^ n - 1)
theorem qs_bin {k : Nat} {h c : List Nat} (hc : c ≠ []) (h7 : c.length ≤ 7) (hk : k ≤ 24) (hl : h.length + c.length ≤ k) : Qs k (binN h c) := ⟨bin_plc hc (by omega), h.length, c.length, List.length_pos_iff.mpr hc, h7, hl, red_dvd⟩
theorem qs_mono {k l : Nat} {x : Nat × Nat} (h : Qs k x) (hk : k ≤ l) : Qs l x := by
  obtain ⟨h, m, n, h1, h2, h3, h4⟩ := h
  exact ⟨h, m, n, h1, h2, by omega, h4⟩
theorem qs_half {k : Nat} {x : Nat × Nat} (h : Qs k x) (hk : k ≤ 23) : Qs (k + 1) (red x.1 (2 * x.2)) ∧ Qs (k + 1) (red (x.1 + x.2) (2 * x.2)) := by
  obtain ⟨h, m, n, h1, h2, h3, h4⟩ := h
  have := half_plc h h1 (by omega) h4
  exact ⟨⟨this.1, m + 1, n, h1, h2, by omega, half_dvd h4⟩, ⟨this.2, m + 1, n, h1, h2, by omega, half_dvd h4⟩⟩
theorem qs_per {k : Nat} {x : Nat × Nat} (h : Qs k x) : perN x ≤ 7 := by
  obtain ⟨h, m, n, h1, h2, h3, h4⟩ := h
  have w := ways h
  obtain ⟨e1, e2⟩ := odd_spec h.pos (Nat.lt_trans h.small (by decide))
  rw [e1, dvd_split e2 h1] at h4
  refine Decidable.byContradiction fun z => ?_
  exact w.lt n h1 (by omega) h4.2
structure BC (c : Cd) : Prop where
  pc : PC c
  n1 : perN c.1 ≤ 7
  n2 : perN c.2 ≤ 7
theorem BC.le {c : Cd} (h : BC c) : max (wayN c.1) (wayN c.2) + perN c.1 * perN c.2 ≤ 380 := by
  have w1 := (ways h.pc.a).le
  have w2 := (ways h.pc.b).le
  have := Nat.mul_le_mul h.n1 h.n2
  omega
theorem bc_ord {a b : Nat × Nat} (ha : Plc a) (hb : Plc b) (h : a ≠ b) (h1 : perN a ≤ 7) (h2 : perN b ≤ 7) : BC (ordP a b) := by
  refine ⟨ord_pc ha hb h, ?_, ?_⟩
  · unfold ordP; split
    · exact h1
    · exact h2
  · unfold ordP; split
    · exact h2
    · exact h1
theorem bc_st {c : Cd} (h : BC c) : ∀ (i : Nat) (d : Cd), stO fC c i = some d → BC d := by
  intro i
  induction i with
  | zero => intro d e; cases e; exact h
  | succ i ih =>
    intro d e
    change (stO fC c i).bind fC = some d at e
    obtain ⟨b, hb, hd⟩ := Option.bind_eq_some_iff.mp e
    have hB := ih b hb
    unfold fC at hd
    split at hd
    · cases hd
    · rename_i z
      cases hd
      exact bc_ord (dbl_plc hB.pc.a) (dbl_plc hB.pc.b) z (by rw [(dbl_ways hB.pc.a).2]; exact hB.n1) (by rw [(dbl_ways hB.pc.b).2]; exact hB.n2)
theorem orb_bd {c : Cd} (h : BC c) {l : List Cd} (g : OrbO fC c l) : l.length ≤ 380 ∧ 0 < l.length := ⟨Nat.le_trans (pre_short h.pc g.toPreO) h.le, List.length_pos_iff.mpr g.ne⟩
theorem noLs_cd (l : List Cd) : noLs (l.map cd) = true := by
  induction l with
  | nil => rfl
  | cons u r ih => simp only [List.map_cons, noLs, cd_noL, Bool.true_and]; exact ih
theorem pln_cds {l : List Cd} : ∀ z ∈ l.map cd, pln 8 z = true := fun z hz => by
  obtain ⟨u, _, rfl⟩ := List.mem_map.mp hz
  exact cd_pln _
/-- a, b, .. = a list -/
theorem pg_unlK {X : Cx} {K : PySem.W.Frag} {es : List Expr} {k : Nat} {t : TGs} {n : Nat} {pos : Pos} (hc : X.calm = true) (hh : PGs X es t) (h : X.K = K := by rfl)
    (hn : (assignEach es X.env).length = n := by rfl) (hst : (assignEach es X.env).findIdx? (·.1) = none := by rfl) : PG X (.Tuple es k pos) (gUnl K n t) := h ▸ pg_unl hc hh hn hst
theorem w_gUnl4 {K : PySem.W.Frag} {σ : L2.St} {H : Hp} {v : V} {i j k l : Nat} {Q : L2.St → Hp → Prop} {d e f g : PyData} (h : Dp K H v (.list [d, e, f, g])) (q : ∀ v1 v2 v3 v4, Dp K H v1 d → Dp K H v2 e → Dp K H v3 f → Dp K H v4 g → Q ((((σ.set i (some v1)).set j (some v2)).set k (some v3)).set l (some v4)) H) :
    gUnl K 4 (gCons (gName i) (gCons (gName j) (gCons (gName k) (gCons (gName l) gNil)))) v σ H Q := by
  obtain ⟨a, xs, rfl, hs, ha⟩ := dp_lst h
  cases ha with
  | cons h1 g1 => cases g1 with
    | cons h2 g2 => cases g2 with
      | cons h3 g3 => cases g3 with
        | cons h4 g4 => cases g4; exact ⟨a, _, rfl, hs, rfl, _, _, rfl, _, _, rfl, _, _, rfl, _, _, rfl, rfl, q _ _ _ _ h1 h2 h3 h4⟩
theorem w_neC {K : PySem.W.Frag} {H : Hp} {Q : VK} {x y : V} {d : PyData} (h1 : Dp K H x d) (h2 : Dp K H y d) (s : SeqAt.shaped d = true) (e : PyData.eqv d d = true) (q : Q (.bl false) H) : rNeD K x y H Q := by
  refine ⟨d, d, h1, h2, s, s, ?_⟩
  rw [e]
  exact q
theorem four_of {α : Type} {l : List α} (h : 4 ≤ l.length) : ∃ a b c d r, l = a :: b :: c :: d :: r := by
  rcases l with _ | ⟨a, _ | ⟨b, _ | ⟨c, _ | ⟨d, r⟩⟩⟩⟩
  · simp at h
  · simp at h
  · simp at h
  · simp at h
  · exact ⟨a, b, c, d, r, rfl⟩
end Tw
namespace Tw
open PySem PySem.Spec PyProof.Rows L2
variable {K : PySem.W.Frag} {g : TG} {tb : TS} {D : Ends} {σ : L2.St} {H : Hp} {ta : TA}
def rForI (J : It) (g : TG) (tb : TS) (D : Ends) (σ : L2.St) (H1 : Hp) : Prop := ∃ W : Nat → Nat → L2.St → Hp → Prop, (∃ m, W 0 m σ H1) ∧ ∀ i m σ H, W i m σ H →
  (J.stop i H ∧ D.nx σ H) ∨ (J.go i H ∧ ∃ N : L2.St → Hp → Prop, (∀ σ' H', N σ' H' → ∃ m', m' < m ∧ W (i + 1) m' σ' H') ∧ ∀ x H', J.yld i H x H' → g x σ H' fun σ2 H2 => tb { D with nx := N, ct := N, bk := D.nx } σ2 H2)
def rForZ (K : PySem.W.Frag) (g : TG) (tb : TS) (D : Ends) (σ : L2.St) (vs : List V) (H1 : Hp) : Prop := ∃ a b xs ys, vs = [.ref a, .ref b] ∧ ((SqL K H1 a xs ∧ SqL K H1 b ys ∧ rForI (Itz K a b) g tb D σ H1) ∨ (SqT K H1 a xs ∧ SqT K H1 b ys ∧ rForI (RZ.ItzT K a b) g tb D σ H1))
theorem pi_zipK {X : Cx} {e e2 : Expr} {ta : TA} {p pos tpos : Pos} {elts : List Expr} {kk : Nat} (hg : Gl X "zip") (hm : X.mg "zip" = none) (ha : PA X [e, e2] ta) (h : X.K = K := by rfl)
    (hs : starEach [e, e2] X.env = (false, eval e X.env) :: starEach [e2] X.env := by rfl) (hpl : (backTo pos (starEach [e2] X.env)).any (·.1) = false := by rfl) :
    PI X (.Tuple elts kk tpos) (.Call (.Name "zip" p) [e, e2] [] pos) (RZ.iZipA K ta) := h ▸ RZ.pi_zipA hg hm ha hs hpl
theorem w_forZ (h : ta σ H fun vs H1 => rForZ K g tb D σ vs H1) : tFor (RZ.iZipA K ta) g tb D σ H := h
/-- two tuples side by side -/
theorem forZT_by {u v : V} {ds es : List PyData} (Pv : Nat → L2.St → Hp → Prop) (s1 : Dp K H u (.tuple ds)) (s2 : Dp K H v (.tuple es)) (h0 : Pv 0 σ H) (hk : ∀ i σ' H', i ≤ ds.length → Pv i σ' H' → Keep H H')
    (hs : ∀ i d e T σ' H' H2, ds[i]? = some d → es[i]? = some e → Pv i σ' H' → Same H' H2 → Dp K H2 (.ref T) (.tuple [d, e]) → g (.ref T) σ' H2 fun σ2 H2 => tb { D with nx := Pv (i + 1), ct := Pv (i + 1), bk := D.nx } σ2 H2)
    (hd : ∀ σ' H', Pv (min ds.length es.length) σ' H' → D.nx σ' H') : rForZ K g tb D σ [u, v] H := by
  obtain ⟨a, xs, rfl, qx, dx⟩ := dp_tup s1
  obtain ⟨b, ys, rfl, qy, dy⟩ := dp_tup s2
  have lx := dpa_len dx
  have ly := dpa_len dy
  refine ⟨a, b, xs, ys, rfl, .inr ⟨qx, qy, fun i m σ H => m = min ds.length es.length - i ∧ i ≤ min ds.length es.length ∧ Pv i σ H, ⟨_, rfl, Nat.zero_le _, h0⟩, ?_⟩⟩
  rintro i m σ' H' ⟨rfl, hi, p⟩
  have k := hk i σ' H' (by omega) p
  have qx' := k.seqT qx
  have qy' := k.seqT qy
  by_cases hlt : i < min ds.length es.length
  · have hx : xs[i]? = some xs[i] := List.getElem?_eq_getElem (by omega)
    have hy : ys[i]? = some ys[i] := List.getElem?_eq_getElem (by omega)
    refine .inr ⟨⟨xs, ys, _, _, qx', qy', hx, hy⟩, Pv (i + 1), fun σ' H' p' => ⟨min ds.length es.length - (i + 1), by omega, rfl, hlt, p'⟩, fun w H2 y => ?_⟩
    obtain ⟨T, x', y', rfl, hT, rfl, f1, f2⟩ := y
    obtain ⟨d, e1, e2⟩ := dpa_get2 dx (f1 xs qx')
    obtain ⟨d2, e3, e4⟩ := dpa_get2 dy (f2 ys qy')
    have sm : Same H' (upd H' T (.tup [x', y'])) := same_new hT
    exact hs i d d2 T σ' H' _ e1 e3 p sm (.tup (SqT.of upd_same) (.cons (dp_same sm (dp_keep k e2)) (dpa_one (dp_same sm (dp_keep k e4)))))
  · have e : i = min ds.length es.length := by omega
    subst e
    exact .inl ⟨⟨xs, ys, qx', qy', by omega⟩, hd σ' H' p⟩
/-- two lists side by side -/
theorem forZL_by {u v : V} {ds es : List PyData} (Pv : Nat → L2.St → Hp → Prop) (s1 : Dp K H u (.list ds)) (s2 : Dp K H v (.list es)) (h0 : Pv 0 σ H) (hk : ∀ i σ' H', i ≤ ds.length → Pv i σ' H' → Keep H H')
    (hs : ∀ i d e T σ' H' H2, ds[i]? = some d → es[i]? = some e → Pv i σ' H' → Same H' H2 → Dp K H2 (.ref T) (.tuple [d, e]) → g (.ref T) σ' H2 fun σ2 H2 => tb { D with nx := Pv (i + 1), ct := Pv (i + 1), bk := D.nx } σ2 H2)
    (hd : ∀ σ' H', Pv (min ds.length es.length) σ' H' → D.nx σ' H') : rForZ K g tb D σ [u, v] H := by
  obtain ⟨a, xs, rfl, qx, dx⟩ := dp_lst s1
  obtain ⟨b, ys, rfl, qy, dy⟩ := dp_lst s2
  have lx := dpa_len dx
  have ly := dpa_len dy
  refine ⟨a, b, xs, ys, rfl, .inl ⟨qx, qy, fun i m σ H => m = min ds.length es.length - i ∧ i ≤ min ds.length es.length ∧ Pv i σ H, ⟨_, rfl, Nat.zero_le _, h0⟩, ?_⟩⟩
  rintro i m σ' H' ⟨rfl, hi, p⟩
  have k := hk i σ' H' (by omega) p
  have qx' := k.seqL qx
  have qy' := k.seqL qy
  by_cases hlt : i < min ds.length es.length
  · have hx : xs[i]? = some xs[i] := List.getElem?_eq_getElem (by omega)
    have hy : ys[i]? = some ys[i] := List.getElem?_eq_getElem (by omega)
    refine .inr ⟨⟨xs, ys, _, _, qx', qy', hx, hy⟩, Pv (i + 1), fun σ' H' p' => ⟨min ds.length es.length - (i + 1), by omega, rfl, hlt, p'⟩, fun w H2 y => ?_⟩
    obtain ⟨T, x', y', rfl, hT, rfl, f1, f2⟩ := y
    obtain ⟨d, e1, e2⟩ := dpa_get2 dx (f1 xs qx')
    obtain ⟨d2, e3, e4⟩ := dpa_get2 dy (f2 ys qy')
    have sm : Same H' (upd H' T (.tup [x', y'])) := same_new hT
    exact hs i d d2 T σ' H' _ e1 e3 p sm (.tup (SqT.of upd_same) (.cons (dp_same sm (dp_keep k e2)) (dpa_one (dp_same sm (dp_keep k e4)))))
  · have e : i = min ds.length es.length := by omega
    subst e
    exact .inl ⟨⟨xs, ys, qx', qy', by omega⟩, hd σ' H' p⟩
/-- a text put behind a text, in place -/
theorem ip_addS {X : Cx} : PIp X .Add rAddStr := by
  intro pins s σ H x y v u Q I rx ry h
  exact iop_add_str pins s σ H x y v u Q I rx ry h
section
variable {j : Nat} {tt : TT} {te : TE} {vs : List Nat} {H1 : Hp} {Q : VK}
/-- a comprehension over range(lo, k), the items' values kept -/
theorem lc_rng2_byA {lo k : Int} (J : Nat → List PyData → Hp → Prop) (lj : LcJ H1 J) (hz : -1000000 ≤ lo ∧ lo ≤ 1000000 ∧ -1000000 ≤ k ∧ k ≤ 1000000 ∧ k - lo ≤ 1000000) (hw : ∀ x, wipe ((wipe σ vs).set j (some x)) vs = wipe σ vs)
    (turn : ∀ (i : Nat) H' es, lo + (i : Int) < k → J i es H' → LcTurn K J tt te ((wipe σ vs).set j (some (.int (lo + (i : Int))))) i es H')
    (done : ∀ p H' vs es, H1 p = none → Keep H1 H' → H' p = some (.lst vs) → DpAll K H' vs es → J (k - lo).toNat es H' → Q (.ref p) H') : rLcR2 j tt te vs σ [.int lo, .int k] H1 Q := by
  refine ⟨lo, k, rfl, by omega, fun D hD => lc_range (lo := lo) (n := (k - lo).toNat) (LcP K J D) ⟨[], [], upd_same, .nil, rfl, Nat.le_refl _, lj.start D hD⟩ (fun i H' hi p => ⟨hw _, lc_turn lj hD (by omega) p fun es q => turn i H' es (by omega) q⟩) fun H' p => ?_⟩
  obtain ⟨vs, es, p1, p2, p3, p4, p5⟩ := p
  exact done D H' vs es hD (lj.keep _ _ _ p5) p1 p2 p5
end
/-- two lists put behind one another -/
theorem w_catA {a b : Addr} {xs zs : List V} {ds es : List PyData} {Q : VK} (h : H a = some (.lst xs)) (h' : H b = some (.lst zs)) (hd : DpAll K H xs ds) (he : DpAll K H zs es) (hz : xs.length + zs.length ≤ sizeLine)
    (q : ∀ p H', H p = none → Same H H' → H' p = some (.lst (xs ++ zs)) → DpAll K H' (xs ++ zs) (ds ++ es) → Q (.ref p) H') : rCat (.ref a) (.ref b) H Q := by
  refine w_catL h h' hz fun p H' n e f => q p H' n e f ?_
  have app : ∀ {us : List V} {fs : List PyData}, DpAll K H' us fs → ∀ {ws : List V} {gs : List PyData}, DpAll K H' ws gs → DpAll K H' (us ++ ws) (fs ++ gs) := by
    intro us fs h1
    induction us generalizing fs with
    | nil => intro ws gs h2; cases h1; exact h2
    | cons u us ih =>
      intro ws gs h2
      cases h1 with
      | cons a b => exact .cons a (ih b h2)
  exact app (dpa_same e hd) (dpa_same e he)
end Tw
namespace Tw
def othC (c : Nat) : Nat := if c = 49 then 48 else 49
def growW (l : List Nat) (m : Nat) : Nat → List Nat
  | 0 => l
  | t + 1 => growW (l ++ [l.getD (l.length - m) 0]) m t
def stW (l : List Nat) (m k : Nat) : List Nat := growW l m (k - 1 - l.length) ++ [othC ((growW l m (k - 1 - l.length)).getD (k - 1 - m) 0)]
def woA : List Nat → Nat → List Nat → List Nat
  | l, _, [] => l
  | l, m, k :: r => woA (stW l m k) k r
def woW (r : List Nat) : List Nat := (woA [49] 1 r).dropLast ++ [42]
def BitsW (l : List Nat) : Prop := ∀ c ∈ l, c = 48 ∨ c = 49
theorem getD_in {l : List Nat} {j : Nat} (h : j < l.length) : l.getD j 0 ∈ l := by
  rw [List.getD_eq_getElem?_getD, List.getElem?_eq_getElem h]
  exact List.getElem_mem h
theorem getD_left {l x : List Nat} {j : Nat} (h : j < l.length) : (l ++ x).getD j 0 = l.getD j 0 := by
  rw [List.getD_eq_getElem?_getD, List.getD_eq_getElem?_getD, List.getElem?_append_left h]
theorem grow_spec {m : Nat} (hm : 1 ≤ m) : ∀ (t : Nat) (l : List Nat), m ≤ l.length → BitsW l → (∃ x, growW l m t = l ++ x ∧ x.length = t) ∧ BitsW (growW l m t) ∧ ∀ j, l.length ≤ j → j < l.length + t → (growW l m t).getD j 0 = (growW l m t).getD (j - m) 0 := by
  intro t
  induction t with
  | zero => intro l _ hb; exact ⟨⟨[], by simp [growW]⟩, hb, fun j h1 h2 => by omega⟩
  | succ t ih =>
    intro l hl hb
    have hb' : BitsW (l ++ [l.getD (l.length - m) 0]) := fun c hc => by
      rcases List.mem_append.mp hc with h | h
      · exact hb c h
      · rw [List.mem_singleton.mp h]; exact hb _ (getD_in (by omega))
    obtain ⟨⟨x, e1, e2⟩, h2, h3⟩ := ih (l ++ [l.getD (l.length - m) 0]) (by rw [List.length_append]; omega) hb'
    refine ⟨⟨l.getD (l.length - m) 0 :: x, by show growW _ m t = _; rw [e1]; simp, by simp [e2]⟩, h2, fun j h4 h5 => ?_⟩
    show (growW (l ++ [l.getD (l.length - m) 0]) m t).getD j 0 = (growW (l ++ [l.getD (l.length - m) 0]) m t).getD (j - m) 0
    by_cases hj : j = l.length
    · subst hj
      have a1 : ∀ c : Nat, (l ++ [c] ++ x).getD l.length 0 = c := fun c => by
        rw [List.getD_eq_getElem?_getD, List.append_assoc, List.getElem?_append_right (Nat.le_refl _), Nat.sub_self]
        rfl
      have a2 : ∀ c : Nat, (l ++ [c] ++ x).getD (l.length - m) 0 = l.getD (l.length - m) 0 := fun c => by
        rw [List.append_assoc]
        exact getD_left (by omega)
      rw [e1, a1, a2]
    · exact h3 j (by simp; omega) (by simp; omega)
def CopW (W : List Nat) : Nat → List Nat → Prop
  | _, [] => True
  | m, k :: r => m < k ∧ k ≤ W.length ∧ (∀ j, m ≤ j → j + 1 < k → W.getD j 0 = W.getD (j - m) 0) ∧ W.getD (k - 1) 0 = othC (W.getD (k - 1 - m) 0) ∧ CopW W k r
theorem othC_bit (c : Nat) : othC c = 48 ∨ othC c = 49 := by unfold othC; split <;> simp
theorem stW_spec {l : List Nat} {m k : Nat} (hm : 1 ≤ m) (hl : l.length = m) (hb : BitsW l) (hk : m < k) : (∃ x, stW l m k = l ++ x) ∧ (stW l m k).length = k ∧ BitsW (stW l m k) ∧ (∀ j, m ≤ j → j + 1 < k → (stW l m k).getD j 0 = (stW l m k).getD (j - m) 0) ∧ (stW l m k).getD (k - 1) 0 = othC ((stW l m k).getD (k - 1 - m) 0) := by
  obtain ⟨⟨x, e1, e2⟩, h2, h3⟩ := grow_spec hm (k - 1 - l.length) l (by omega) hb
  have hgl : (growW l m (k - 1 - l.length)).length = k - 1 := by rw [e1, List.length_append, e2]; omega
  unfold stW
  generalize growW l m (k - 1 - l.length) = g at *
  refine ⟨⟨x ++ [othC (g.getD (k - 1 - m) 0)], by rw [e1, List.append_assoc]⟩, by rw [List.length_append, hgl]; simp; omega, fun c hc => ?_, fun j h4 h5 => ?_, ?_⟩
  · rcases List.mem_append.mp hc with h | h
    · exact h2 c h
    · rw [List.mem_singleton.mp h]; exact othC_bit _
  · rw [getD_left (by omega), getD_left (by omega)]
    exact h3 j (by omega) (by omega)
  · rw [getD_left (l := g) (j := k - 1 - m) (by omega), List.getD_eq_getElem?_getD, List.getElem?_append_right (by omega), hgl, Nat.sub_self]
    rfl
theorem woA_spec : ∀ (r l : List Nat) (m : Nat), 1 ≤ m → l.length = m → BitsW l → (m :: r).Pairwise (· < ·) → (∃ x, woA l m r = l ++ x) ∧ (woA l m r).length = (m :: r).getLast (by simp) ∧ BitsW (woA l m r) ∧ CopW (woA l m r) m r := by
  intro r
  induction r with
  | nil => intro l m _ hl hb _; exact ⟨⟨[], by simp [woA]⟩, by simpa [woA] using hl, hb, trivial⟩
  | cons k r ih =>
    intro l m hm hl hb hp
    have hk : m < k := (List.pairwise_cons.mp hp).1 k List.mem_cons_self
    obtain ⟨⟨x, s1⟩, s2, s3, s4, s5⟩ := stW_spec hm hl hb hk
    obtain ⟨⟨y, i1⟩, i2, i3, i4⟩ := ih (stW l m k) k (by omega) s2 s3 (List.pairwise_cons.mp hp).2
    have hle : k ≤ (woA (stW l m k) k r).length := by rw [i1, List.length_append, s2]; omega
    refine ⟨⟨x ++ y, by show woA (stW l m k) k r = _; rw [i1, s1, List.append_assoc]⟩, i2.trans (List.getLast_cons (by simp)).symm, i3, hk, hle, fun j h1 h2 => ?_, ?_, i4⟩
    · show (woA (stW l m k) k r).getD j 0 = (woA (stW l m k) k r).getD (j - m) 0
      rw [i1, getD_left (by omega), getD_left (by omega)]
      exact s4 j h1 h2
    · show (woA (stW l m k) k r).getD (k - 1) 0 = othC ((woA (stW l m k) k r).getD (k - 1 - m) 0)
      rw [i1, getD_left (by omega), getD_left (by omega)]
      exact s5
theorem mk_getD {w : List Nat} {k : Int} (h1 : 1 ≤ k) (h2 : k ≤ w.length) : mk w k = w.getD (k.toNat - 1) 0 := by
  unfold mk
  rw [Int.emod_eq_of_lt (by omega) (by omega)]
  congr 1
  omega
theorem woW_getD {r : List Nat} {j : Nat} (h : j + 1 < (woA [49] 1 r).length) : (woW r).getD j 0 = (woA [49] 1 r).getD j 0 := by
  unfold woW
  rw [getD_left (by rw [List.length_dropLast]; omega), List.getD_eq_getElem?_getD, List.getD_eq_getElem?_getD, List.getElem?_dropLast, if_pos (by omega)]
theorem woW_len {r : List Nat} (h : (woA [49] 1 r) ≠ []) : (woW r).length = (woA [49] 1 r).length := by
  have := List.length_pos_iff.mpr h
  unfold woW
  rw [List.length_append, List.length_dropLast]
  simp
  omega
theorem woW_last {r : List Nat} (h : (woA [49] 1 r) ≠ []) : (woW r).getD ((woA [49] 1 r).length - 1) 0 = 42 := by
  unfold woW
  rw [List.getD_eq_getElem?_getD, List.getElem?_append_right (by rw [List.length_dropLast]; omega), List.length_dropLast, Nat.sub_self]
  rfl
theorem cop_chn {w W : List Nat} {n : Nat} (hn : W.length = n) (hw : w.length = n) (h1 : ∀ j, j + 1 < n → w.getD j 0 = W.getD j 0) (h2 : w.getD (n - 1) 0 = 42) (hb : BitsW W) :
    ∀ (r : List Nat) (m : Nat), 1 ≤ m → m ≤ n → (m :: r).getLast (by simp) = n → CopW W m r → Chn w n (some (m : Int)) ((m :: r).map fun k : Nat => (k : Int)) := by
  intro r
  induction r with
  | nil =>
    intro m hm hmn hl _
    have e : m = n := hl
    subst e
    refine .go (by omega) (r := none) (fun j hj => ?_) .no
    have := mk_per w (j - m)
    rw [hw, Int.sub_add_cancel] at this
    exact this
  | cons k r ih =>
    intro m hm hmn hl ⟨c1, c2, c3, c4, c5⟩
    have hk : k ≤ n := by omega
    refine .go (by omega) (r := some (k : Int)) ⟨by omega, ?_, fun j a1 a2 => ?_⟩ (ih k (by omega) hk (by rw [List.getLast_cons (by simp)] at hl; exact hl) c5)
    · rw [mk_getD (by omega) (by omega), mk_getD (by omega) (by omega), show ((k : Int) - m).toNat - 1 = k - 1 - m by omega, Int.toNat_natCast, h1 (k - 1 - m) (by omega)]
      have b := hb _ (getD_in (l := W) (j := k - 1 - m) (by omega))
      by_cases z : k = n
      · rw [z, h2]
        rw [z] at b
        rcases b with b | b <;> rw [b] <;> decide
      · rw [h1 (k - 1) (by omega), c4]
        rcases b with b | b <;> rw [b] <;> decide
    · rw [mk_getD (by omega) (by omega), mk_getD (by omega) (by omega), h1 _ (by omega), h1 _ (by omega), show (j - (m : Int)).toNat - 1 = j.toNat - 1 - m by omega]
      exact c3 (j.toNat - 1) (by omega) (by omega)
/-- an ascending row from 1 on is the address of its star word -/
theorem woW_chn {r : List Nat} (hp : (1 :: r).Pairwise (· < ·)) : Chn (woW r) (woW r).length (some 1) ((1 :: r).map fun k : Nat => (k : Int)) ∧ (woW r).length = (1 :: r).getLast (by simp) ∧ StarW (woW r) := by
  obtain ⟨⟨x, e1⟩, e2, e3, e4⟩ := woA_spec r [49] 1 (by decide) rfl (fun c hc => by rw [List.mem_singleton.mp hc]; decide) hp
  have ne : woA [49] 1 r ≠ [] := by rw [e1]; simp
  have hl := woW_len ne
  have hpos := List.length_pos_iff.mpr ne
  have := cop_chn (w := woW r) (W := woA [49] 1 r) rfl hl (fun j hj => woW_getD hj) (woW_last ne) e3 r 1 (by decide) hpos e2.symm e4
  refine ⟨by rw [hl]; exact this, by rw [hl, e2], ?_⟩
  exact starW_mk fun c hc => by rcases e3 c (List.dropLast_subset _ hc) with z | z <;> rw [z] <;> decide
def StD (w : List Nat) (n : Nat) : Prop := w.length = n ∧ 1 ≤ n ∧ (∀ j, j + 1 < n → w.getD j 0 = 48 ∨ w.getD j 0 = 49) ∧ w.getD (n - 1) 0 = 42
theorem StD.end_ {w : List Nat} {n m : Nat} (h : StD w n) (hm : 1 ≤ m) (hmn : m < n) : mk w (n : Int) ≠ mk w ((n : Int) - m) := by
  obtain ⟨a, b, c, d⟩ := h
  rw [mk_getD (by omega) (by omega), mk_getD (by omega) (by omega), Int.toNat_natCast, d, show ((n : Int) - m).toNat - 1 = n - m - 1 by omega]
  rcases c (n - m - 1) (by omega) with z | z <;> rw [z] <;> decide
theorem chn_inj {w v : List Nat} {n : Nat} (hw : StD w n) (hv : StD v n) : ∀ (ns : List Int) (m : Nat), 1 ≤ m → m ≤ n → Chn w n (some (m : Int)) ns → Chn v n (some (m : Int)) ns →
    (∀ j, j < m → j + 1 < n → w.getD j 0 = v.getD j 0) → ∀ j, j + 1 < n → w.getD j 0 = v.getD j 0 := by
  intro ns
  induction ns with
  | nil => intro m hm hmn h1; cases h1; omega
  | cons a r ih =>
    intro m hm hmn h1 h2 hag
    cases h1 with
    | @go _ r1 _ g1 u1 c1 =>
      cases h2 with
      | @go _ r2 _ g2 u2 c2 =>
        by_cases hmn' : m = n
        · intro j hj
          exact hag j (by omega) hj
        · have hlt : m < n := by omega
          cases r1 with
          | none => exact absurd (u1 n (by omega)) (hw.end_ hm hlt)
          | some k1 =>
            have hk1 : k1 ≤ n := by
              by_cases z : k1 ≤ n
              · exact z
              · exact absurd (u1.2.2 n (by omega) (by omega)) (hw.end_ hm hlt)
            cases r2 with
            | none => exact absurd (u2 n (by omega)) (hv.end_ hm hlt)
            | some k2 =>
              have hk : k2 = k1 := by
                cases c1 with
                | stop z => omega
                | go _ _ _ => cases c2; rfl
              subst hk
              obtain ⟨k, rfl⟩ : ∃ k : Nat, k2 = (k : Int) := Int.eq_ofNat_of_zero_le (by have := u1.1; omega)
              have hmk : m < k := by have := u1.1; omega
              have hkn : k ≤ n := by omega
              obtain ⟨lw, _, bw, _⟩ := id hw
              obtain ⟨lv, _, bv, _⟩ := id hv
              have cw : ∀ j, m ≤ j → j + 1 < k → w.getD j 0 = w.getD (j - m) 0 := fun j a1 a2 => by
                have := u1.2.2 ((j : Int) + 1) (by omega) (by omega)
                rw [mk_getD (by omega) (by omega), mk_getD (by omega) (by omega), show ((j : Int) + 1).toNat - 1 = j by omega, show ((j : Int) + 1 - m).toNat - 1 = j - m by omega] at this
                exact this
              have cv : ∀ j, m ≤ j → j + 1 < k → v.getD j 0 = v.getD (j - m) 0 := fun j a1 a2 => by
                have := u2.2.2 ((j : Int) + 1) (by omega) (by omega)
                rw [mk_getD (by omega) (by omega), mk_getD (by omega) (by omega), show ((j : Int) + 1).toNat - 1 = j by omega, show ((j : Int) + 1 - m).toNat - 1 = j - m by omega] at this
                exact this
              have lo : ∀ j, j + 1 < k → w.getD j 0 = v.getD j 0 := by
                intro j
                induction j using Nat.strongRecOn with
                | _ j ih2 =>
                  intro hj
                  by_cases z : j < m
                  · exact hag j z (by omega)
                  · rw [cw j (by omega) hj, cv j (by omega) hj]
                    exact ih2 (j - m) (by omega) (by omega)
              refine ih k (by omega) hkn c1 c2 fun j hj hjn => ?_
              by_cases z : j + 1 < k
              · exact lo j z
              · have e : j = k - 1 := by omega
                subst e
                have d1 := u1.2.1
                have d2 := u2.2.1
                rw [mk_getD (by omega) (by omega), mk_getD (by omega) (by omega), Int.toNat_natCast, show ((k : Int) - m).toNat - 1 = k - 1 - m by omega] at d1 d2
                rw [← lo (k - 1 - m) (by omega)] at d2
                rcases bw (k - 1) hjn with a1 | a1 <;> rcases bv (k - 1) hjn with a2 | a2 <;> rcases bw (k - 1 - m) (by omega) with a3 | a3 <;> rw [a1, a2] <;> rw [a1, a3] at d1 <;> rw [a2, a3] at d2 <;> first | rfl | exact absurd rfl d1 | exact absurd rfl d2
/-- a star word is told by its address -/
theorem chn_word {w v : List Nat} {n : Nat} {ns : List Int} (hw : StD w n) (hv : StD v n) (h1 : n = 1 ∨ w.getD 0 0 = v.getD 0 0) (c1 : Chn w n (some 1) ns) (c2 : Chn v n (some 1) ns) : w = v := by
  have := chn_inj hw hv ns 1 (by decide) hw.2.1 c1 c2 fun j hj hjn => by
    rcases h1 with h1 | h1
    · omega
    · obtain rfl : j = 0 := by omega
      exact h1
  have lw := hw.1
  have lv := hv.1
  refine List.ext_getElem (by omega) fun j a1 a2 => ?_
  have e : w.getD j 0 = v.getD j 0 := by
    by_cases z : j + 1 < n
    · exact this j z
    · have e : j = n - 1 := by omega
      rw [e, hw.2.2.2, hv.2.2.2]
  rw [List.getD_eq_getElem?_getD, List.getD_eq_getElem?_getD, List.getElem?_eq_getElem a1, List.getElem?_eq_getElem a2] at e
  exact e
end Tw
namespace Tw
open PySem PySem.Spec PyProof.Rows L2
/-- the order of tuples of ints -/
def ltL : List Int → List Int → Bool
  | _, [] => false
  | [], _ :: _ => true
  | x :: xs, y :: ys => if x = y then ltL xs ys else decide (x < y)
theorem ltL_asym : ∀ x y : List Int, ltL x y = true → ltL y x = false := by
  intro x
  induction x with
  | nil => intro y _; cases y <;> rfl
  | cons a x ih =>
    intro y h
    cases y with
    | nil => cases h
    | cons b y =>
      unfold ltL at h ⊢
      by_cases e : a = b
      · rw [if_pos e] at h
        rw [if_pos e.symm]
        exact ih y h
      · rw [if_neg e, decide_eq_true_eq] at h
        rw [if_neg (Ne.symm e), decide_eq_false_iff_not]
        omega
theorem ltL_tr : ∀ x y z : List Int, ltL y x = false → ltL z y = false → ltL z x = false := by
  intro x
  induction x with
  | nil => intro y z _ _; cases z <;> rfl
  | cons a x ih =>
    intro y z h1 h2
    cases y with
    | nil => cases h1
    | cons b y =>
      cases z with
      | nil => cases h2
      | cons c z =>
        unfold ltL at h1 h2 ⊢
        by_cases e1 : b = a
        · rw [if_pos e1] at h1
          by_cases e2 : c = b
          · rw [if_pos e2] at h2
            rw [if_pos (e2.trans e1)]
            exact ih y z h1 h2
          · rw [if_neg e2, decide_eq_false_iff_not] at h2
            rw [if_neg (by omega), decide_eq_false_iff_not]
            omega
        · rw [if_neg e1, decide_eq_false_iff_not] at h1
          by_cases e2 : c = b
          · rw [if_neg (by omega), decide_eq_false_iff_not]
            omega
          · rw [if_neg e2, decide_eq_false_iff_not] at h2
            rw [if_neg (by omega), decide_eq_false_iff_not]
            omega
theorem ltL_anti : ∀ x y : List Int, ltL x y = false → ltL y x = false → x = y := by
  intro x
  induction x with
  | nil =>
    intro y h _
    cases y with
    | nil => rfl
    | cons b y => cases h
  | cons a x ih =>
    intro y h1 h2
    cases y with
    | nil => cases h2
    | cons b y =>
      unfold ltL at h1 h2
      by_cases e : a = b
      · rw [if_pos e] at h1
        rw [if_pos e.symm] at h2
        rw [e, ih y h1 h2]
      · rw [if_neg e, decide_eq_false_iff_not] at h1
        rw [if_neg (Ne.symm e), decide_eq_false_iff_not] at h2
        omega
theorem srt_unique {α : Type} {R : α → α → Prop} (anti : ∀ a b, R a b → R b a → a = b) : ∀ {l m : List α}, l.Perm m → l.Pairwise R → m.Pairwise R → l = m
  | [], m, p, _, _ => (List.nil_perm.mp p).symm
  | a :: l, [], p, _, _ => absurd p.length_eq (by simp)
  | a :: l, b :: m, p, h1, h2 => by
    obtain ⟨g1, g2⟩ := List.pairwise_cons.mp h1
    obtain ⟨k1, k2⟩ := List.pairwise_cons.mp h2
    have e : a = b := by
      rcases List.mem_cons.mp (p.mem_iff.mp (List.mem_cons_self (a := a) (l := l))) with z | z
      · exact z
      · rcases List.mem_cons.mp (p.mem_iff.mpr (List.mem_cons_self (a := b) (l := m))) with y | y
        · exact y.symm
        · exact anti _ _ (g1 b y) (k1 a z)
    subst e
    rw [srt_unique anti (List.perm_cons a |>.mp p) g2 k2]
theorem perm_of {α : Type} [DecidableEq α] : ∀ {l m : List α}, l.Nodup → (∀ a ∈ l, a ∈ m) → m.length ≤ l.length → l.Perm m
  | [], m, _, _, h => by rw [List.eq_nil_of_length_eq_zero (Nat.le_zero.mp h)]
  | a :: l, m, hn, hs, h => by
    obtain ⟨n1, n2⟩ := List.nodup_cons.mp hn
    have ha := hs a List.mem_cons_self
    have hp := List.perm_cons_erase ha
    refine (List.Perm.cons a (perm_of n2 (fun b hb => ?_) ?_)).trans hp.symm
    · have := hp.mem_iff.mp (hs b (List.mem_cons_of_mem _ hb))
      rcases List.mem_cons.mp this with z | z
      · exact absurd (z ▸ hb) n1
      · exact z
    · have := hp.length_eq
      simp only [List.length_cons] at this h
      omega
section
variable {prog : Program} {w : World} {A : Around} {s : Shared}
def IsTk (P : Program) (w : World) (h : Heap) (v : Value) (k : List Int) : Prop := ∃ a, v = .ref a ∧ k ≠ [] ∧ IsTupleKey (intKind P w) h k a
theorem IsTk.keeps {h h' : Heap} {v : Value} {k : List Int} (r : IsTk prog w h v k) (e : ∀ b o, h.get? b = some o → o.cls = .type "tuple" → h'.get? b = some o) : IsTk prog w h' v k := by
  obtain ⟨a, rfl, h0, o, items, n, h1, h2, h3⟩ := r
  exact ⟨a, rfl, h0, o, items, n, e _ _ h1 h2, h2, h3⟩
theorem items_cons {k : Int} {ks : List Int} {vs : List Value} (h : ItemsAre (intKind prog w) (k :: ks) vs) : ∃ v us t, vs = v :: us ∧ v = .int k t ∧ ItemsAre (intKind prog w) ks us := by
  cases h with
  | cons a b =>
    obtain ⟨t, e⟩ := Value.isInt_shape a
    exact ⟨_, _, t, rfl, e, b⟩
theorem tk_firsts {h : Heap} : ∀ {vs : List Value}, (∀ v ∈ vs, ∃ k, IsTk prog w h v k) → ∃ fs, W.KatTups h vs fs ∧ fs.length = vs.length ∧ ∀ f ∈ fs, ∃ x t, f = Value.int x t
  | [], _ => ⟨[], .nil, rfl, fun _ z => nomatch z⟩
  | v :: vs, hv => by
    obtain ⟨fs, h1, h2, h3⟩ := tk_firsts (vs := vs) fun u hu => hv u (List.mem_cons_of_mem _ hu)
    obtain ⟨k, a, rfl, h0, o, items, n, g1, g2, g3, g4⟩ := hv v List.mem_cons_self
    cases k with
    | nil => exact absurd rfl h0
    | cons k0 ks =>
      obtain ⟨v0, us, t, e1, e2, _⟩ := items_cons g4
      refine ⟨v0 :: fs, ⟨⟨a, o, items, n, rfl, g1, g2, g3, ?_⟩, h1⟩, by simp [h2], fun f hf => ?_⟩
      · rw [← Array.getElem?_toList, e1]
        rfl
      · rcases List.mem_cons.mp hf with rfl | hf
        · exact ⟨_, _, e2⟩
        · exact h3 f hf
theorem lex_ints {b fin : Bool} {Q : Bool → Shared → Prop} : ∀ {ks ls : List Int} {vs us : List Value} {i : Nat}, ItemsAre (intKind prog w) ks vs → ItemsAre (intKind prog w) ls us → fin = decide (ks.length < ls.length) → Q (ltL ks ls) s → PySem.W.KatLex prog w A b fin Q (vs.zip us) i s
  | [], ls, vs, us, i, h1, h2, hf, q => by
    cases h1
    rw [List.zip_nil_left]
    refine PySem.W.kat_nil ?_
    rw [hf]
    cases ls with
    | nil => exact q
    | cons y ys => exact (by simpa [ltL] using q)
  | x :: ks, [], vs, us, i, h1, h2, hf, q => by
    cases h2
    rw [List.zip_nil_right]
    refine PySem.W.kat_nil ?_
    rw [hf]
    exact (by simpa [ltL] using q)
  | x :: ks, y :: ls, vs, us, i, h1, h2, hf, q => by
    obtain ⟨v, vs', t, rfl, rfl, i1⟩ := items_cons h1
    obtain ⟨u, us', t', rfl, rfl, i2⟩ := items_cons h2
    rw [List.zip_cons_cons]
    refine PySem.W.kat_cons ?_
    refine (intKind prog w).eqBool (a := x) (b := y) (isInt_me x t) (isInt_me y t') ?_
    unfold ltL at q
    by_cases e : x = y
    · rw [if_pos e] at q
      rw [decide_eq_true e]
      refine PySem.W.kat_yes ?_
      exact lex_ints i1 i2 (by rw [hf]; simp) q
    · rw [if_neg e] at q
      rw [decide_eq_false e]
      exact PySem.W.kat_no (TS.oneLt_ints _ q)
theorem tk_cmp {vs : List Value} {k : Value → List Int} (h : ∀ v ∈ vs, IsTk prog w s.heap v (k v)) :
    SrtO.Cmp prog w A s (PyProof.Rows.tuples' true) (fun p => p.fst ∈ vs) (SrtO.lt2 fun v u => ltL (k v) (k u)) := by
  intro p q hp hq
  obtain ⟨a, e1, h0, o, items, n, h1, h2, h3, h4⟩ := h _ hp
  obtain ⟨a', e1', h0', o', items', n', h1', h2', h3', h4'⟩ := h _ hq
  show wpAny _ _ (PyProof.Rows.keyLt' _ p.fst q.fst) _ _ _
  unfold SrtO.lt2
  dsimp only
  generalize k p.fst = kp at *
  generalize k q.fst = kq at *
  rw [e1, e1']
  refine PySem.W.kat_lt h1 h3 h1' h3' (lex_ints h4 h4' ?_ ⟨rfl, rfl⟩)
  have l1 := h4.length
  have l2 := h4'.length
  rw [show items.size = items.toList.length from rfl, show items'.size = items'.toList.length from rfl, l1, l2]
theorem ltk_swoL {α : Type} (k : α → List Int) : SrtO.Swo fun v u => ltL (k v) (k u) := ⟨fun x y h => ltL_asym _ _ h, fun x y z h1 h2 => ltL_tr _ _ _ h1 h2⟩
theorem tk_sortable {a : Addr} {vs : List Value} {k : Value → List Int} (h0 : 0 < vs.length) (h : ∀ v ∈ vs, IsTk prog w s.heap v (k v))
    (ha : ∀ o, s.heap.get? a = some o → o.cls ≠ .type "tuple") : SrtO.SortableO prog w A s a vs fun v u => ltL (k v) (k u) := by
  intro h' keep
  have hr : ∀ v ∈ vs, IsTk prog w h' v (k v) := fun v hv => (h v hv).keeps fun b o e1 e2 => keep b o (fun z => by subst z; exact ha o e1 e2) e1
  obtain ⟨fs, f1, f2, f3⟩ := tk_firsts (h := h') (vs := vs) fun v hv => ⟨_, hr v hv⟩
  refine ⟨PyProof.Rows.tuples' true, fun Q E q => ?_, tk_cmp hr⟩
  refine PySem.W.kat_kind (T := .type "int") f1 (by omega) (fun v hv => ?_) (by decide +kernel) ?_
  · obtain ⟨x, t, rfl⟩ := f3 v hv
    exact PySem.W.Looks.now
  · rw [show (Value.type "int" != Value.type "tuple") = true by decide +kernel]
    exact q
theorem sorted_tk {E : Value → Shared → Prop} {l : Addr} {vs : List Value} {k : Value → List Int} {Q : Value → Shared → Prop} (hl : s.heap.IsList l vs.toArray) (hz : vs.length ≤ sizeLine)
    (h : ∀ v ∈ vs, IsTk prog w s.heap v (k v))
    (q : ∀ (h' : Heap) (d : Addr) (out : List Value), out.Perm vs → out.Pairwise (fun v u => ltL (k u) (k v) = false) → (∀ b o, s.heap.get? b = some o → h'.get? b = some o) → s.heap.objs.size ≤ d → (∃ n, h'.get? d = some (PyProof.Rows.seqObj "list" out.toArray n)) →
      Q (.ref d) { heap := h', gens := s.gens, drawn := s.drawn, toks := s.toks, os := s.os }) :
    wpAny (model prog w) A (call (.builtin "sorted") [.ref l]) Q E s := by
  refine SrtO.sorted_ord (ltk_swoL k) hl hz (fun h2 h1 a g1 g2 => ?_) fun out o1 o2 => ?_
  · refine tk_sortable (by omega) (fun v hv => (h v hv).keeps fun b o e1 _ => (g2 b o e1).2) fun o e => ?_
    rw [g1] at e
    cases e
    intro z
    exact absurd (Value.type.inj z) (by decide)
  · exact q _ _ out o2.perm o1 (fun b o e => PyProof.Rows.sortedAll_old e) (Nat.le_succ _) (PyProof.Rows.sortedAll_at _ _ _)
end
def tupD (k : List Int) : PyData := .tuple (k.map PyData.int)
theorem items_of {P : Program} {w : World} : ∀ {k : List Int} {xs : List V} {its : List Value} {K : PySem.W.Frag} {H : Hp}, Vals xs its → DpAll K H xs (k.map PyData.int) → ItemsAre (intKind P w) k its
  | [], _, _, _, _, hv, hd => by
    cases hd; cases hv
    exact .nil
  | a :: k, _, _, _, _, hv, hd => by
    cases hd with
    | cons d1 d2 =>
      cases d1
      cases hv with
      | cons r hv =>
        obtain ⟨t, rfl⟩ := r
        exact .cons (v := .int a t) (isInt_me a t) (items_of hv d2)
theorem tkI {X : Cx} {pins : List (Addr × Obj)} {σ : L2.St} {H : Hp} {s : Shared} {v : V} {u : Value} {k : List Int} (I : L2.Inv X pins σ H s) (r : RelV v u) (d : Dp X.K H v (tupD k)) (h0 : k ≠ []) : IsTk X.prog X.w s.heap u k ∧ ∃ a, v = .ref a := by
  obtain ⟨a, xs, rfl, hs, ha⟩ := dp_tup d
  obtain ⟨its, hv, ⟨o, h1, h2, n, h3⟩, _⟩ := I.tuple hs
  cases r
  exact ⟨⟨a, rfl, h0, o, its.toArray, n, h1, h2, h3, by simpa using items_of hv ha⟩, a, rfl⟩
theorem tk_one {P : Program} {w : World} {h : Heap} {v : Value} {e f : List Int} (a : IsTk P w h v e) (b : IsTk P w h v f) : e = f := by
  obtain ⟨a1, rfl, _, x⟩ := a
  obtain ⟨a2, h0, _, y⟩ := b
  cases h0
  exact x.inj y
open Classical in
noncomputable def tkK (P : Program) (w : World) (h : Heap) (v : Value) : List Int := if z : ∃ e, IsTk P w h v e then z.choose else []
theorem tkK_eq {P : Program} {w : World} {h : Heap} {v : Value} {e : List Int} (r : IsTk P w h v e) : tkK P w h v = e := by
  unfold tkK
  rw [dif_pos ⟨e, r⟩]
  exact tk_one (Exists.choose_spec (⟨e, r⟩ : ∃ e, IsTk P w h v e)) r
theorem tksI {X : Cx} {pins : List (Addr × Obj)} {σ : L2.St} {H : Hp} {s : Shared} (I : L2.Inv X pins σ H s) : ∀ {xs : List V} {its : List Value} {es : List (List Int)}, Vals xs its → DpAll X.K H xs (es.map tupD) → (∀ e ∈ es, e ≠ []) →
    es = its.map (tkK X.prog X.w s.heap) ∧ ∀ u ∈ its, IsTk X.prog X.w s.heap u (tkK X.prog X.w s.heap u) ∧ RelV (backV u) u ∧ Dp X.K H (backV u) (tupD (tkK X.prog X.w s.heap u))
  | [], _, es, hv, hd, _ => by
    cases hv
    cases es with
    | nil => exact ⟨rfl, fun _ z => nomatch z⟩
    | cons e es => cases hd
  | x :: xs, _, es, hv, hd, h0 => by
    cases hv with
    | cons r hv =>
      cases es with
      | nil => cases hd
      | cons e es =>
        cases hd with
        | cons d hd =>
          obtain ⟨i1, i2⟩ := tksI I hv hd fun f hf => h0 f (List.mem_cons_of_mem _ hf)
          obtain ⟨j1, a, rfl⟩ := tkI I r d (h0 e List.mem_cons_self)
          have j2 := tkK_eq j1
          refine ⟨by rw [List.map_cons, j2, ← i1], fun u hu => ?_⟩
          rcases List.mem_cons.mp hu with rfl | hu
          · cases r
            rw [j2]
            exact ⟨j1, rfl, d⟩
          · exact i2 u hu
def rSortT (K : PySem.W.Frag) : List V → Hp → VK → Prop := fun vs H Q => ∃ (a : Addr) (es : List (List Int)), vs = [.ref a] ∧ Dp K H (.ref a) (.list (es.map tupD)) ∧ (∀ e ∈ es, e ≠ []) ∧
  ∀ (es' : List (List Int)) (p : Addr) H', es'.Perm es → es'.Pairwise (fun e f => ltL f e = false) → H p = none → Same H H' → Dp K H' (.ref p) (.list (es'.map tupD)) → Q (.ref p) H'
theorem cr_sortT {X : Cx} {K : PySem.W.Frag} (hK : X.K = K := by rfl) : CallR X (.builtin "sorted") (rSortT K) := by
  subst hK
  intro pins s σ H xs us Q I hv h
  obtain ⟨a, es, rfl, hd, h0, q⟩ := h
  obtain ⟨u, rfl, ru⟩ := vals1 hv
  cases ru
  obtain ⟨a', ys, e0, hs, ha⟩ := dp_lst hd
  cases e0
  obtain ⟨its, hy, hp, hz⟩ := I.list hs
  have hl := hy.length
  obtain ⟨r1, r2⟩ := tksI I hy ha h0
  refine sorted_tk (k := tkK X.prog X.w s.heap) (PlainL.isList hp) (by omega) (fun v hv => (r2 v hv).1) fun h' d out o1 o2 o3 o4 o5 => ?_
  have hn : H d = none := I.hok.fresh o4
  have hvs : ∀ l : List Value, (∀ u ∈ l, u ∈ its) → Vals (l.map backV) l ∧ DpAll X.K H (l.map backV) ((l.map (tkK X.prog X.w s.heap)).map tupD) := by
    intro l
    induction l with
    | nil => exact fun _ => ⟨.nil, .nil⟩
    | cons u l ih =>
      intro hl
      obtain ⟨i1, i2⟩ := ih fun v hv => hl v (List.mem_cons_of_mem _ hv)
      obtain ⟨_, j1, j2⟩ := r2 u (hl u List.mem_cons_self)
      exact ⟨.cons j1 i1, .cons j2 i2⟩
  obtain ⟨v1, v2⟩ := hvs out fun u hu => (o1.mem_iff).mp hu
  have lo : out.length = its.length := o1.length_eq
  obtain ⟨n, o5⟩ := o5
  have same : Same H (upd H d (.lst (out.map backV))) := same_new hn
  refine ⟨.ref d, upd H d (.lst (out.map backV)), I.laid o3 o4 ⟨by rw [List.length_map]; omega, out, n, v1, o5⟩, rfl, q (out.map (tkK X.prog X.w s.heap)) d _ (by rw [r1]; exact o1.map _) (List.pairwise_map.mpr o2) hn same ?_⟩
  exact .lst (SqL.of upd_same) (dpa_same same v2)
section
variable {K : PySem.W.Frag} {H : Hp} {Q : VK}
theorem op_catTK {X : Cx} (h : X.K = K := by rfl) : OpR X (binaryOp .Add) (rCatT K) := h ▸ op_catT
/-- a tuple put behind a tuple -/
theorem w_catT {a b : V} {ds es : List PyData} (h : Dp K H a (.tuple ds)) (h' : Dp K H b (.tuple es)) (h0 : ds ≠ []) (h1 : es ≠ []) (hz : ds.length + es.length ≤ 1000000)
    (q : ∀ p H', H p = none → Same H H' → Dp K H' (.ref p) (.tuple (ds ++ es)) → Q (.ref p) H') : rCatT K a b H Q := by
  obtain ⟨a, xs, rfl, hs, ha⟩ := dp_tup h
  obtain ⟨b, ys, rfl, ht, hb⟩ := dp_tup h'
  have l1 := dpa_len ha
  have l2 := dpa_len hb
  have hsz := sizeLine_eq
  refine ⟨a, b, xs, ys, rfl, rfl, hs, ht, fun z => h0 (List.eq_nil_of_length_eq_zero (by rw [← l1, z]; rfl)), by omega, fun z => absurd (List.eq_nil_of_length_eq_zero (by rw [← l2, z]; rfl)) h1, fun _ p hp => ?_⟩
  have sm : Same H (upd H p (.tup (xs ++ ys))) := same_new hp
  exact q p _ hp sm (dp_newT upd_same (dpa_same sm (dpa_app ha hb)))
theorem noLs_ints : ∀ (k : List Int), noLs (k.map PyData.int) = true
  | [] => rfl
  | _ :: k => by simp only [List.map_cons, noLs, noL, Bool.true_and]; exact noLs_ints k
theorem noL_tupD (k : List Int) : noL (tupD k) = true := by
  unfold tupD
  rw [noL]
  exact noLs_ints k
theorem noLs_tupD : ∀ (es : List (List Int)), noLs (es.map tupD) = true
  | [] => rfl
  | e :: es => by
    simp only [List.map_cons, noLs, tupD, noL, noLs_ints, Bool.true_and]
    exact noLs_tupD es
end
/-- the signs of a text, each in a new pair -/
def Itse (x : Str) : It :=
  ⟨fun i _ => i < x.cps.size, fun i H v H' => ∃ T c, v = .ref T ∧ H T = none ∧ H' = upd H T (.tup [.int (i : Nat), .str ⟨#[c]⟩]) ∧ x.cps[i]? = some c, fun i _ => x.cps.size = i⟩
theorem turn_enumS {P : Program} {w : World} {K : PySem.W.Frag} {elts : List Expr} {kk : Nat} {tpos : Pos} (x : Str) (t : Tok) (en ic : Addr) :
    Turn P w K (.Tuple elts kk tpos) (Itse x) [en, ic] en (fun i h => (∃ last, IsEnum h en ic (i : Int) last) ∧ h.IsStrIter ic (strIterType x) x t i ∧ en ≠ ic) := by
  have two : ∀ {b : Addr}, b ∈ [en, ic] → b = en ∨ b = ic := fun m => by simpa using m
  refine { mem := List.mem_cons_self, obj := ?_, keep := ?_, item := ?_, done := ?_, self := ?_ }
  · rintro i h ⟨⟨last, q1⟩, ⟨oi, q2, _, q3⟩, _⟩ b m
    rcases two m with rfl | rfl
    · exact ⟨_, q1, fun _ z => by cases z⟩
    · exact ⟨oi, q2, fun _ z => by rw [q3] at z; cases z⟩
  · rintro i h h' ⟨⟨last, q1⟩, ⟨oi, q2, q3⟩, ne⟩ all
    exact ⟨⟨last, all en (by simp) _ q1⟩, ⟨oi, all ic (by simp) oi q2, q3⟩, ne⟩
  · intro X eP ew eK calm i pins st σ H E I fp ⟨⟨last, q1⟩, q2, ne⟩ lt
    subst eP; subst ew; subst eK
    have l1 : en < st.heap.objs.size := Heap.lt_size q1
    have l2 : ic < st.heap.objs.size := q2.elim fun _ z => Heap.lt_size z.1
    have signs : Draws X.prog X.w X.A.in1 ic [ic] x.cps.size (fun i v => ∃ c u, x.cps[i]? = some c ∧ v = .str ⟨#[c]⟩ u) (fun i h => h.IsStrIter ic (strIterType x) x t i) :=
      Draws.text (A := X.A.in1) (show X.A.handled = none from I.ok.hd calm) ic x t
    refine wpAny_pyNext_enum_itemD signs q1 q2 lt ne (fun z => ne (List.mem_singleton.mp z)) ?_
    rintro _ h1 tk ⟨c, tu, get, rfl⟩ out q3 tup _ kept
    refine ⟨_, rfl, wpAny_letOwnedTupleGo_enum (s := ⟨h1, st.gens, st.drawn, tk + 1, st.os⟩) out fun h2 q4 but => ?_⟩
    have tup2 : h2.get? st.heap.objs.size = some { cls := .type "tuple", data := .seq #[.int i tk, .str ⟨#[c]⟩ tu] } := by
      rw [← tup]
      exact but.2 _ (Nat.ne_of_gt l1)
    have far : ∀ b ob, b ∉ [en, ic] → st.heap.get? b = some ob → h2.get? b = some ob := by
      intro b ob nm z
      have n1 : b ≠ en := fun y => nm (y ▸ List.mem_cons_self)
      have n2 : b ≠ ic := fun y => nm (by simp [y])
      rw [← kept b ob n1 n2 z]
      exact but.2 b n1
    have I2 : Inv X pins σ (upd H st.heap.objs.size (.tup [.int (i : Nat), .str ⟨#[c]⟩])) { st with heap := h2, toks := tk + 1 } := by
      refine I.turnedNew (ch := [en, ic]) far fp (Nat.le_refl _) ⟨(by decide : 2 ≤ sizeLine), [.int i tk, .str ⟨#[c]⟩ tu], ?_, _, tup2, rfl, _, rfl⟩
      exact .cons ⟨tk, rfl⟩ (.cons ⟨tu, rfl⟩ .nil)
    have next : IsEnum h2 en ic ((i + 1 : Nat) : Int) (.str ⟨#[c]⟩ tu) := by
      rw [show ((i + 1 : Nat) : Int) = (i : Int) + 1 from Int.natCast_succ i]
      exact q4
    obtain ⟨oi, z1, z2⟩ := q3
    refine ⟨.ref st.heap.objs.size, _, I2, rfl, ⟨_, c, rfl, I.hok.fresh (Nat.le_refl _), rfl, get⟩, ⟨⟨_, next⟩, ⟨oi, (but.2 ic ne.symm).trans z1, z2⟩, ne⟩, fun b m => ?_⟩
    have lb : b < st.heap.objs.size := by
      rcases two m with rfl | rfl
      · exact l1
      · exact l2
    exact (upd_ne (Nat.ne_of_lt lb)).trans (fp b m).1
  · intro X eP ew eK calm i pins st σ H E I fp ⟨⟨last, q1⟩, q2, ne⟩ stop
    subst eP; subst ew; subst eK
    obtain ⟨a0, a1, _, a3, a4, a5⟩ := fp ic (by simp)
    cases (show x.cps.size = i from stop)
    have signs : Draws X.prog X.w X.A.in1 ic [ic] x.cps.size (fun i v => ∃ c u, x.cps[i]? = some c ∧ v = .str ⟨#[c]⟩ u) (fun i h => h.IsStrIter ic (strIterType x) x t i) :=
      Draws.text (A := X.A.in1) (show X.A.handled = none from I.ok.hd calm) ic x t
    exact wpAny_pyNext_enum_endD signs q1 q2 fun h1 but => ⟨rfl, I.turned (t' := st.toks) (fun b ob nb z => but b ob nb z) a0 a1 a3 a4 a5⟩
  · rintro A i st Q E ⟨⟨_, q1⟩, _⟩ q
    exact wpAny_pyIter_enum q1 q
def iEnumS (ta : TA) : TI := fun σ H R => ta σ H fun vs H1 => ∃ x, vs = [.str x] ∧ R (Itse x) H1
theorem pi_enumS {X : Cx} {e : Expr} {ta : TA} {p pos tpos : Pos} {elts : List Expr} {kk : Nat} (hg : Gl X "enumerate") (hm : X.mg "enumerate" = none) (ha : PA X [e] ta) (one : starEach [e] X.env = [(false, eval e X.env)] := by rfl) :
    PI X (.Tuple elts kk tpos) (.Call (.Name "enumerate" p) [e] [] pos) (iEnumS ta) := by
  constructor
  intro pins st σ H R I want
  have args := ha.run pos pins st σ H _ I want
  refine Call_ (ld_blt I hg hm boot_enumerate (PyProof.Rows.callWith_type1 (thn args ?_) one rfl))
  rintro _ t1 ⟨_, H1, I1, rv, x, rfl, q⟩
  cases rv with
  | cons r1 r2 =>
    cases r2
    obtain ⟨t, rfl⟩ := r1
    refine call_enumerate_str fun h1 q1 q2 _ kept => wpAny_pyIter_enum q1 ?_
    have new : ∀ b ∈ [t1.heap.objs.size + 1, t1.heap.objs.size], t1.heap.objs.size ≤ b := fun b m => by
      simp only [List.mem_cons, List.not_mem_nil, or_false] at m
      omega
    exact ⟨_, _, _, _, H1, rfl, I1.kept (t' := t1.toks) kept, turn_enumS x t _ t1.heap.objs.size, ⟨⟨.none, q1⟩, q2, Nat.succ_ne_self _⟩, fun b m => I1.fpOk (new b m) (I1.hok.fresh (new b m)), q⟩
variable {K : PySem.W.Frag} {g : TG} {tb : TS} {D : Ends} {σ : L2.St} {H : Hp} {ta : TA}
def rForE (g : TG) (tb : TS) (D : Ends) (σ : L2.St) (vs : List V) (H1 : Hp) : Prop := ∃ x, vs = [.str x] ∧ rForI (Itse x) g tb D σ H1
theorem w_forE (h : ta σ H fun vs H1 => rForE g tb D σ vs H1) : tFor (iEnumS ta) g tb D σ H := h
/-- the signs of a text, one after another, with their indices -/
theorem forE_by {l : List Nat} (Pv : Nat → L2.St → Hp → Prop) (h0 : Pv 0 σ H)
    (hs : ∀ i c T σ' H' H2, l[i]? = some c → Pv i σ' H' → Same H' H2 → Dp K H2 (.ref T) (.tuple [.int i, .str (Sg [c])]) → g (.ref T) σ' H2 fun σ2 H2 => tb { D with nx := Pv (i + 1), ct := Pv (i + 1), bk := D.nx } σ2 H2)
    (hd : ∀ σ' H', Pv l.length σ' H' → D.nx σ' H') : rForE g tb D σ [.str (Sg l)] H := by
  have hz : (Sg l).cps.size = l.length := by simp [Sg]
  have hget : ∀ i : Nat, (Sg l).cps[i]? = l[i]? := fun i => by rw [← Array.getElem?_toList, sg_tl]
  refine ⟨Sg l, rfl, fun i m σ H => m = l.length - i ∧ i ≤ l.length ∧ Pv i σ H, ⟨_, rfl, Nat.zero_le _, h0⟩, ?_⟩
  rintro i m σ' H' ⟨rfl, hi, p⟩
  by_cases hlt : i < l.length
  · refine .inr ⟨by show i < _; omega, Pv (i + 1), fun σ' H' p' => ⟨l.length - (i + 1), by omega, rfl, hlt, p'⟩, fun w H2 y => ?_⟩
    obtain ⟨T, c, rfl, hT, rfl, f1⟩ := y
    rw [hget] at f1
    have sm : Same H' (upd H' T (.tup [.int (i : Nat), .str ⟨#[c]⟩])) := same_new hT
    exact hs i c T σ' H' _ f1 p sm (.tup (SqT.of upd_same) (.cons (.int _) (dpa_one (.str _))))
  · have e : i = l.length := by omega
    subst e
    exact .inl ⟨hz, hd σ' H' p⟩
end Tw
namespace Tw
def fdR : Nat → List (List Nat)
  | 0 => [[1]]
  | i + 1 => fdR i ++ (fdR i).map (· ++ [i + 2])
def rowsN (n : Nat) : List (List Nat) := if n = 1 then [[1]] else (fdR (n - 2)).map (· ++ [n])
def swA (n : Nat) : List (List Nat) := if n = 1 then [[42]] else swL n
theorem fdR_len : ∀ i, (fdR i).length = 2 ^ i
  | 0 => rfl
  | i + 1 => by
    show (fdR i ++ _).length = _
    rw [List.length_append, List.length_map, fdR_len i, Nat.pow_succ]
    omega
theorem fdR_mem : ∀ i, ∀ r ∈ fdR i, ∃ t, r = 1 :: t ∧ r.Pairwise (· < ·) ∧ ∀ k ∈ r, k < i + 2
  | 0, r, h => by
    rw [List.mem_singleton.mp h]
    exact ⟨[], rfl, List.pairwise_singleton _ _, by simp⟩
  | i + 1, r, h => by
    rcases List.mem_append.mp h with h | h
    · obtain ⟨t, a, b, c⟩ := fdR_mem i r h
      exact ⟨t, a, b, fun k hk => by have := c k hk; omega⟩
    · obtain ⟨r', h', rfl⟩ := List.mem_map.mp h
      obtain ⟨t, rfl, b, c⟩ := fdR_mem i r' h'
      refine ⟨t ++ [i + 2], rfl, List.pairwise_append.mpr ⟨b, List.pairwise_singleton _ _, fun x hx y hy => by rw [List.mem_singleton.mp hy]; exact c x hx⟩, fun k hk => ?_⟩
      rcases List.mem_append.mp hk with z | z
      · have := c k z; omega
      · rw [List.mem_singleton.mp z]; omega
theorem nodup_map_app {l : List (List Nat)} (x : List Nat) (h : l.Nodup) : (l.map (· ++ x)).Nodup := by
  rw [List.Nodup, List.pairwise_map]
  exact h.imp fun z e => z (List.append_cancel_right e)
theorem fdR_nodup : ∀ i, (fdR i).Nodup
  | 0 => by simp [fdR]
  | i + 1 => by
    refine List.nodup_append.mpr ⟨fdR_nodup i, nodup_map_app _ (fdR_nodup i), fun a ha b hb e => ?_⟩
    subst e
    obtain ⟨r', _, rfl⟩ := List.mem_map.mp hb
    obtain ⟨_, _, _, c⟩ := fdR_mem i _ ha
    have := c (i + 2) (by simp)
    omega
theorem rowsN_nodup (n : Nat) : (rowsN n).Nodup := by
  unfold rowsN
  split
  · simp
  · exact nodup_map_app _ (fdR_nodup _)
theorem rowsN_mem {n : Nat} (h1 : 1 ≤ n) {r : List Nat} (h : r ∈ rowsN n) : ∃ t, r = 1 :: t ∧ r.Pairwise (· < ·) ∧ (1 :: t).getLast (by simp) = n := by
  unfold rowsN at h
  by_cases e : n = 1
  · rw [if_pos e] at h
    rw [List.mem_singleton.mp h]
    exact ⟨[], rfl, List.pairwise_singleton _ _, e.symm⟩
  · rw [if_neg e] at h
    obtain ⟨r', h', rfl⟩ := List.mem_map.mp h
    obtain ⟨t, rfl, b, c⟩ := fdR_mem _ r' h'
    refine ⟨t ++ [n], rfl, List.pairwise_append.mpr ⟨b, List.pairwise_singleton _ _, fun x hx y hy => by rw [List.mem_singleton.mp hy]; have := c x hx; omega⟩, ?_⟩
    rw [List.getLast_cons (by simp)]
    exact List.getLast_concat
theorem begs_mem : ∀ k, ∀ b : List Nat, b ∈ begs k ↔ b.length = k + 1 ∧ b.getD 0 0 = 49 ∧ ∀ c ∈ b, c = 48 ∨ c = 49
  | 0, b => by
    show b ∈ [[49]] ↔ _
    rw [List.mem_singleton]
    constructor
    · rintro rfl; simp
    · rintro ⟨h1, h2, _⟩
      match b, h1 with
      | [c], _ => simpa using h2
  | k + 1, b => by
    have e : begs (k + 1) = (begs k).flatMap fun b => [b ++ [48], b ++ [49]] := rfl
    rw [e, List.mem_flatMap]
    constructor
    · rintro ⟨a, ha, hb⟩
      obtain ⟨g1, g2, g3⟩ := (begs_mem k a).mp ha
      have hx : ∀ x : Nat, (x = 48 ∨ x = 49) → (a ++ [x]).length = k + 1 + 1 ∧ (a ++ [x]).getD 0 0 = 49 ∧ ∀ c ∈ a ++ [x], c = 48 ∨ c = 49 := by
        intro x hx
        refine ⟨by simp [g1], by rw [getD_left (by omega)]; exact g2, fun c hc => ?_⟩
        rcases List.mem_append.mp hc with z | z
        · exact g3 c z
        · rw [List.mem_singleton.mp z]; exact hx
      rcases List.mem_cons.mp hb with rfl | hb
      · exact hx 48 (.inl rfl)
      · rw [List.mem_singleton.mp hb]
        exact hx 49 (.inr rfl)
    · rintro ⟨h1, h2, h3⟩
      have hb : b ≠ [] := fun z => by rw [z] at h1; simp at h1
      have hc := List.dropLast_concat_getLast hb
      refine ⟨b.dropLast, (begs_mem k _).mpr ⟨by rw [List.length_dropLast]; omega, ?_, fun c hc => h3 c (List.dropLast_subset _ hc)⟩, ?_⟩
      · rw [← h2]
        conv => rhs; rw [← hc]
        rw [getD_left (by rw [List.length_dropLast]; omega)]
      · rcases h3 _ (List.getLast_mem hb) with z | z
        · rw [z] at hc
          rw [hc]
          exact List.mem_cons_self
        · rw [z] at hc
          rw [hc]
          simp
/-- a word of a length: what swA lists -/
theorem swA_mem {n : Nat} (h1 : 1 ≤ n) (w : List Nat) : w ∈ swA n ↔ StD w n ∧ (n = 1 ∨ w.getD 0 0 = 49) := by
  unfold swA
  by_cases e : n = 1
  · rw [if_pos e, List.mem_singleton]
    subst e
    constructor
    · rintro rfl
      exact ⟨⟨rfl, by decide, fun j hj => by omega, rfl⟩, .inl rfl⟩
    · rintro ⟨⟨a, _, _, d⟩, _⟩
      match w, a with
      | [c], _ => simpa using d
  · rw [if_neg e]
    unfold swL
    rw [List.mem_map]
    constructor
    · rintro ⟨b, hb, rfl⟩
      obtain ⟨g1, g2, g3⟩ := (begs_mem _ b).mp hb
      refine ⟨⟨by simp [g1]; omega, h1, fun j hj => ?_, ?_⟩, .inr ?_⟩
      · rw [getD_left (by omega)]
        exact g3 _ (getD_in (by omega))
      · rw [List.getD_eq_getElem?_getD, List.getElem?_append_right (by omega), show n - 1 - b.length = 0 by omega]
        rfl
      · rw [getD_left (by omega)]
        exact g2
    · rintro ⟨⟨a, b, c, d⟩, f⟩
      have hw : w ≠ [] := fun z => by rw [z] at a; simp at a; omega
      have hc := List.dropLast_concat_getLast hw
      have hl : w.getLast hw = 42 := by
        rw [← d, List.getLast_eq_getElem, List.getD_eq_getElem?_getD, List.getElem?_eq_getElem (by omega)]
        simp [a]
      rw [hl] at hc
      have hdl : w.dropLast.length = n - 1 := by rw [List.length_dropLast, a]
      have hg : ∀ j, j < n - 1 → w.dropLast.getD j 0 = w.getD j 0 := fun j hj => by
        conv => rhs; rw [← hc]
        rw [getD_left (by omega)]
      refine ⟨w.dropLast, (begs_mem _ _).mpr ⟨by omega, ?_, fun x hx => ?_⟩, hc⟩
      · rw [hg 0 (by omega)]
        rcases f with z | z
        · exact absurd z e
        · exact z
      · obtain ⟨j, hj, rfl⟩ := List.getElem_of_mem hx
        have := c j (by omega)
        rw [← hg j (by omega), List.getD_eq_getElem?_getD, List.getElem?_eq_getElem hj] at this
        exact this
theorem swA_len {n : Nat} (h1 : 1 ≤ n) : (swA n).length = (rowsN n).length := by
  unfold swA rowsN
  by_cases e : n = 1
  · rw [if_pos e, if_pos e]; rfl
  · rw [if_neg e, if_neg e, List.length_map, fdR_len]
    unfold swL
    rw [List.length_map, (begs_len _).1]
/-- the star word of a row is a word of its length -/
theorem woW_swA {t : List Nat} {n : Nat} (hp : (1 :: t).Pairwise (· < ·)) (hl : (1 :: t).getLast (by simp) = n) : woW t ∈ swA n := by
  obtain ⟨⟨x, e1⟩, e2, e3, e4⟩ := woA_spec t [49] 1 (by decide) rfl (fun c hc => by rw [List.mem_singleton.mp hc]; decide) hp
  have ne : woA [49] 1 t ≠ [] := by rw [e1]; simp
  have hlen := woW_len ne
  have hpos := List.length_pos_iff.mpr ne
  have hn : (woA [49] 1 t).length = n := e2.trans hl
  refine (swA_mem (by omega) _).mpr ⟨⟨by omega, by omega, fun j hj => ?_, ?_⟩, ?_⟩
  · rw [woW_getD (by omega)]
    exact e3 _ (getD_in (by omega))
  · rw [← hn]
    exact woW_last ne
  · by_cases z : n = 1
    · exact .inl z
    · refine .inr ?_
      rw [woW_getD (by omega), e1]
      rfl
open Classical in
noncomputable def adW (l : List Nat) : List Int := if h : ∃ ns, Chn l l.length (some 1) ns then h.choose else []
theorem adW_eq {l : List Nat} {ns : List Int} (h : Chn l l.length (some 1) ns) : adW l = ns := by
  unfold adW
  rw [dif_pos ⟨ns, h⟩]
  exact (Exists.choose_spec (⟨ns, h⟩ : ∃ ns, Chn l l.length (some 1) ns)).unique h
def upI (r : List Nat) : List Int := r.map fun k : Nat => (k : Int)
theorem upI_inj {a b : List Nat} (h : upI a = upI b) : a = b := by
  induction a generalizing b with
  | nil => cases b with
    | nil => rfl
    | cons y b => cases h
  | cons x a ih => cases b with
    | nil => cases h
    | cons y b =>
      unfold upI at h
      rw [List.map_cons, List.map_cons] at h
      obtain ⟨h1, h2⟩ := List.cons.inj h
      rw [ih h2, Int.ofNat.inj h1]
/-- the addresses of all words are all rows -/
theorem rows_adr {n : Nat} (h1 : 1 ≤ n) : ((rowsN n).map upI).Perm ((swA n).map adW) := by
  refine perm_of ?_ (fun a ha => ?_) (by rw [List.length_map, List.length_map, swA_len h1]; exact Nat.le_refl _)
  · rw [List.Nodup, List.pairwise_map]
    exact (rowsN_nodup n).imp fun z e => z (upI_inj e)
  · obtain ⟨r, hr, rfl⟩ := List.mem_map.mp ha
    obtain ⟨t, rfl, hp, hl⟩ := rowsN_mem h1 hr
    refine List.mem_map.mpr ⟨woW t, woW_swA hp hl, ?_⟩
    exact adW_eq (woW_chn hp).1
/-- a word's address is a row, and the row's star word is the word -/
theorem word_row {n : Nat} (h1 : 1 ≤ n) {w : List Nat} (hw : w ∈ swA n) {ns : List Int} (h : Chn w w.length (some 1) ns) : ∃ t, ns = upI (1 :: t) ∧ (1 :: t).Pairwise (· < ·) ∧ (1 :: t).getLast (by simp) = n ∧ woW t = w := by
  have hm : ns ∈ (rowsN n).map upI := (rows_adr h1).mem_iff.mpr (List.mem_map.mpr ⟨w, hw, adW_eq h⟩)
  obtain ⟨r, hr, rfl⟩ := List.mem_map.mp hm
  obtain ⟨t, rfl, hp, hl⟩ := rowsN_mem h1 hr
  refine ⟨t, rfl, hp, hl, ?_⟩
  obtain ⟨a1, a2⟩ := (swA_mem h1 w).mp hw
  obtain ⟨b1, b2⟩ := (swA_mem h1 (woW t)).mp (woW_swA hp hl)
  have c := (woW_chn hp).1
  rw [b1.1] at c
  rw [a1.1] at h
  refine chn_word b1 a1 ?_ c h
  rcases a2 with z | z
  · exact .inl z
  · rcases b2 with y | y
    · exact .inl y
    · exact .inr (y.trans z.symm)
theorem strOk_w {l : List Nat} (h : ∀ c ∈ l, c = 42 ∨ c = 48 ∨ c = 49) : PySem.PyData.strOk (Sg l) = true := by
  unfold PySem.PyData.strOk
  rw [← Array.all_toList, sg_tl, List.all_eq_true]
  intro c hc
  rcases h c hc with z | z | z <;> rw [z] <;> decide
theorem alL_ok {i n : Nat} {x : List Nat} (h : x ∈ (if i + 1 = n then [[42]] else if i = 0 then [[49]] else [[48], [49]])) : ∀ c ∈ x, c = 42 ∨ c = 48 ∨ c = 49 := by
  split at h
  · rw [List.mem_singleton.mp h]; decide
  · split at h
    · rw [List.mem_singleton.mp h]; decide
    · rcases List.mem_cons.mp h with z | z
      · rw [z]; decide
      · rw [List.mem_singleton.mp z]; decide
theorem swA_ok {n : Nat} (h1 : 1 ≤ n) {w : List Nat} (hw : w ∈ swA n) : ∀ c ∈ w, c = 42 ∨ c = 48 ∨ c = 49 := by
  obtain ⟨⟨a, _, c, d⟩, _⟩ := (swA_mem h1 w).mp hw
  intro x hx
  obtain ⟨j, hj, rfl⟩ := List.getElem_of_mem hx
  have e : w.getD j 0 = w[j] := by rw [List.getD_eq_getElem?_getD, List.getElem?_eq_getElem hj]; rfl
  by_cases z : j + 1 < n
  · rcases c j z with y | y <;> rw [e] at y <;> simp [y]
  · rw [show n - 1 = j by omega, e] at d
    exact .inl d
theorem le_last : ∀ {l : List Nat} (h : l ≠ []), l.Pairwise (· < ·) → ∀ k ∈ l, k ≤ l.getLast h
  | [a], _, _, k, hk => by rw [List.mem_singleton.mp hk]; exact Nat.le_refl _
  | a :: b :: r, _, hp, k, hk => by
    obtain ⟨g1, g2⟩ := List.pairwise_cons.mp hp
    rw [List.getLast_cons (by simp)]
    rcases List.mem_cons.mp hk with rfl | hk
    · exact Nat.le_of_lt (g1 _ (List.getLast_mem _))
    · exact le_last (by simp) g2 k hk
end Tw
namespace Tw
open PySem PySem.Spec PyProof.Rows L2
/-- no text: one of the odd kinds -/
inductive Odd (K : PySem.W.Frag) (H : Hp) : V → Prop
  | non : Odd K H .non
  | bl (b : Bool) : Odd K H (.bl b)
  | int (i : Int) : Odd K H (.int i)
  | tup {v : V} {ds : List PyData} (h : Dp K H v (.tuple ds)) : Odd K H v
  | lst {v : V} {ds : List PyData} (h : Dp K H v (.list ds)) : Odd K H v
  | dict {p : Addr} (h : H p = some (.dT [])) : Odd K H (.ref p)
theorem Odd.keep {K : PySem.W.Frag} {H H' : Hp} {v : V} (e : Keep H H') (h : Odd K H v) : Odd K H' v := by
  cases h with
  | non => exact .non
  | bl b => exact .bl b
  | int i => exact .int i
  | tup h => exact .tup (dp_keep e h)
  | lst h => exact .lst (dp_keep e h)
  | dict h => exact .dict (e _ _ (fun _ z => nomatch z) h)
theorem Odd.ty {K : PySem.W.Frag} {H : Hp} {v : V} (h : Odd K H v) : ∃ t, TyX K H v (.type t) ∧ kitB t "str" = some false := by
  cases h with
  | non => exact ⟨_, ty_non, by decide +kernel⟩
  | bl b => exact ⟨_, ty_bl, by decide +kernel⟩
  | int i => exact ⟨_, ty_int, by decide +kernel⟩
  | tup h => exact ⟨_, ty_tup h, by decide +kernel⟩
  | lst h => exact ⟨_, ty_lst h, by decide +kernel⟩
  | dict h => exact ⟨_, .base (.dT h), by decide +kernel⟩
/-- the signs that are met -/
def Sgs (l : List Nat) : Prop := ∀ c ∈ l, c = 42 ∨ c = 48 ∨ c = 49 ∨ c = 32 ∨ c = 50
inductive AnyV (K : PySem.W.Frag) (H : Hp) : V → Prop
  | txt {l : List Nat} (hs : Sgs l) (hl : l.length ≤ 100) : AnyV K H (.str (Sg l))
  | odd {v : V} (h : Odd K H v) : AnyV K H v
theorem AnyV.keep {K : PySem.W.Frag} {H H' : Hp} {v : V} (e : Keep H H') (h : AnyV K H v) : AnyV K H' v := by
  cases h with
  | txt a b => exact .txt a b
  | odd h => exact .odd (h.keep e)
theorem strOk_s {l : List Nat} (h : Sgs l) : PySem.PyData.strOk (Sg l) = true := by
  unfold PySem.PyData.strOk
  simp only [Sg]
  simp [List.all_eq_true]
  intro x hx
  rcases h x hx with rfl | rfl | rfl | rfl | rfl <;> decide
def alL (i n : Nat) : List (List Nat) := if i + 1 = n then [[42]] else if i = 0 then [[49]] else [[48], [49]]
/-- the mark at i may stand there -/
abbrev OkAt (l : List Nat) (i : Nat) : Prop := [l.getD i 0] ∈ alL i l.length
def wrL (l : List Nat) : Option Int := if l.length = 0 ∨ 24 < l.length then some (-1) else ((List.range l.length).find? fun i => !(alL i l.length).contains [l.getD i 0]).map fun (n : Nat) => (n : Int)
theorem wrL_bad {l : List Nat} (h : l.length = 0 ∨ 24 < l.length) : wrL l = some (-1) := by rw [wrL, if_pos h]
theorem wrL_at {l : List Nat} {i : Nat} (h : ¬ (l.length = 0 ∨ 24 < l.length)) (hi : i < l.length) (hb : ∀ j, j < i → OkAt l j) (hn : ¬ OkAt l i) : wrL l = some (i : Int) := by
  rw [wrL, if_neg h]
  have : (List.range l.length).find? (fun i => !(alL i l.length).contains [l.getD i 0]) = some i := by
    rw [List.find?_range_eq_some]
    refine ⟨?_, List.mem_range.mpr hi, fun j hj => ?_⟩
    · have : (alL i l.length).contains [l.getD i 0] = false := by
        cases z : (alL i l.length).contains [l.getD i 0] with
        | false => rfl
        | true => exact absurd (List.contains_iff_mem.mp z) hn
      rw [this]; rfl
    · have := List.contains_iff_mem.mpr (hb j hj)
      rw [this]; rfl
  rw [this]
  rfl
theorem wrL_none {l : List Nat} (h : ¬ (l.length = 0 ∨ 24 < l.length)) (hb : ∀ j, j < l.length → OkAt l j) : wrL l = none := by
  rw [wrL, if_neg h]
  have : (List.range l.length).find? (fun i => !(alL i l.length).contains [l.getD i 0]) = none := by
    rw [List.find?_eq_none]
    intro j hj
    have := List.contains_iff_mem.mpr (hb j (List.mem_range.mp hj))
    rw [this]
    decide
  rw [this]
  rfl
theorem alL_str (i n : Nat) : ∀ z ∈ (alL i n).map (fun s => PyData.str (Sg s)), pln 8 z = true := by
  intro z hz
  obtain ⟨x, hx, rfl⟩ := List.mem_map.mp hz
  exact strOk_w (alL_ok hx)
theorem log2_ok1 {n : Int} (h0 : -1 ≤ n) (h1 : n < 1000000) : n.natAbs.log2 < 1920 := by
  by_cases h : 0 ≤ n
  · exact log2_ok h h1
  · have : n = -1 := by omega
    subst this
    decide
theorem strI_len1 {n : Int} (h0 : -1 ≤ n) (h1 : n < 1000000) : (Str.ofString (toString n)).length ≤ 6 := by
  by_cases h : 0 ≤ n
  · exact strI_len h h1
  · have : n = -1 := by omega
    subst this
    decide +kernel
/-- a list known in an older heap is walked -/
theorem forL_by0 {K : PySem.W.Frag} {H0 H : Hp} {σ : L2.St} {g : TG} {tb : TS} {D : Ends} {x : V} {ds : List PyData} (Pv : Nat → L2.St → Hp → Prop) (src : Dp K H0 x (.list ds)) (k0 : Keep H0 H) (h0 : Pv 0 σ H) (hk : ∀ i σ' H', i ≤ ds.length → Pv i σ' H' → Keep H0 H')
    (hs : ∀ i d y σ' H', ds[i]? = some d → Dp K H' y d → Pv i σ' H' → g y σ' H' fun σ2 H2 => tb { D with nx := Pv (i + 1), ct := Pv (i + 1), bk := D.nx } σ2 H2) (hd : ∀ σ' H', Pv ds.length σ' H' → D.nx σ' H') : rForL K g tb D σ x H := by
  obtain ⟨a, xs, rfl, hq, ha⟩ := dp_lst src
  have hl := dpa_len ha
  refine ⟨a, rfl, ⟨xs, k0.seqL hq⟩, for_list (xs := xs) Pv h0 (fun i σ' H' hi p => (hk i σ' H' (by omega) p).seqL hq) (fun i y σ' H' hi p => ?_) (fun σ' H' p => hd σ' H' (by rw [← hl]; exact p))⟩
  have hlt := (List.getElem?_eq_some_iff.mp hi).1
  obtain ⟨d, e1, e2⟩ := dpa_get2 ha hi
  exact hs i d y σ' H' e1 (dp_keep (hk i σ' H' (by omega) p) e2) p
theorem dpa_sgs {K : PySem.W.Frag} {H : Hp} : ∀ ls : List (List Nat), DpAll K H (ls.map fun b => V.str (Sg b)) (ls.map fun b => PyData.str (Sg b))
  | [] => .nil
  | l :: ls => .cons (.str _) (dpa_sgs ls)
end Tw
namespace Tw
open PySem PySem.Spec PyProof.Rows L2
def topS (i : Nat) : Stmt := PySem.Challenge.pw_twicedial_k56_star_words_judged.main.body.getD i (.Pass ⟨0, 0, 0, 0⟩)
abbrev s_NotText__init : Stmt := inClass (topS 3) 0
abbrev N_NotText__init : List Str := ["self", "place"]
theorem sc_NotText__init : FnScope N_NotText__init ["self", "place"] (defScope s_NotText__init) := ⟨rfl, rfl, rfl, by decide +kernel, rfl, by decide +kernel, by decide +kernel⟩
abbrev s_NotWord__init : Stmt := inClass (topS 4) 0
abbrev N_NotWord__init : List Str := ["self", "place"]
theorem sc_NotWord__init : FnScope N_NotWord__init ["self", "place"] (defScope s_NotWord__init) := ⟨rfl, rfl, rfl, by decide +kernel, rfl, by decide +kernel, by decide +kernel⟩
abbrev s_TooMany__init : Stmt := inClass (topS 6) 0
abbrev N_TooMany__init : List Str := ["self", "limit"]
theorem sc_TooMany__init : FnScope N_TooMany__init ["self", "limit"] (defScope s_TooMany__init) := ⟨rfl, rfl, rfl, by decide +kernel, rfl, by decide +kernel, by decide +kernel⟩
abbrev s_check_word : Stmt := topS 10
abbrev N_check_word : List Str := ["value", "at", "character"]
theorem sc_check_word : FnScope N_check_word ["value"] (defScope s_check_word) := ⟨rfl, rfl, rfl, by decide +kernel, rfl, by decide +kernel, by decide +kernel⟩
abbrev s_star_words : Stmt := topS 11
abbrev N_star_words : List Str := ["count", "beginnings", "_", "begun", "character"]
theorem sc_star_words : FnScope N_star_words ["count"] (defScope s_star_words) := ⟨rfl, rfl, rfl, by decide +kernel, rfl, by decide +kernel, by decide +kernel⟩
abbrev s__allowed : Stmt := topS 12
abbrev N__allowed : List Str := ["at", "count"]
theorem sc__allowed : FnScope N__allowed ["at", "count"] (defScope s__allowed) := ⟨rfl, rfl, rfl, by decide +kernel, rfl, by decide +kernel, by decide +kernel⟩
abbrev s__law_begun : Stmt := topS 14
abbrev N__law_begun : List Str := ["script", "k", "cells", "great", "seed", "cell"]
theorem sc__law_begun : FnScope N__law_begun ["script", "k"] (defScope s__law_begun) := ⟨rfl, rfl, rfl, by decide +kernel, rfl, by decide +kernel, by decide +kernel⟩
abbrev s__law_draw : Stmt := topS 15
abbrev N__law_draw : List Str := ["m", "below", "found", "spot", "cells", "extra", "cell", "blend"]
theorem sc__law_draw : FnScope N__law_draw ["m", "below"] (defScope s__law_draw) := ⟨rfl, rfl, rfl, by decide +kernel, rfl, by decide +kernel, by decide +kernel⟩
abbrev s__law_of : Stmt := topS 16
abbrev N__law_of : List Str := ["m", "some"]
theorem sc__law_of : FnScope N__law_of ["m", "some"] (defScope s__law_of) := ⟨rfl, rfl, rfl, by decide +kernel, rfl, by decide +kernel, by decide +kernel⟩
abbrev s__law_string : Stmt := topS 17
abbrev N__law_string : List Str := ["m", "size", "k"]
theorem sc__law_string : FnScope N__law_string ["m", "size"] (defScope s__law_string) := ⟨rfl, rfl, rfl, by decide +kernel, rfl, by decide +kernel, by decide +kernel⟩
abbrev s__law_all_words : Stmt := topS 18
abbrev N__law_all_words : List Str := ["count", "found", "k", "longer", "text"]
theorem sc__law_all_words : FnScope N__law_all_words ["count"] (defScope s__law_all_words) := ⟨rfl, rfl, rfl, by decide +kernel, rfl, by decide +kernel, by decide +kernel⟩
abbrev s__law_word : Stmt := topS 19
abbrev N__law_word : List Str := ["m", "most", "size"]
theorem sc__law_word : FnScope N__law_word ["m", "most"] (defScope s__law_word) := ⟨rfl, rfl, rfl, by decide +kernel, rfl, by decide +kernel, by decide +kernel⟩
abbrev s__law_wrong : Stmt := topS 20
abbrev N__law_wrong : List Str := ["value", "k", "last", "due"]
theorem sc__law_wrong : FnScope N__law_wrong ["value"] (defScope s__law_wrong) := ⟨rfl, rfl, rfl, by decide +kernel, rfl, by decide +kernel, by decide +kernel⟩
abbrev s__law_bent : Stmt := topS 21
abbrev N__law_bent : List Str := ["m", "word", "k", "turn", "sign"]
theorem sc__law_bent : FnScope N__law_bent ["m", "word"] (defScope s__law_bent) := ⟨rfl, rfl, rfl, by decide +kernel, rfl, by decide +kernel, by decide +kernel⟩
abbrev s__law_is_judged : Stmt := topS 22
abbrev N__law_is_judged : List Str := ["value", "due", "found", "error", "e", "wrong"]
theorem sc__law_is_judged : FnScope N__law_is_judged ["value"] (defScope s__law_is_judged) := ⟨rfl, rfl, rfl, by decide +kernel, rfl, by decide +kernel, by decide +kernel⟩
abbrev s__law_refused : Stmt := topS 23
abbrev N__law_refused : List Str := ["count", "limit", "e"]
theorem sc__law_refused : FnScope N__law_refused ["count"] (defScope s__law_refused) := ⟨rfl, rfl, rfl, by decide +kernel, rfl, by decide +kernel, by decide +kernel⟩
abbrev s_law : Stmt := topS 24
abbrev N_law : List Str := ["script", "k", "m", "word", "turn", "count"]
theorem sc_law : FnScope N_law ["script"] (defScope s_law) := ⟨rfl, rfl, rfl, by decide +kernel, rfl, by decide +kernel, by decide +kernel⟩
structure Top (K : PySem.W.Frag) (mg : Str → Option Value) where
  f_NotText__init : Addr
  fd_NotText__init : FuncData
  F_NotText__init : Fun K "__init__" "NotText.__init__" s_NotText__init f_NotText__init fd_NotText__init
  b_NotText__init : Binds K fd_NotText__init ["self", "place"] []
  f_NotWord__init : Addr
  fd_NotWord__init : FuncData
  F_NotWord__init : Fun K "__init__" "NotWord.__init__" s_NotWord__init f_NotWord__init fd_NotWord__init
  b_NotWord__init : Binds K fd_NotWord__init ["self", "place"] []
  f_TooMany__init : Addr
  fd_TooMany__init : FuncData
  F_TooMany__init : Fun K "__init__" "TooMany.__init__" s_TooMany__init f_TooMany__init fd_TooMany__init
  b_TooMany__init : Binds K fd_TooMany__init ["self", "limit"] []
  f_check_word : Addr
  fd_check_word : FuncData
  F_check_word : Fun K "check_word" "check_word" s_check_word f_check_word fd_check_word
  b_check_word : Binds K fd_check_word ["value"] []
  g_check_word : mg "check_word" = some (.ref f_check_word)
  f_star_words : Addr
  fd_star_words : FuncData
  F_star_words : Fun K "star_words" "star_words" s_star_words f_star_words fd_star_words
  b_star_words : Binds K fd_star_words ["count"] []
  g_star_words : mg "star_words" = some (.ref f_star_words)
  f__allowed : Addr
  fd__allowed : FuncData
  F__allowed : Fun K "_allowed" "_allowed" s__allowed f__allowed fd__allowed
  b__allowed : Binds K fd__allowed ["at", "count"] []
  g__allowed : mg "_allowed" = some (.ref f__allowed)
  f__law_begun : Addr
  fd__law_begun : FuncData
  F__law_begun : Fun K "_law_begun" "_law_begun" s__law_begun f__law_begun fd__law_begun
  b__law_begun : Binds K fd__law_begun ["script", "k"] []
  g__law_begun : mg "_law_begun" = some (.ref f__law_begun)
  f__law_draw : Addr
  fd__law_draw : FuncData
  F__law_draw : Fun K "_law_draw" "_law_draw" s__law_draw f__law_draw fd__law_draw
  b__law_draw : Binds K fd__law_draw ["m", "below"] []
  g__law_draw : mg "_law_draw" = some (.ref f__law_draw)
  f__law_of : Addr
  fd__law_of : FuncData
  F__law_of : Fun K "_law_of" "_law_of" s__law_of f__law_of fd__law_of
  b__law_of : Binds K fd__law_of ["m", "some"] []
  g__law_of : mg "_law_of" = some (.ref f__law_of)
  f__law_string : Addr
  fd__law_string : FuncData
  F__law_string : Fun K "_law_string" "_law_string" s__law_string f__law_string fd__law_string
  b__law_string : Binds K fd__law_string ["m", "size"] []
  g__law_string : mg "_law_string" = some (.ref f__law_string)
  f__law_all_words : Addr
  fd__law_all_words : FuncData
  F__law_all_words : Fun K "_law_all_words" "_law_all_words" s__law_all_words f__law_all_words fd__law_all_words
  b__law_all_words : Binds K fd__law_all_words ["count"] []
  g__law_all_words : mg "_law_all_words" = some (.ref f__law_all_words)
  f__law_word : Addr
  fd__law_word : FuncData
  F__law_word : Fun K "_law_word" "_law_word" s__law_word f__law_word fd__law_word
  b__law_word : Binds K fd__law_word ["m", "most"] []
  g__law_word : mg "_law_word" = some (.ref f__law_word)
  f__law_wrong : Addr
  fd__law_wrong : FuncData
  F__law_wrong : Fun K "_law_wrong" "_law_wrong" s__law_wrong f__law_wrong fd__law_wrong
  b__law_wrong : Binds K fd__law_wrong ["value"] []
  g__law_wrong : mg "_law_wrong" = some (.ref f__law_wrong)
  f__law_bent : Addr
  fd__law_bent : FuncData
  F__law_bent : Fun K "_law_bent" "_law_bent" s__law_bent f__law_bent fd__law_bent
  b__law_bent : Binds K fd__law_bent ["m", "word"] []
  g__law_bent : mg "_law_bent" = some (.ref f__law_bent)
  f__law_is_judged : Addr
  fd__law_is_judged : FuncData
  F__law_is_judged : Fun K "_law_is_judged" "_law_is_judged" s__law_is_judged f__law_is_judged fd__law_is_judged
  b__law_is_judged : Binds K fd__law_is_judged ["value"] []
  g__law_is_judged : mg "_law_is_judged" = some (.ref f__law_is_judged)
  f__law_refused : Addr
  fd__law_refused : FuncData
  F__law_refused : Fun K "_law_refused" "_law_refused" s__law_refused f__law_refused fd__law_refused
  b__law_refused : Binds K fd__law_refused ["count"] []
  g__law_refused : mg "_law_refused" = some (.ref f__law_refused)
  f_law : Addr
  fd_law : FuncData
  F_law : Fun K "law" "law" s_law f_law fd_law
  b_law : Binds K fd_law ["script"] []
  g_law : mg "law" = some (.ref f_law)
  c_DialError : Addr
  gc_DialError : mg "DialError" = some (.ref c_DialError)
  x_DialError : ExK K c_DialError
  y_DialError : ExB K c_DialError
  c_NotPlace : Addr
  gc_NotPlace : mg "NotPlace" = some (.ref c_NotPlace)
  x_NotPlace : ExK K c_NotPlace
  c_NotText : Addr
  gc_NotText : mg "NotText" = some (.ref c_NotText)
  x_NotText : ExK K c_NotText
  iC_NotText : PySem.W.findIn K (.ref c_NotText) "__init__" = some (some (.ref f_NotText__init))
  tI_NotText : PySem.W.typeIn K (.ref f_NotText__init) = some (.type "function")
  n_NotText_place : PySem.W.findIn K (.ref c_NotText) "place" = some none
  c_NotWord : Addr
  gc_NotWord : mg "NotWord" = some (.ref c_NotWord)
  x_NotWord : ExK K c_NotWord
  iC_NotWord : PySem.W.findIn K (.ref c_NotWord) "__init__" = some (some (.ref f_NotWord__init))
  tI_NotWord : PySem.W.typeIn K (.ref f_NotWord__init) = some (.type "function")
  n_NotWord_place : PySem.W.findIn K (.ref c_NotWord) "place" = some none
  c_NotLet : Addr
  gc_NotLet : mg "NotLet" = some (.ref c_NotLet)
  x_NotLet : ExK K c_NotLet
  c_TooMany : Addr
  gc_TooMany : mg "TooMany" = some (.ref c_TooMany)
  x_TooMany : ExK K c_TooMany
  iC_TooMany : PySem.W.findIn K (.ref c_TooMany) "__init__" = some (some (.ref f_TooMany__init))
  tI_TooMany : PySem.W.typeIn K (.ref f_TooMany__init) = some (.type "function")
  n_TooMany_limit : PySem.W.findIn K (.ref c_TooMany) "limit" = some none
  e_NotWord_DialError : PySem.W.exmOne K (.ref c_NotWord) (.ref c_DialError) = some true
  e_NotWord_TooMany : PySem.W.exmOne K (.ref c_NotWord) (.ref c_TooMany) = some false
  e_TooMany_DialError : PySem.W.exmOne K (.ref c_TooMany) (.ref c_DialError) = some true
  e_TooMany_TooMany : PySem.W.exmOne K (.ref c_TooMany) (.ref c_TooMany) = some true
  xc_NotWord : ExcC K c_NotWord
  k_NotWord_NotLet : PySem.W.kitOne K (.ref c_NotWord) (.ref c_NotLet) = some false
  k_NotWord_NotPlace : PySem.W.kitOne K (.ref c_NotWord) (.ref c_NotPlace) = some false
  k_NotWord_NotText : PySem.W.kitOne K (.ref c_NotWord) (.ref c_NotText) = some false
  k_NotWord_NotWord : PySem.W.kitOne K (.ref c_NotWord) (.ref c_NotWord) = some true
  k_NotWord_TooMany : PySem.W.kitOne K (.ref c_NotWord) (.ref c_TooMany) = some false
  k_NotWord_ValueError : PySem.W.kitOne K (.ref c_NotWord) (.type "ValueError") = some true
  xc_TooMany : ExcC K c_TooMany
  k_TooMany_NotLet : PySem.W.kitOne K (.ref c_TooMany) (.ref c_NotLet) = some false
  k_TooMany_NotPlace : PySem.W.kitOne K (.ref c_TooMany) (.ref c_NotPlace) = some false
  k_TooMany_NotText : PySem.W.kitOne K (.ref c_TooMany) (.ref c_NotText) = some false
  k_TooMany_NotWord : PySem.W.kitOne K (.ref c_TooMany) (.ref c_NotWord) = some false
  k_TooMany_TooMany : PySem.W.kitOne K (.ref c_TooMany) (.ref c_TooMany) = some true
  k_TooMany_ValueError : PySem.W.kitOne K (.ref c_TooMany) (.type "ValueError") = some true
  z_ValueError : mg "ValueError" = none
  z_bool : mg "bool" = none
  z_enumerate : mg "enumerate" = none
  z_int : mg "int" = none
  z_isinstance : mg "isinstance" = none
  z_len : mg "len" = none
  z_range : mg "range" = none
  z_str : mg "str" = none
  z_tuple : mg "tuple" = none
  t_MOST_CHARACTERS : Tok
  c_MOST_CHARACTERS : mg "MOST_CHARACTERS" = some (.int 24 t_MOST_CHARACTERS)
  t_MOST_LISTED : Tok
  c_MOST_LISTED : mg "MOST_LISTED" = some (.int 12 t_MOST_LISTED)
end Tw
namespace Tw
open PySem PySem.Spec PyProof.Rows L2
local macro_rules | `(tactic| walk_at "dp") => `(tactic| first
  | exact Dp.int _ | exact Dp.str _ | exact Dp.bl _ | exact Dp.non
  | assumption
  | ((refine' dp_same ?he ?hd); (case he => assumption); (case hd => walk_at "dp"))
  | ((refine' dp_keep ?he ?hd); (case he => assumption); (case hd => walk_at "dp")))
local macro_rules | `(tactic| walk_at "dpa") => `(tactic| first
  | exact DpAll.nil
  | assumption
  | ((refine' DpAll.cons ?ha ?hb); (case ha => walk_at "dp"); (case hb => walk_at "dpa")))
local macro_rules | `(tactic| walk_at "ty") => `(tactic| first
  | exact ty_int | exact ty_non | exact ty_bl | exact ty_str
  | ((refine' ty_tup ?hx); (case hx => walk_at "dp"))
  | ((refine' ty_lst ?hx); (case hx => walk_at "dp")))
local macro_rules | `(tactic| walk_at "c") => `(tactic| ((try dsimp only); (first
  | (with_reducible assumption) | omega | decide
  | (simp only [List.length_map]; omega)
  | exact mulS ⟨by omega, by omega⟩ ⟨by omega, by omega⟩
  | exact divS ⟨by omega, by omega⟩)))
local macro_rules | `(tactic| walk_at "e0") => `(tactic| first
  | with_reducible refine w_c ?_
  | ((with_reducible refine' w_var ?hv ?_); case hv => rfl)
  | with_reducible refine w_op ?_
  | with_reducible refine w_rI0 ?_
  | with_reducible refine w_rU ?_
  | with_reducible refine w_cons ?_
  | with_reducible refine w_nil ?_
  | with_reducible refine w_cb ?_
  | with_reducible refine w_call ?_
  | with_reducible refine w_tTest ?_
  | with_reducible refine w_bl ?_
  | with_reducible refine w_blV ?_
  | with_reducible refine w_andV ?_
  | with_reducible refine w_chain ?_
  | with_reducible refine w_orV ?_
  | with_reducible refine w_notV ?_
  | with_reducible refine w_tB ?_
  | with_reducible refine w_and ?_
  | with_reducible refine w_or ?_
  | with_reducible refine w_not ?_
  | with_reducible refine w_tI ?_
  | with_reducible refine w_un ?_
  | with_reducible refine w_int ?_
  | with_reducible refine w_tup ?_
  | with_reducible refine w_lst ?_
  | with_reducible refine w_tIsN ?_
  | with_reducible refine w_tNotN ?_
  | with_reducible refine w_slice ?_
  | with_reducible refine w_noPart ?_
  | with_reducible refine w_part ?_
  | with_reducible refine w_pint ?_
  | with_reducible refine w_isStr ?_
  | with_reducible refine w_bm ?_
  | with_reducible refine w_bm0 ?_
  | with_reducible refine w_m1 ?_
  | with_reducible refine w_tyS ?_
  | with_reducible refine w_dget ?_
  | with_reducible refine w_iteT ?_
  | with_reducible refine w_iteF ?_
  | with_reducible refine w_iteNT ?_
  | with_reducible refine w_iteNF ?_
  | with_reducible refine w_pp ?_
  | with_reducible refine w_pp0 ?_
  | with_reducible refine w_lcL ?_
  | with_reducible refine w_lcT ?_
  | with_reducible refine w_lcR1 ?_
  | with_reducible refine w_lcR2 ?_
  | with_reducible refine w_tYes ?_
  | ((with_reducible refine' w_dgS ?h ?hm ?_); (case h => assumption); (case hm => first | exact mo_left | exact mo_seed | exact mo_cells | exact mo_spot))
  | ((with_reducible refine' w_isiY ?ty ?h ?_); (case ty => walk_at "ty"); (case h => decide +kernel))
  | ((with_reducible refine' w_isiN ?ty ?h ?_); (case ty => walk_at "ty"); (case h => decide +kernel))
  | ((with_reducible refine' w_lenL ?h ?_); case h => walk_at "dp")
  | ((with_reducible refine' w_lenT ?h ?_); case h => walk_at "dp")
  | ((with_reducible refine' w_lenSg ?h ?_); case h => walk_at "c")
  | ((with_reducible refine' w_lenS ?h ?_); case h => walk_at "c")
  | ((with_reducible refine' w_addSg ?h ?_); case h => walk_at "c")
  | ((with_reducible refine' w_rI ?c ?_); case c => walk_at "c")
  | with_reducible refine w_eqI ?_
  | with_reducible refine w_neI ?_
  | ((with_reducible refine' w_rEq ?hs ?_); case hs => rfl)
  | ((with_reducible refine' w_rNe ?hs ?_); case hs => rfl))
local macro_rules | `(tactic| walk_at "e") => `(tactic| first
  | walk_at "e0"
  | ((with_reducible refine' w_rMod ?c ?_); case c => walk_at "c"))
local macro_rules | `(tactic| walk_at "p") => `(tactic| first
  | ((with_reducible refine' w_ix0 ?h ?_); case h => walk_at "dp")
  | ((with_reducible refine' w_ix1 ?h ?_); case h => walk_at "dp")
  | ((with_reducible refine' w_gTupP ?h ?_); case h => walk_at "dp")
  | with_reducible refine w_gcdN ?_
  | with_reducible refine w_absN ?_
  | with_reducible refine w_absI ?_
  | ((with_reducible refine' w_row0 ?h ?_); case h => walk_at "dp")
  | ((with_reducible refine' w_row1 ?h ?_); case h => walk_at "dp")
  | ((with_reducible refine' w_gTupR ?h ?_); case h => walk_at "dp")
  | ((with_reducible refine' w_truV ?he ?hl ?_); (case he => rfl); (case hl => walk_at "c"))
  | ((with_reducible refine' w_slSg ?hl ?_); (case hl => walk_at "c"))
  | with_reducible refine w_find3 ?_
  | with_reducible refine w_vei ?_
  | with_reducible refine w_ost ?_
  | with_reducible refine w_callS ?_
  | with_reducible refine w_xf ?_
  | with_reducible refine w_mko ?_
  | with_reducible refine w_kf ?_
  | with_reducible refine w_lcS ?_
  | with_reducible refine w_lc2 ?_
  | with_reducible refine w_bits ?_
  | with_reducible refine w_bitsI ?_
  | with_reducible refine w_lenSet ?_
  | with_reducible refine w_lenSetT ?_
  | with_reducible refine w_forZ ?_
  | with_reducible refine w_forE ?_
  | with_reducible refine w_max2 (fun _ _ => ?_)
  | with_reducible refine w_min2 (fun _ _ => ?_))
local macro_rules | `(tactic| walk_at "s0") => `(tactic| first
  | with_reducible refine w_seq ?_
  | with_reducible refine w_asg ?_
  | with_reducible refine w_ret ?_
  | with_reducible refine w_drop ?_
  | with_reducible refine w_next ?_
  | with_reducible refine w_retN ?_
  | with_reducible refine w_brk ?_
  | with_reducible refine w_cont ?_
  | with_reducible refine w_dput ?_
  | with_reducible refine w_forL ?_
  | with_reducible refine w_wb ?_
  | with_reducible refine w_forT ?_
  | with_reducible refine w_forR1 ?_
  | with_reducible refine w_forR2 ?_
  | with_reducible refine w_forS ?_
  | with_reducible refine w_gName ?_
  | with_reducible refine w_par ?_
  | with_reducible refine w_asgG ?_
  | with_reducible refine w_par3 ?_
  | with_reducible refine w_par33 ?_
  | with_reducible refine w_par2 ?_)
local macro_rules | `(tactic| walk_at "s") => `(tactic| first
  | walk_at "s0"
  | with_reducible refine w_ifS ?_)
local macro_rules | `(tactic| walk_at "w") => `(tactic| repeat first | walk_at "e" | walk_at "s")
local macro_rules | `(tactic| walk_at "w0") => `(tactic| repeat first | walk_at "e0" | walk_at "s")
local macro_rules | `(tactic| walk_at "wp") => `(tactic| repeat first | walk_at "e" | walk_at "s" | walk_at "p")
local macro_rules | `(tactic| walk_at "t") => `(tactic| first
  | ((with_reducible refine' w_newT (K := ‹PySem.W.Frag›) ?hl ?hd (fun _ _ _ _ _ => ?_)); (case hl => exact len_ok (by simp)); (case hd => walk_at "dpa"))
  | ((with_reducible refine' w_newL (K := ‹PySem.W.Frag›) ?hl ?hd (fun _ _ _ _ _ _ => ?_)); (case hl => exact len_ok (by simp)); (case hd => walk_at "dpa"))
  | ((with_reducible refine' w_gTup2 ?h (fun _ _ _ _ => ?_)); case h => walk_at "dp"))
local macro_rules | `(tactic| walk_at "wt") => `(tactic| repeat first | walk_at "e" | walk_at "s" | walk_at "p" | walk_at "t")
local macro_rules | `(tactic| walk_at "same") => `(tactic| first
  | exact Same.refl _
  | assumption
  | ((refine' Same.trans ?ha ?hb); (case hb => assumption); (case ha => walk_at "same")))
local macro_rules | `(tactic| walk_at "keep") => `(tactic| first
  | exact Keep.refl _
  | assumption
  | (refine Keep.of ?_; assumption)
  | ((refine' Keep.trans ?ha ?hb); (case hb => first | assumption | (refine Keep.of ?_; assumption)); (case ha => walk_at "keep")))
local macro_rules | `(tactic| walk_at "wi") => `(tactic| repeat first | walk_at "e" | walk_at "s0" | walk_at "p" | walk_at "t")
section
variable {P : Program} {w : World} {K : PySem.W.Frag} {mg : Str → Option Value} {base : Heap}
/-! ### NotText__init -/
def sp_NotText__init (K : PySem.W.Frag) : Sp := fun _ _ _ _ => False
theorem ok_NotText__init (T : Top K mg) : FnOk P w K mg base CX0 1 T.f_NotText__init T.fd_NotText__init ["self", "place"] (sp_NotText__init K) := by
  refine T.F_NotText__init.ok sc_NotText__init (fun vs H Q E h => ?_) (fun cdv A outer s H vs Q E hr h => ?_)
  · exact h.elim
  · exact h.elim

/-! ### NotWord__init -/
def sp_NotWord__init (K : PySem.W.Frag) : Sp := fun vs H Q _ => ∃ (a C : Addr) (n : Int), vs = [.ref a, .int n] ∧ OexC K C ∧ PySem.W.findIn K (.ref C) "place" = some none ∧ H a = some (exo a C none) ∧ -1 ≤ n ∧ n < 1000000 ∧ ∀ dx, H dx = none → dx ≠ a → Q .non (upd (upd H dx (exd dx [("place", .int n)])) a (exo a C (some dx)))
theorem ok_NotWord__init (T : Top K mg) : FnOk P w K mg base CX0 1 T.f_NotWord__init T.fd_NotWord__init ["self", "place"] (sp_NotWord__init K) := by
  refine T.F_NotWord__init.ok sc_NotWord__init (fun vs H Q E h => ?_) (fun cdv A outer s H vs Q E hr h => ?_)
  · obtain ⟨a, C, n, rfl, _⟩ := h
    rfl
  · obtain ⟨a, C, n, rfl, ox, hn, hx, h0, h1, q⟩ := h
    refine ⟨_, (pss_cons (ps_expr (pe_ownInit (by rfl) T.gc_DialError T.y_DialError.sp T.y_DialError.tp T.y_DialError.rd T.y_DialError.fc (pa_cons (pv 0) (pa_cons (pe_joined (.cons pe_str (.cons (pe_fmt (pv 1)) .nil))) pa_nil))))
      (pss_one (ps_ost (pv 0) (pv 1)))), ?_⟩
    rw [show start N_NotWord__init [.ref a, .int n] = [some (.ref a), some (.int n)] from rfl]
    try dsimp only [cxK]
    have hl := strI_len1 h0 h1
    have hz := sizeLine_eq
    walk_at "wp"
    refine w_js ⟨_, rfl, by rw [sizeLine_eq]; decide +kernel, w_js (w_fmt ⟨_, rfl, .inr ⟨n, rfl, log2_ok1 h0 h1, _, rfl, ?_, ?_⟩⟩)⟩
    · rw [str_app]
      have : (Str.empty ++ Str.ofString "no star word: wrong at index ").length = 29 := by decide +kernel
      omega
    · walk_at "wp"
      refine w_jsN ?_
      walk_at "wp"
      refine ⟨a, C, _, rfl, by simp, ox, hx, ?_⟩
      walk_at "wp"
      exact ⟨a, C, rfl, ox, hn, .inl ⟨hx, q⟩⟩

/-! ### TooMany__init -/
def sp_TooMany__init (K : PySem.W.Frag) : Sp := fun vs H Q _ => ∃ (a C : Addr) (n : Int), vs = [.ref a, .int n] ∧ OexC K C ∧ PySem.W.findIn K (.ref C) "limit" = some none ∧ H a = some (exo a C none) ∧ 0 ≤ n ∧ n < 1000000 ∧ ∀ dx, H dx = none → dx ≠ a → Q .non (upd (upd H dx (exd dx [("limit", .int n)])) a (exo a C (some dx)))
theorem ok_TooMany__init (T : Top K mg) : FnOk P w K mg base CX0 1 T.f_TooMany__init T.fd_TooMany__init ["self", "limit"] (sp_TooMany__init K) := by
  refine T.F_TooMany__init.ok sc_TooMany__init (fun vs H Q E h => ?_) (fun cdv A outer s H vs Q E hr h => ?_)
  · obtain ⟨a, C, n, rfl, _⟩ := h
    rfl
  · obtain ⟨a, C, n, rfl, ox, hn, hx, h0, h1, q⟩ := h
    refine ⟨_, (pss_cons (ps_expr (pe_ownInit (by rfl) T.gc_DialError T.y_DialError.sp T.y_DialError.tp T.y_DialError.rd T.y_DialError.fc (pa_cons (pv 0) (pa_cons (pe_joined (.cons pe_str (.cons (pe_fmt (pv 1)) .nil))) pa_nil))))
      (pss_one (ps_ost (pv 0) (pv 1)))), ?_⟩
    rw [show start N_TooMany__init [.ref a, .int n] = [some (.ref a), some (.int n)] from rfl]
    try dsimp only [cxK]
    have hl := strI_len h0 h1
    have hz := sizeLine_eq
    walk_at "wp"
    refine w_js ⟨_, rfl, by rw [sizeLine_eq]; decide +kernel, w_js (w_fmt ⟨_, rfl, .inr ⟨n, rfl, log2_ok h0 h1, _, rfl, ?_, ?_⟩⟩)⟩
    · rw [str_app]
      have : (Str.empty ++ Str.ofString "more than ").length = 10 := by decide +kernel
      omega
    · refine w_jsN ?_
      walk_at "wp"
      refine ⟨a, C, _, rfl, by simp, ox, hx, ?_⟩
      walk_at "wp"
      exact ⟨a, C, rfl, ox, hn, .inl ⟨hx, q⟩⟩

/-! ### _allowed -/
def sp__allowed (K : PySem.W.Frag) : Sp := fun vs H Q _ => ∃ i n : Nat, vs = [.int (i : Int), .int (n : Int)] ∧ n ≤ 1000 ∧ i < n ∧ ∀ v H', Same H H' → Dp K H' v (.tuple ((alL i n).map fun s => PyData.str (Sg s))) → Q v H'
theorem ok__allowed (T : Top K mg) : FnOk P w K mg base CX0 1 T.f__allowed T.fd__allowed ["at", "count"] (sp__allowed K) := by
  refine T.F__allowed.ok sc__allowed (fun vs H Q E h => ?_) (fun cdv A outer s H vs Q E hr h => ?_)
  · obtain ⟨i, n, rfl, _⟩ := h
    rfl
  · obtain ⟨i, n, rfl, hn, hi, q⟩ := h
    refine ⟨_, (pss_cons (ps_if (pt_cmpR op_eq (pv 0) (pe_op op_sub (pv 1) pe_int) (nomark _)) (pss_one (ps_ret (pe_tup (pa_cons pe_str pa_nil)))) pss_nil)
      (pss_one (ps_ret (pe_ifExp (pt_cmpR op_eq (pv 0) pe_int (nomark _)) (pe_tup (pa_cons pe_str pa_nil)) (pe_tup (pa_cons pe_str (pa_cons pe_str pa_nil))))))), ?_⟩
    rw [show start N__allowed [.int (i : Int), .int (n : Int)] = [some (.int (i : Int)), some (.int (n : Int))] from rfl]
    rw [show Str.ofString "0" = Sg [48] by decide +kernel, show Str.ofString "1" = Sg [49] by decide +kernel, show Str.ofString "*" = Sg [42] by decide +kernel]
    try dsimp only [cxK]
    unfold alL at q
    walk_at "wp"
    refine w_iteD (fun e => ?_) (fun e => ?_)
    · rw [if_pos (by omega)] at q
      walk_at "wp"
      refine w_newT (K := K) (ds := [.str (Sg [42])]) (len_ok (by simp)) (dpa_one (.str _)) fun p H1 n1 e1 d1 => ?_
      exact q _ _ e1 d1
    · rw [if_neg (by omega)] at q
      walk_at "wp"
      refine w_iteD (fun e => ?_) (fun e => ?_)
      · rw [if_pos (by omega)] at q
        walk_at "wp"
        refine w_newT (K := K) (ds := [.str (Sg [49])]) (len_ok (by simp)) (dpa_one (.str _)) fun p H1 n1 e1 d1 => ?_
        exact q _ _ e1 d1
      · rw [if_neg (by omega)] at q
        walk_at "wp"
        refine w_newT (K := K) (ds := [.str (Sg [48]), .str (Sg [49])]) (len_ok (by simp)) (.cons (.str _) (dpa_one (.str _))) fun p H1 n1 e1 d1 => ?_
        exact q _ _ e1 d1

/-! ### _law_begun -/
def sp__law_begun (K : PySem.W.Frag) : Sp := fun vs H Q _ => ∃ (a : Addr) (ns : List Int) (k : Int), vs = [.ref a, .int k] ∧ SqL K H a (ns.map V.int) ∧ ns.length ≤ 63 ∧ (∀ n ∈ ns, Big n) ∧ 0 ≤ k ∧ k < 1000 ∧
  ∀ (m c : Addr) H', Same H H' → H m = none → Mo H' m c 0 → Q (.ref m) H'
theorem ok__law_begun (T : Top K mg) : FnOk P w K mg base CX0 1 T.f__law_begun T.fd__law_begun ["script", "k"] (sp__law_begun K) := by
  refine T.F__law_begun.ok sc__law_begun (fun vs H Q E h => ?_) (fun cdv A outer s H vs Q E hr h => ?_)
  · obtain ⟨a, ns, k, rfl, _⟩ := h
    rfl
  · obtain ⟨a, ns, k, rfl, hS, hl, hB, hk0, hk1, q⟩ := h
    refine ⟨_, (pss_cons (ps_set (i := 2) sc__law_begun.nd (by rfl) (by first | exact Or.inl rfl | exact Or.inr rfl) (pe_op op_catL (pe_slice (sl_listK (K := K)) (pv 0) (po_some (pv 1)) po_none) (pe_slice (sl_listK (K := K)) (pv 0) po_none (po_some (pv 1)))))
      (pss_cons (ps_setLc (i := 3) (own := [("cell", 5)]) (g := gName 5) (by rfl) sc__law_begun.nd (by rfl) (by rfl) (sw_true rfl rfl rfl (by decide +kernel)) (pi_listK (K := K) (pv 2)) (blkOk_by (own := [("cell", 5)]) (N := N__law_begun) (sc := defScope s__law_begun) (by decide +kernel)) (fun _ _ _ _ _ => (pg_name (i := 5) sc__law_begun.nd (by rfl) (by first | exact Or.inl rfl | exact Or.inr rfl))) (fun _ _ _ _ _ => (pts_one (pt_cmpR op_ge (pv 5) (pe_op op_pow pe_int pe_int) (nomark _)))) (fun _ _ _ _ _ => (pv 5)))
      (pss_cons (ps_set (i := 4) sc__law_begun.nd (by rfl) (by first | exact Or.inl rfl | exact Or.inr rfl) (pe_op op_add pe_int (pv 1)))
      (pss_cons (ps_for PassesOwn.never (by rfl) (pi_listK (K := K) (pv 2)) (pg_name (i := 5) sc__law_begun.nd (by rfl) (by first | exact Or.inl rfl | exact Or.inr rfl)) (pss_one (ps_set (i := 4) sc__law_begun.nd (by rfl) (by first | exact Or.inl rfl | exact Or.inr rfl) (pe_op op_modD (pe_callTy cl_int (by rfl) T.z_int (by decide +kernel) (pa_cons (pe_op op_add (pe_op op_mulX (pv 4) pe_int) (pv 5)) pa_nil)) pe_int))))
      (pss_one (ps_ret (pe_disp (pps_cons pe_str (pe_ifExp (pt_cmpR (op_neK (K := K) hr.units) (pv 3) (pe_lst pa_nil) (nomark _)) (pe_ix (ix_listK (K := K)) (pv 3) pe_int (fun _ _ => rfl)) pe_int) (pps_cons pe_str (pv 4) (pps_cons pe_str (pe_op op_catL (pv 2) (pe_lst (pa_cons (pe_op op_add (pe_op op_mulX pe_int (pv 1)) pe_int) pa_nil))) (pps_cons pe_str pe_int pps_nil)))) (by rfl) (by rfl) (fun z => by cases z) (by decide)))))))), ?_⟩
    rw [show start N__law_begun [.ref a, .int k] = [some (.ref a), some (.int k), none, none, none, none] from rfl]
    try dsimp only [cxK]
    have hz : sizeLine = 16777216 := sizeLine_eq
    walk_at "w"
    refine w_slV hS fun p1 H1 n1 e1 f1 => ?_
    walk_at "w"
    refine w_slV (e1.seq hS) fun p2 H2 n2 e2 f2 => ?_
    rw [cutD_from _ hk0] at f1
    rw [cutD_to _ hk0] at f2
    refine w_catL (e2 _ _ f1) f2 (by simp only [List.length_drop, List.length_take, List.length_map]; omega) fun p3 H3 n3 e3 f3 => ?_
    rw [← List.map_drop, ← List.map_take, ← List.map_append] at f3
    generalize hcs : ns.drop k.toNat ++ ns.take k.toNat = cs at f3
    have hcB : ∀ n ∈ cs, Big n := fun n hn => by
      rw [← hcs] at hn
      rcases List.mem_append.mp hn with hn | hn
      · exact hB n (List.mem_of_mem_drop hn)
      · exact hB n (List.mem_of_mem_take hn)
    have hcl : cs.length ≤ 63 := by rw [← hcs]; simp only [List.length_append, List.length_drop, List.length_take]; omega
    have d3 : Dp K H3 (.ref p3) (.list (cs.map PyData.int)) := .lst (.of f3) (dpa_ints cs)
    have s3 : Same H H3 := (e1.trans e2).trans e3
    walk_at "w"
    refine lc_list_by (JP H3 fun i es => ∃ gs : List Int, es = gs.map PyData.int ∧ gs.length ≤ i) (JP.ok ⟨[], rfl, by simp⟩) d3 (by simp; omega) (fun _ => rfl) ?_ ?_
    · intro i d y H' es hd hy hJ Yes No hyes hno
      obtain ⟨hs, gs, rfl, hgl⟩ := hJ
      rw [List.getElem?_map] at hd
      obtain ⟨z, hz1, rfl⟩ := Option.map_eq_some_iff.mp hd
      cases hy
      walk_at "w"
      refine w_rI ⟨by decide, by decide, by decide⟩ ?_
      walk_at "w"
      refine w_ite (fun hb => ?_) (fun hb => ?_)
      · walk_at "w"
        exact hyes _ H' (.int z) (Keep.refl _) rfl (.int z) ⟨hs, gs ++ [z], by simp, by simp; omega⟩
      · exact hno H' (Keep.refl _) ⟨hs, gs, rfl, by omega⟩
    · intro p4 H4 vs4 es n4 k4 f4 d4 hJ
      obtain ⟨s4, gs, rfl, hgl⟩ := hJ
      rw [List.length_map] at hgl
      walk_at "w"
      refine forL_by (fun i σ' H' => ∃ (sd : Int) (y5 : Option V), σ' = [some (.ref a), some (.int k), some (.ref p3), some (.ref p4), some (.int sd), y5] ∧ H4 = H' ∧ 0 ≤ sd ∧ sd < 2147483647) (dp_same s4 d3) ⟨71 + k, none, rfl, rfl, by omega, by omega⟩ ?_ ?_ ?_
      · rintro i σ' H' _ ⟨sd, y5, rfl, rfl, _⟩
        exact Keep.refl _
      · rintro i d y σ' H' hd hy ⟨sd, y5, rfl, rfl, hsd0, hsd1⟩
        rw [List.getElem?_map] at hd
        obtain ⟨z, hz1, rfl⟩ := Option.map_eq_some_iff.mp hd
        cases hy
        walk_at "w0"
        refine w_rModB (by decide) fun r h0 h1 => ?_
        walk_at "w0"
        exact ⟨r, _, rfl, rfl, h0, h1⟩
      · rintro σ' H' ⟨sd, y5, rfl, rfl, hsd0, hsd1⟩
        walk_at "w"
        refine w_disp fun pd Hd nd ed fd => ?_
        walk_at "w"
        refine w_newL (K := K) (by decide) .nil fun p6 H6 n6 e6 f6 d6 => ?_
        have d4' : Dp K H6 (.ref p4) (.list (gs.map PyData.int)) := dp_same e6 (dp_same ed d4)
        have rest : ∀ (lv : Int) (H7 : Hp), Same H6 H7 → rNewL [V.int (53 * k + 11)] H7 fun y H2 => rCat (V.ref p3) y H2 fun y H2 =>
            tPairs [(tC (V.str (Str.ofString "spot")), tC (V.int 0))] [some (V.ref a), some (V.int k), some (V.ref p3), some (V.ref p4), some (V.int sd), y5] H2 fun ps H3 =>
              rDisp pd ((V.str (Str.ofString "left"), V.int lv) :: (V.str (Str.ofString "seed"), V.int sd) :: (V.str (Str.ofString "cells"), y) :: ps) H3 Q := by
          intro lv H7 e7
          refine w_newL (K := K) (len_ok (by simp)) (dpa_one (.int _)) fun p8 H8 n8 e8 f8 d8 => ?_
          refine w_catL (e8 _ _ (e7 _ _ (e6 _ _ (ed _ _ (s4 _ _ f3))))) f8 (by simp; omega) fun p9 H9 n9 e9 f9 => ?_
          walk_at "w"
          have fd9 : H9 pd = some (.dK []) := e9 _ _ (e8 _ _ (e7 _ _ (e6 _ _ fd)))
          refine ⟨fd9, [(.inr "left", .int lv), (.inr "seed", .int sd), (.inr "cells", .ref p9), (.inr "spot", .int 0)], rfl, by simp, ?_⟩
          have hm : mergeK [] [((.inr "left" : Key), V.int lv), (.inr "seed", .int sd), (.inr "cells", .ref p9), (.inr "spot", .int 0)] = moKvs lv sd p9 0 := by
            simp [mergeK, putK, moKvs, k_left_seed, k_left_cells, k_left_spot, k_seed_cells, k_seed_spot, k_cells_spot]
          rw [hm]
          have sall : Same H4 H9 := (((ed.trans e6).trans e7).trans e8).trans e9
          refine q pd p9 _ (same_mut ((s3.trans s4).trans sall) ((s3.trans s4).free nd)) ((s3.trans s4).free nd) ⟨lv, sd, 0, cs ++ [53 * k + 11], upd_same, ?_, by simp, by simp; omega, ?_, hsd0, hsd1, by omega, by omega⟩
          · rw [upd_ne (ne_of f9 fd9 (fun z => nomatch z)), f9]
            simp
          · intro n hn
            rcases List.mem_append.mp hn with hn | hn
            · exact hcB n hn
            · simp at hn; subst hn; exact Big.small (by omega)
        refine w_neP d4' d6 (pln_ints _) rfl (fun he => ?_) (fun he => ?_)
        · walk_at "w"
          exact rest 0 H6 (Same.refl _)
        · have hg0 : 0 < gs.length := by
            cases gs with
            | nil => exact absurd rfl he
            | cons g gs => simp
          walk_at "w"
          refine w_ixLI d4' (by decide) (by omega) fun z _ => ?_
          walk_at "w"
          exact rest z H6 (Same.refl _)

/-! ### _law_draw -/
def sp__law_draw (K : PySem.W.Frag) : Sp := fun vs H Q _ => ∃ (m c : Addr) (below : Int) (b : Nat), vs = [.ref m, .int below] ∧ 0 < below ∧ below < 2 ^ 60 ∧ Mo H m c b ∧ b < 2 ^ 50 ∧
  ∀ (r : Int) H', 0 ≤ r → r < below → Keep H H' → Mo H' m c (b + 1) → Q (.int r) H'
theorem ok__law_draw (T : Top K mg) : FnOk P w K mg base CX0 1 T.f__law_draw T.fd__law_draw ["m", "below"] (sp__law_draw K) := by
  refine T.F__law_draw.ok sc__law_draw (fun vs H Q E h => ?_) (fun cdv A outer s H vs Q E hr h => ?_)
  · obtain ⟨m, c, below, b, rfl, _⟩ := h
    rfl
  · obtain ⟨m, c, below, b, rfl, hb0, hb1, hm, hb, q⟩ := h
    refine ⟨_, (pss_cons (ps_if (pt_cmpR op_gt (pe_dget (hu_of hr) (pv 0) pe_str (fun _ _ => rfl)) pe_int (nomark _)) (pss_cons (ps_set (i := 2) sc__law_draw.nd (by rfl) (by first | exact Or.inl rfl | exact Or.inr rfl) (pe_op op_modD (pe_callTy cl_int (by rfl) T.z_int (by decide +kernel) (pa_cons (pe_dget (hu_of hr) (pv 0) pe_str (fun _ _ => rfl)) pa_nil)) (pv 1)))
      (pss_cons (ps_dput (hu_of hr) (pv 0) pe_str (pe_op op_fdivW (pe_dget (hu_of hr) (pv 0) pe_str (fun _ _ => rfl)) (pv 1)) rfl)
      (pss_one (ps_ret (pv 2))))) pss_nil)
      (pss_cons (ps_set (i := 3) sc__law_draw.nd (by rfl) (by first | exact Or.inl rfl | exact Or.inr rfl) (pe_dget (hu_of hr) (pv 0) pe_str (fun _ _ => rfl)))
      (pss_cons (ps_dput (hu_of hr) (pv 0) pe_str (pe_op op_add (pv 3) pe_int) rfl)
      (pss_cons (ps_par (i := 4) (j := 5) (by rfl) sc__law_draw.nd (by rfl) (by rfl) (by decide) (by rfl) (by rfl) (pa_cons (pe_dget (hu_of hr) (pv 0) pe_str (fun _ _ => rfl)) (pa_cons (pe_op op_add (pe_dget (hu_of hr) (pv 0) pe_str (fun _ _ => rfl)) (pe_op op_mulX (pe_op op_mulX pe_int (pv 3)) (pv 3))) pa_nil)) (by rfl))
      (pss_cons (ps_set (i := 6) sc__law_draw.nd (by rfl) (by first | exact Or.inl rfl | exact Or.inr rfl) (pe_ix (ix_listK (K := K)) (pv 4) (pe_op op_modD (pe_callTy cl_int (by rfl) T.z_int (by decide +kernel) (pa_cons (pv 3) pa_nil)) (pe_callB (cl_len (K := K)) (by rfl) T.z_len (by decide +kernel) (pa_cons (pv 4) pa_nil))) (fun _ _ => rfl)))
      (pss_cons (ps_set (i := 7) sc__law_draw.nd (by rfl) (by first | exact Or.inl rfl | exact Or.inr rfl) (pe_op op_modD (pe_callTy cl_int (by rfl) T.z_int (by decide +kernel) (pa_cons (pe_op op_add (pe_op op_mulX (pv 6) (pe_op op_add (pe_op op_mulX pe_int (pv 3)) pe_int)) (pv 5)) pa_nil)) pe_int))
      (pss_cons (ps_set (i := 7) sc__law_draw.nd (by rfl) (by first | exact Or.inl rfl | exact Or.inr rfl) (pe_op op_modD (pe_callTy cl_int (by rfl) T.z_int (by decide +kernel) (pa_cons (pe_op op_add (pe_op op_add (pe_op op_mulX (pv 7) (pv 7)) (pe_op op_mulX pe_int (pv 3))) (pe_dget (hu_of hr) (pv 0) pe_str (fun _ _ => rfl))) pa_nil)) pe_int))
      (pss_one (ps_ret (pe_op op_modD (pe_op op_fdivW (pe_op op_modD (pe_callTy cl_int (by rfl) T.z_int (by decide +kernel) (pa_cons (pe_op op_add (pe_op op_mulX (pv 7) pe_int) (pv 3)) pa_nil)) pe_int) pe_int) (pv 1))))))))))), ?_⟩
    rw [show start N__law_draw [.ref m, .int below] = [some (.ref m), some (.int below), none, none, none, none, none, none] from rfl]
    obtain ⟨left, seed, spot, ns, m1, m2, m3, m4, m5, m6, m7, m8, m9⟩ := hm
    try dsimp only [cxK]
    walk_at "w"
    refine w_iteD (fun hl => ?_) (fun hl => ?_)
    · walk_at "w"
      refine w_dpS m1 mo_put_left mo_len fun H1 e1 m1' => ?_
      walk_at "w"
      exact q _ H1 (Int.emod_nonneg _ (by omega)) (Int.emod_lt_of_pos _ hb0) e1 ⟨_, seed, spot, ns, m1', e1.l m2, m3, m4, m5, m6, m7, m8, by omega⟩
    · walk_at "w"
      refine w_dpS m1 mo_put_spot mo_len fun H1 e1 m1' => ?_
      have m2' := e1.l m2
      have dC : Dp K H1 (.ref c) (.list (ns.map PyData.int)) := .lst (.of m2') (dpa_ints ns)
      walk_at "w"
      rw [List.length_map]
      refine w_ixLI dC (Int.emod_nonneg _ (by omega)) (Int.emod_lt_of_pos _ (by omega)) fun z hz => ?_
      have hz2 := m5 z (List.mem_of_getElem? hz)
      walk_at "w"
      refine w_rI (hz2.mul (by omega)) ?_
      walk_at "w0"
      refine w_rModB (by decide) fun r1 h1 h1' => ?_
      walk_at "w0"
      refine w_rModB (by decide) fun r2 h2 h2' => ?_
      walk_at "w0"
      refine w_rModB (by decide) fun r3 h3 h3' => ?_
      walk_at "w0"
      refine w_rModB hb0 fun r4 h4 h4' => ?_
      walk_at "w0"
      exact q r4 H1 h4 h4' e1 ⟨left, seed, spot + 1, ns, m1', m2', m3, m4, m5, m6, m7, by omega, by omega⟩

/-! ### _law_all_words -/
def sp__law_all_words (K : PySem.W.Frag) : Sp := fun vs H Q _ => ∃ n : Nat, vs = [.int (n : Int)] ∧ 1 ≤ n ∧ n ≤ 12 ∧ ∀ v H', Same H H' → Dp K H' v (.list ((swA n).map fun s => PyData.str (Sg s))) → Q v H'
theorem ok__law_all_words (T : Top K mg) : FnOk P w K mg base CX0 1 T.f__law_all_words T.fd__law_all_words ["count"] (sp__law_all_words K) := by
  refine T.F__law_all_words.ok sc__law_all_words (fun vs H Q E h => ?_) (fun cdv A outer s H vs Q E hr h => ?_)
  · obtain ⟨n, rfl, _⟩ := h
    rfl
  · obtain ⟨n, rfl, h1, h2, q⟩ := h
    refine ⟨_, (pss_cons (ps_if (pt_cmpR op_eq (pv 0) pe_int (nomark _)) (pss_one (ps_ret (pe_lst (pa_cons pe_str pa_nil)))) pss_nil)
      (pss_cons (ps_set (i := 1) sc__law_all_words.nd (by rfl) (by first | exact Or.inl rfl | exact Or.inr rfl) (pe_lst (pa_cons pe_str pa_nil)))
      (pss_cons (ps_for PassesOwn.never (by rfl) (pi_range1 (by rfl) T.z_range (pa_cons (pe_op op_sub (pv 0) pe_int) pa_nil)) (pg_name (i := 2) sc__law_all_words.nd (by rfl) (by first | exact Or.inl rfl | exact Or.inr rfl)) (pss_cons (ps_set (i := 3) sc__law_all_words.nd (by rfl) (by first | exact Or.inl rfl | exact Or.inr rfl) (pe_lst pa_nil))
      (pss_cons (ps_for PassesOwn.never (by rfl) (pi_listK (K := K) (pv 1)) (pg_name (i := 4) sc__law_all_words.nd (by rfl) (by first | exact Or.inl rfl | exact Or.inr rfl)) (pss_one (ps_expr (pe_bm PySem.F.plainAttrs_list PySem.F.slot_list_extend PySem.F.type_list_extend mt_extend (pv 3) (pa_cons (pe_lst (pa_cons (pe_op op_addS (pv 4) pe_str) (pa_cons (pe_op op_addS (pv 4) pe_str) pa_nil))) pa_nil)))))
      (pss_one (ps_set (i := 1) sc__law_all_words.nd (by rfl) (by first | exact Or.inl rfl | exact Or.inr rfl) (pv 3))))))
      (pss_one (ps_ret (pe_lc (own := [("text", 4)]) (g := gName 4) (tt := tYes) (by rfl) sc__law_all_words.nd (pi_listK (K := K) (pv 1)) (blkOk_by (own := [("text", 4)]) (N := N__law_all_words) (sc := defScope s__law_all_words) (by decide +kernel)) (fun _ _ _ _ _ => (pg_name (i := 4) sc__law_all_words.nd (by rfl) (by first | exact Or.inl rfl | exact Or.inr rfl))) (fun _ _ _ _ _ => pts_nil) (fun _ _ _ _ _ => (pe_op op_addS (pv 4) pe_str)))))))), ?_⟩
    rw [show start N__law_all_words [.int (n : Int)] = [some (.int (n : Int)), none, none, none, none] from rfl]
    rw [show Str.ofString "1" = Sg [49] by decide +kernel, show Str.ofString "0" = Sg [48] by decide +kernel, show Str.ofString "*" = Sg [42] by decide +kernel]
    try dsimp only [cxK]
    walk_at "wp"
    refine w_iteD (fun e => ?_) (fun e => ?_)
    · walk_at "wp"
      refine w_newL (K := K) (ds := [.str (Sg [42])]) (len_ok (by simp)) (dpa_one (.str _)) fun p H1 n1 e1 f1 d1 => ?_
      exact q _ _ e1 (by rw [swA, if_pos (by omega)]; exact d1)
    have h1 : 2 ≤ n := by omega
    rw [swA, if_neg (by omega)] at q
    walk_at "wp"
    refine w_newL (K := K) (len_ok (by simp)) (dpa_one (.str (Sg [49]))) fun p H1 n1 e1 f1 d1 => ?_
    walk_at "wp"
    refine forR1_by (fun i σ' H' => ∃ (y : V) (y2 y3 y4 : Option V), σ' = [some (.int n), some y, y2, y3, y4] ∧ Same H H' ∧ Dp K H' y (.list ((begs i).map fun b => PyData.str (Sg b)))) (by omega) ⟨_, none, none, none, rfl, e1, by simpa [begs] using d1⟩ ?_ ?_
    · rintro i σ' H' hi ⟨y, y2, y3, y4, rfl, s1, dy⟩
      have hb := begs_len i
      have hpow : 2 ^ i ≤ 2 ^ 10 := Nat.pow_le_pow_right (by decide) (by omega)
      walk_at "wp"
      refine w_newL (K := K) (len_ok (by simp)) .nil fun pl H2 n2 e2 f2 d2 => ?_
      walk_at "wp"
      refine forL_by0 (fun j σ' H3 => ∃ (y4 : Option V), σ' = [some (.int n), some y, some (.int (i : Int)), some (.ref pl), y4] ∧ Same H' H3 ∧ H3 pl = some (.lst ((((begs i).take j).flatMap fun b => [b ++ [48], b ++ [49]]).map fun b => V.str (Sg b)))) dy (Keep.of e2) ⟨_, rfl, e2, by simpa using f2⟩ ?_ ?_ ?_
      · rintro j σ' H3 hj ⟨y4, rfl, s3, f3⟩
        exact Keep.of s3
      · rintro j d w σ' H3 hd hw ⟨y4, rfl, s3, f3⟩
        rw [List.getElem?_map] at hd
        obtain ⟨u, hu, rfl⟩ := Option.map_eq_some_iff.mp hd
        cases hw
        have hul := hb.2 u (List.mem_of_getElem? hu)
        walk_at "wp"
        refine w_tyL f3 ?_
        walk_at "wp"
        refine w_addSg (by simp; omega) ?_
        walk_at "wp"
        refine w_addSg (by simp; omega) ?_
        walk_at "wp"
        refine w_newL (K := K) (ds := [.str (Sg (u ++ [48])), .str (Sg (u ++ [49]))]) (len_ok (by simp)) (.cons (.str _) (dpa_one (.str _))) fun p5 H5 n5 e5 f5 d5 => ?_
        walk_at "wp"
        have hlen : ((((begs i).take j).flatMap fun b => [b ++ [48], b ++ [49]]).map fun b => V.str (Sg b)).length ≤ 2 * 1024 := by
          rw [List.length_map]
          have : ∀ l : List (List Nat), (l.flatMap fun b => [b ++ [48], b ++ [49]]).length = 2 * l.length := by
            intro l
            induction l with
            | nil => rfl
            | cons x l ih => rw [List.flatMap_cons, List.length_append, ih]; simp; omega
          rw [this, List.length_take]
          omega
        refine w_extend (e5 _ _ f3) f5 (by simp only [List.length_cons, List.length_nil]; omega) ?_
        refine ⟨_, rfl, same_mut (s3.trans e5) n2, ?_⟩
        rw [upd_same, List.take_add_one, hu]
        simp [sg_app]
      · rintro σ' H3 ⟨y4, rfl, s3, f3⟩
        walk_at "wp"
        refine ⟨_, _, _, _, rfl, s1.trans s3, ?_⟩
        rw [List.length_map, List.take_length] at f3
        refine dp_newL f3 ?_
        rw [show begs (i + 1) = (begs i).flatMap fun b => [b ++ [48], b ++ [49]] from rfl]
        exact dpa_sgs _
    · rintro σ' H' ⟨y, y2, y3, y4, rfl, s1, dy⟩
      walk_at "wp"
      have e0 : ((n : Int) - 2).toNat = n - 2 := by omega
      rw [e0] at dy
      have hb := begs_len (n - 2)
      have hpow : 2 ^ (n - 2) ≤ 2 ^ 10 := Nat.pow_le_pow_right (by decide) (by omega)
      refine lc_list_by (JP H' fun i es => es = ((begs (n - 2)).take i).map (fun b => PyData.str (Sg (b ++ [42])))) (JP.ok rfl) dy (by rw [List.length_map]; omega) (fun _ => rfl) ?_ ?_
      · intro i d y H2 es hd hy hJ Yes No hyes hno
        obtain ⟨s2, rfl⟩ := hJ
        rw [List.getElem?_map] at hd
        obtain ⟨b, hj, rfl⟩ := Option.map_eq_some_iff.mp hd
        cases hy
        have hbl := hb.2 b (List.mem_of_getElem? hj)
        walk_at "wp"
        refine w_addSg (by rw [hbl]; simp; omega) ?_
        refine hyes _ H2 (.str (Sg (b ++ [42]))) (Keep.refl _) rfl (.str _) ⟨s2, ?_⟩
        show _ = _
        rw [List.take_add_one, hj]
        simp
      · rintro p2 H2 vs2 es2 hn2 k2 hv2 dl2 ⟨s2, rfl⟩
        rw [List.length_map, List.take_length] at dl2
        refine q _ H2 (s1.trans s2) ?_
        rw [swL, List.map_map]
        exact dl2

/-! ### _law_wrong -/
def sp__law_wrong (K : PySem.W.Frag) : Sp := fun vs H Q _ => (∃ (l : List Nat), vs = [.str (Sg l)] ∧ Sgs l ∧ l.length ≤ 100 ∧ ∀ H', Same H H' → Q (ov (wrL l)) H') ∨ (∃ v, vs = [v] ∧ Odd K H v ∧ ∀ H', Same H H' → Q (.int (-1)) H')
theorem ok__law_wrong (T : Top K mg) : FnOk P w K mg base CX0 1 T.f__law_wrong T.fd__law_wrong ["value"] (sp__law_wrong K) := by
  refine T.F__law_wrong.ok sc__law_wrong (fun vs H Q E h => ?_) (fun cdv A outer s H vs Q E hr h => ?_)
  · rcases h with ⟨l, rfl, _⟩ | ⟨v, rfl, _⟩ <;> rfl
  · rcases h with ⟨l, rfl, hs, hl, q⟩ | ⟨v, rfl, ho, q⟩
    · refine ⟨_, (pss_cons (ps_if (PW.pt (pw_or (pt_not (pt_val (pe_callB (cl_isi (K := K)) (by rfl) T.z_isinstance (by decide +kernel) (pa_cons (pv 0) (pa_cons (pe_bltn (v := .ty "str") (by rfl) T.z_str (by decide +kernel) rfl) pa_nil))))) (pw_or (pt_cmpR op_eq (pv 0) pe_str (nomark _)) (pw_or1 (pt_cmpR op_gt (pe_callB (cl_len (K := K)) (by rfl) T.z_len (by decide +kernel) (pa_cons (pv 0) pa_nil)) pe_int (nomark _)))))) (pss_one (ps_ret (pe_un un_neg pe_int))) pss_nil)
      (pss_cons (ps_for PassesOwn.never (by rfl) (pi_range1 (by rfl) T.z_range (pa_cons (pe_callB (cl_len (K := K)) (by rfl) T.z_len (by decide +kernel) (pa_cons (pv 0) pa_nil)) pa_nil)) (pg_name (i := 1) sc__law_wrong.nd (by rfl) (by first | exact Or.inl rfl | exact Or.inr rfl)) (pss_cons (ps_set (i := 2) sc__law_wrong.nd (by rfl) (by first | exact Or.inl rfl | exact Or.inr rfl) (pe_cmpR op_eq (pv 1) (pe_op op_sub (pe_callB (cl_len (K := K)) (by rfl) T.z_len (by decide +kernel) (pa_cons (pv 0) pa_nil)) pe_int) (nomark _)))
      (pss_cons (ps_set (i := 3) sc__law_wrong.nd (by rfl) (by first | exact Or.inl rfl | exact Or.inr rfl) (pe_ifExp (pt_val (pv 2)) (pe_lst (pa_cons pe_str pa_nil)) (pe_ifExp (pt_cmpR op_eq (pv 1) pe_int (nomark _)) (pe_lst (pa_cons pe_str pa_nil)) (pe_lst (pa_cons pe_str (pa_cons pe_str pa_nil))))))
      (pss_one (ps_if (pt_cmpR (op_notInDK (K := K) (Room65 hr)) (pe_ix ix_str (pv 0) (pv 1) (fun _ _ => rfl)) (pv 3) (by rfl)) (pss_one (ps_ret (pv 1))) pss_nil)))))
      (pss_one (ps_ret pe_non)))), ?_⟩
      rw [show start N__law_wrong [.str (Sg l)] = [some (.str (Sg l)), none, none, none] from rfl]
      rw [show Str.ofString "1" = Sg [49] by decide +kernel, show Str.ofString "0" = Sg [48] by decide +kernel, show Str.ofString "*" = Sg [42] by decide +kernel, show Str.ofString "" = Sg [] by decide +kernel]
      try dsimp only [cxK]
      walk_at "wp"
      refine w_iteD (fun g1 => ?_) (fun g1 => ?_)
      · have : l = [] := sg_inj (V.str.inj g1)
        subst this
        rw [wrL_bad (.inl rfl)] at q
        walk_at "wp"
        exact q _ (Same.refl _)
      · have hl0 : l.length ≠ 0 := fun z => g1 (by rw [List.eq_nil_of_length_eq_zero z])
        walk_at "wp"
        refine w_iteD (fun g2 => ?_) (fun g2 => ?_)
        · rw [wrL_bad (.inr (by omega))] at q
          walk_at "wp"
          exact q _ (Same.refl _)
        · have hb : ¬ (l.length = 0 ∨ 24 < l.length) := by omega
          walk_at "wp"
          refine forR1_by (fun i σ' H' => ∃ y1 y2 y3 : Option V, σ' = [some (.str (Sg l)), y1, y2, y3] ∧ Same H H' ∧ ∀ j, j < i → OkAt l j) (by omega) ⟨_, _, _, rfl, Same.refl _, fun j hj => by omega⟩ ?_ ?_
          · rintro i σ' H' hi ⟨y1, y2, y3, rfl, s1, hok⟩
            have hil : i < l.length := by omega
            have hi2 : l[i]? = some l[i] := List.getElem?_eq_getElem hil
            have hc : l.getD i 0 = l[i] := by rw [List.getD_eq_getElem?_getD, hi2]; rfl
            generalize l[i] = c at *
            refine w_gName ?_
            with_reducible refine w_seq ?_
            with_reducible refine w_asg ?_
            refine w_meet (fun v H2 => v = .bl (decide ((i : Int) = l.length - 1)) ∧ H' = H2) (fun Q' hq => ?_) ?_
            · walk_at "wp"
              exact hq _ _ ⟨rfl, rfl⟩
            rintro _ _ ⟨rfl, rfl⟩
            dsimp only
            with_reducible refine w_seq ?_
            with_reducible refine w_asg ?_
            refine w_meet (fun v H2 => Same H' H2 ∧ Dp K H2 v (.list ((alL i l.length).map fun s => PyData.str (Sg s)))) (fun Q' hq => ?_) ?_
            · unfold alL at hq
              walk_at "wp"
              refine w_iteD (fun e => ?_) (fun e => ?_)
              · rw [if_pos (by omega)] at hq
                walk_at "wp"
                refine w_newL (K := K) (ds := [.str (Sg [42])]) (len_ok (by simp)) (dpa_one (.str _)) fun p H1 n1 e1 f1 d1 => ?_
                exact hq _ _ ⟨e1, d1⟩
              · rw [if_neg (by omega)] at hq
                walk_at "wp"
                refine w_iteD (fun e => ?_) (fun e => ?_)
                · rw [if_pos (by omega)] at hq
                  walk_at "wp"
                  refine w_newL (K := K) (ds := [.str (Sg [49])]) (len_ok (by simp)) (dpa_one (.str _)) fun p H1 n1 e1 f1 d1 => ?_
                  exact hq _ _ ⟨e1, d1⟩
                · rw [if_neg (by omega)] at hq
                  walk_at "wp"
                  refine w_newL (K := K) (ds := [.str (Sg [48]), .str (Sg [49])]) (len_ok (by simp)) (.cons (.str _) (dpa_one (.str _))) fun p H1 n1 e1 f1 d1 => ?_
                  exact hq _ _ ⟨e1, d1⟩
            rintro v H2 ⟨e2, d2⟩
            walk_at "wp"
            refine w_ixS (j := i) (len_ok (by rw [sg_len]; omega)) rfl (by simpa [Sg] using hi2) ?_
            walk_at "wp"
            refine w_notInP (d := .str (Sg [c])) (.str _) d2 (strOk_s fun x hx => by rw [List.mem_singleton.mp hx]; exact hs c (List.mem_of_getElem? hi2)) (alL_str _ _) (fun hm => ?_) (fun hm => ?_)
            · walk_at "wp"
              refine ⟨_, _, _, rfl, s1.trans e2, fun j hj => ?_⟩
              by_cases z : j < i
              · exact hok j z
              · obtain rfl : j = i := by omega
                show [l.getD j 0] ∈ _
                rw [hc]
                obtain ⟨x, hx, e⟩ := List.mem_map.mp hm
                have := sg_inj (PyData.str.inj e)
                rw [← this]
                exact hx
            · walk_at "wp"
              rw [wrL_at hb hil hok fun z => hm ?_] at q
              · exact q _ (s1.trans e2)
              · refine List.mem_map.mpr ⟨[c], ?_, rfl⟩
                rw [← hc]
                exact z
          · rintro σ' H' ⟨y1, y2, y3, rfl, s1, hok⟩
            walk_at "wp"
            have hln : (l.length : Int).toNat = l.length := by omega
            rw [hln] at hok
            rw [wrL_none hb hok] at q
            exact q _ s1
    · refine ⟨_, (pss_cons (ps_if (PW.pt (pw_or (pt_not (pt_val (pe_callB (cl_isi (K := K)) (by rfl) T.z_isinstance (by decide +kernel) (pa_cons (pv 0) (pa_cons (pe_bltn (v := .ty "str") (by rfl) T.z_str (by decide +kernel) rfl) pa_nil))))) (pw_or (pt_cmpR op_eq (pv 0) pe_str (nomark _)) (pw_or1 (pt_cmpR op_gt (pe_callB (cl_len (K := K)) (by rfl) T.z_len (by decide +kernel) (pa_cons (pv 0) pa_nil)) pe_int (nomark _)))))) (pss_one (ps_ret (pe_un un_neg pe_int))) pss_nil)
      (pss_cons (ps_for PassesOwn.never (by rfl) (pi_range1 (by rfl) T.z_range (pa_cons (pe_callB (cl_len (K := K)) (by rfl) T.z_len (by decide +kernel) (pa_cons (pv 0) pa_nil)) pa_nil)) (pg_name (i := 1) sc__law_wrong.nd (by rfl) (by first | exact Or.inl rfl | exact Or.inr rfl)) (pss_cons (ps_set (i := 2) sc__law_wrong.nd (by rfl) (by first | exact Or.inl rfl | exact Or.inr rfl) (pe_cmpR op_eq (pv 1) (pe_op op_sub (pe_callB (cl_len (K := K)) (by rfl) T.z_len (by decide +kernel) (pa_cons (pv 0) pa_nil)) pe_int) (nomark _)))
      (pss_cons (ps_set (i := 3) sc__law_wrong.nd (by rfl) (by first | exact Or.inl rfl | exact Or.inr rfl) (pe_ifExp (pt_val (pv 2)) (pe_lst (pa_cons pe_str pa_nil)) (pe_ifExp (pt_cmpR op_eq (pv 1) pe_int (nomark _)) (pe_lst (pa_cons pe_str pa_nil)) (pe_lst (pa_cons pe_str (pa_cons pe_str pa_nil))))))
      (pss_one (ps_if (pt_cmpR (op_notInDK (K := K) (Room65 hr)) (pe_ix ix_str (pv 0) (pv 1) (fun _ _ => rfl)) (pv 3) (by rfl)) (pss_one (ps_ret (pv 1))) pss_nil)))))
      (pss_one (ps_ret pe_non)))), ?_⟩
      rw [show start N__law_wrong [v] = [some (v), none, none, none] from rfl]
      try dsimp only [cxK]
      obtain ⟨t, ty, hk⟩ := ho.ty
      walk_at "wp"
      refine w_isiN ty hk ?_
      walk_at "wp"
      exact q _ (Same.refl _)

/-! ### _law_of -/
def sp__law_of (K : PySem.W.Frag) : Sp := fun vs H Q _ => ∃ (m c a : Addr) (xs : List V) (b : Nat), vs = [.ref m, .ref a] ∧ H a = some (.lst xs) ∧ 0 < xs.length ∧ xs.length ≤ 1000 ∧ Mo H m c b ∧ b < 2 ^ 50 ∧
  ∀ y H', y ∈ xs → Keep H H' → Mo H' m c (b + 1) → Q y H'
theorem ok__law_of (T : Top K mg) : FnOk P w K mg base CX0 2 T.f__law_of T.fd__law_of ["m", "some"] (sp__law_of K) := by
  refine T.F__law_of.ok sc__law_of (fun vs H Q E h => ?_) (fun cdv A outer s H vs Q E hr h => ?_)
  · obtain ⟨m, c, a, xs, b, rfl, _⟩ := h
    rfl
  · obtain ⟨m, c, a, xs, b, rfl, ha, hz0, hz1, hm, hb, q⟩ := h
    refine ⟨_, (pss_one (ps_ret (pe_ix (ix_listK (K := K)) (pv 1) (pe_call (ok__law_draw T) (hr.mono (by decide)) (by rfl) T.g__law_draw T.F__law_draw.kp T.b__law_draw .nil pass0 (pa_cons (pv 0) (pa_cons (pe_callB (cl_len (K := K)) (by rfl) T.z_len (by decide +kernel) (pa_cons (pv 1) pa_nil)) pa_nil))) (fun _ _ => rfl)))), ?_⟩
    rw [show start N__law_of [.ref m, .ref a] = [some (.ref m), some (.ref a)] from rfl]
    try dsimp only [cxK]
    walk_at "w"
    refine ⟨.ref a, xs.length, rfl, .inl ⟨xs, .inl (.inl ha), rfl⟩, ?_⟩
    walk_at "w"
    refine ⟨m, c, _, b, rfl, by omega, by omega, hm, hb, fun r H' h0 h1 k m' => ?_⟩
    have hr : r.toNat < xs.length := by omega
    exact ⟨a, xs, r, xs[r.toNat], rfl, rfl, .inl (.inl (k _ _ (fun _ z => nomatch z) ha)), at_of (j := r.toNat) (by omega) (List.getElem?_eq_getElem hr), q _ H' (List.getElem_mem hr) k m'⟩

/-! ### _law_string -/
def sp__law_string (K : PySem.W.Frag) : Sp := fun vs H Q _ => ∃ (m c : Addr) (n : Int) (b : Nat), vs = [.ref m, .int n] ∧ 0 ≤ n ∧ n ≤ 1000 ∧ Mo H m c b ∧ b < 2 ^ 45 ∧
  ∀ (l : List Nat) H', l.length = n.toNat → (∀ x ∈ l, x = 48 ∨ x = 49) → Keep H H' → Mo H' m c (b + n.toNat) → Q (.str (Sg l)) H'
theorem ok__law_string (T : Top K mg) : FnOk P w K mg base CX0 2 T.f__law_string T.fd__law_string ["m", "size"] (sp__law_string K) := by
  refine T.F__law_string.ok sc__law_string (fun vs H Q E h => ?_) (fun cdv A outer s H vs Q E hr h => ?_)
  · obtain ⟨m, c, n, b, rfl, _⟩ := h
    rfl
  · obtain ⟨m, c, n, b, rfl, hn0, hn1, hm, hb, q⟩ := h
    refine ⟨_, (pss_one (ps_ret (pe_joinD (K := K) pe_str (pe_lc (own := [("k", 2)]) (g := gName 2) (tt := tYes) (by rfl) sc__law_string.nd (pi_range1 (by rfl) T.z_range (pa_cons (pv 1) pa_nil)) (blkOk_by (own := [("k", 2)]) (N := N__law_string) (sc := defScope s__law_string) (by decide +kernel)) (fun _ _ _ _ _ => (pg_name (i := 2) sc__law_string.nd (by rfl) (by first | exact Or.inl rfl | exact Or.inr rfl))) (fun _ _ _ _ _ => pts_nil) (fun _ _ _ _ _ => (pe_callTy cl_strI (by rfl) T.z_str (by decide +kernel) (pa_cons (pe_call (ok__law_draw T) (hr.mono (by decide)) (by rfl) T.g__law_draw T.F__law_draw.kp T.b__law_draw .nil pass0 (pa_cons (pv 0) (pa_cons pe_int pa_nil))) pa_nil))))))), ?_⟩
    rw [show start N__law_string [.ref m, .int n] = [some (.ref m), some (.int n), none] from rfl]
    rw [sg_empty]
    try dsimp only [cxK]
    walk_at "w"
    refine lc_rng1_by (K := K) (JM H m c b 1 fun i es => ∃ ys : List (List Nat), es = ys.map (fun y => PyData.str (Sg y)) ∧ ys.length = i ∧ ∀ y ∈ ys, y = [48] ∨ y = [49]) (JM.ok hm ⟨[], rfl, rfl, by simp⟩) (by omega) (fun _ => rfl) ?_ ?_
    · rintro i H' es hi ⟨k, mo, ys, rfl, hl, hy⟩ Yes No hyes hno
      walk_at "w"
      refine ⟨m, c, 2, _, rfl, by decide, by decide, mo, by omega, fun r H4 h0 h1 k4 mo4 => ?_⟩
      have hr : r = 0 ∨ r = 1 := by omega
      rcases hr with rfl | rfl
      · refine w_strI (by decide) ?_
        have e : ((toString (0 : Int) : String) : Str) = Sg [48] := by decide +kernel
        rw [e]
        exact hyes _ H4 (.str (Sg [48])) k4 rfl (.str _) ⟨k.trans k4, mo4.mono (by omega), ys ++ [[48]], by simp, by simp [hl], fun y h => (List.mem_append.mp h).elim (hy y) (fun z => by simp at z; exact .inl z)⟩
      · refine w_strI (by decide) ?_
        have e : ((toString (1 : Int) : String) : Str) = Sg [49] := by decide +kernel
        rw [e]
        exact hyes _ H4 (.str (Sg [49])) k4 rfl (.str _) ⟨k.trans k4, mo4.mono (by omega), ys ++ [[49]], by simp, by simp [hl], fun y h => (List.mem_append.mp h).elim (hy y) (fun z => by simp at z; exact .inr z)⟩
    · rintro p H' vs es hn k hv dl ⟨_, mo, ys, rfl, hl, hy⟩
      have hf : ∀ ys : List (List Nat), (∀ y ∈ ys, y = [48] ∨ y = [49]) → ys.flatten.length = ys.length ∧ ∀ x ∈ ys.flatten, x = 48 ∨ x = 49 := by
        intro ys
        induction ys with
        | nil => intro _; simp
        | cons y ys ih =>
          intro h
          obtain ⟨a, b⟩ := ih fun z hz => h z (List.mem_cons_of_mem _ hz)
          have h1 := h y List.mem_cons_self
          constructor
          · rcases h1 with rfl | rfl <;> simp [a] <;> omega
          · intro x hx
            rw [List.flatten_cons, List.mem_append] at hx
            rcases hx with hx | hx
            · rcases h1 with rfl | rfl <;> simp at hx <;> omega
            · exact b x hx
      obtain ⟨f1, f2⟩ := hf ys hy
      exact w_joinSg dl (by omega) (q _ H' (by omega) f2 k (mo.mono (by omega)))

/-! ### check_word -/
def sp_check_word {K : PySem.W.Frag} {mg : Str → Option Value} (T : Top K mg) : Sp := fun vs H Q E => (∃ (l : List Nat), vs = [.str (Sg l)] ∧ Sgs l ∧ l.length ≤ 100 ∧
   (wrL l = none → ∀ H', Same H H' → Q (.str (Sg l)) H') ∧ (∀ i, wrL l = some i → ∀ d H', Same H H' → H' d = some (.xd [("place", .int i)]) → E (.ref T.c_NotWord) (some d) H')) ∨
  (∃ v, vs = [v] ∧ Odd K H v ∧ ∀ d H', Same H H' → H' d = some (.xd [("place", .int (-1))]) → E (.ref T.c_NotWord) (some d) H')
theorem ok_check_word (T : Top K mg) : FnOk P w K mg base (CX P w) 3 T.f_check_word T.fd_check_word ["value"] (sp_check_word T) := by
  refine T.F_check_word.okX sc_check_word (fun vs H Q E h => ?_) (fun cdv A outer s H vs Q E hr h => ?_)
  · rcases h with ⟨l, rfl, _⟩ | ⟨v, rfl, _⟩ <;> rfl
  · rcases h with ⟨l, rfl, hs, hl, q1, q2⟩ | ⟨v, rfl, ho, q⟩
    · refine ⟨_, (pss_cons (ps_if (PW.pt (pw_or (pt_not (pt_val (pe_callB (cl_isi (K := K)) (by rfl) T.z_isinstance (by decide +kernel) (pa_cons (pv 0) (pa_cons (pe_bltn (v := .ty "str") (by rfl) T.z_str (by decide +kernel) rfl) pa_nil))))) (pw_or1 (pt_not (pt_chain op_le op_le pe_int (pe_callB (cl_len (K := K)) (by rfl) T.z_len (by decide +kernel) (pa_cons (pv 0) pa_nil)) (pe_cint (by rfl) T.c_MOST_CHARACTERS)))))) (pss_one (ps_raise rfl (takes_of rfl rfl rfl rfl) (pmk_oex T.x_NotWord.o T.iC_NotWord T.tI_NotWord (ok_NotWord__init T) (hr.mono (by decide)) T.b_NotWord__init .nil pass0 (by rfl) T.gc_NotWord (pa_cons (pe_un un_neg pe_int) pa_nil)))) pss_nil)
      (pss_cons (ps_for (passes_of rfl) (by rfl) (pi_enumS (by rfl) T.z_enumerate (pa_cons (pv 0) pa_nil)) (pg_tupK (K := K) (n := 2) (by rfl) (pgs_cons (pg_name (i := 1) sc_check_word.nd (by rfl) (by first | exact Or.inl rfl | exact Or.inr rfl)) (pgs_cons (pg_name (i := 2) sc_check_word.nd (by rfl) (by first | exact Or.inl rfl | exact Or.inr rfl)) pgs_nil))) (pss_one (ps_if (pt_cmpR (op_notInT (K := K) (Room65 hr)) (pv 2) (pe_call (ok__allowed T) (hr.mono (by decide)) (by rfl) T.g__allowed T.F__allowed.kp T.b__allowed .nil pass0 (pa_cons (pv 1) (pa_cons (pe_callB (cl_len (K := K)) (by rfl) T.z_len (by decide +kernel) (pa_cons (pv 0) pa_nil)) pa_nil))) (by rfl)) (pss_one (ps_raise rfl (takes_of rfl rfl rfl rfl) (pmk_oex T.x_NotWord.o T.iC_NotWord T.tI_NotWord (ok_NotWord__init T) (hr.mono (by decide)) T.b_NotWord__init .nil pass0 (by rfl) T.gc_NotWord (pa_cons (pv 1) pa_nil)))) pss_nil)))
      (PSs.nox (pss_one (ps_ret (pv 0)))))), ?_⟩
      rw [show start N_check_word [.str (Sg l)] = [some (.str (Sg l)), none, none] from rfl]
      try dsimp only [cxK]
      walk_at "wp"
      refine w_iteD (fun g1 => ?_) (fun g1 => ?_)
      · walk_at "wp"
        refine w_iteND (fun g2 => ?_) (fun g2 => ?_)
        · walk_at "wp"
          refine ⟨by simp, fun a' ha' => ⟨a', T.c_NotWord, -1, rfl, T.x_NotWord.o, T.n_NotWord_place, upd_same, by decide, by decide, fun dx hdx hne => ⟨rfl, dx, [("place", .int (-1))], upd_same, ?_, ?_, ?_⟩⟩⟩
          · rw [upd_ne hne]; exact upd_same
          · rw [upd_ne hne] at hdx; exact hdx
          · rw [upd_ne hne] at hdx
            exact q2 _ (wrL_bad (by omega)) dx _ (raise_same ha' hdx) upd_same
        · have hb : ¬ (l.length = 0 ∨ 24 < l.length) := by omega
          walk_at "wp"
          refine forE_by (K := K) (fun i σ' H' => ∃ y1 y2 : Option V, σ' = [some (.str (Sg l)), y1, y2] ∧ Same H H' ∧ ∀ j, j < i → OkAt l j) ⟨_, _, rfl, Same.refl _, fun j hj => by omega⟩ ?_ ?_
          · rintro i c T' σ' H' H2 hi ⟨y1, y2, rfl, s1, hok⟩ s2 dT
            have hil := (List.getElem?_eq_some_iff.mp hi).1
            have hc : l.getD i 0 = c := by rw [List.getD_eq_getElem?_getD, hi]; rfl
            refine w_gTup2 dT fun v1 v2 g1 g2 => ?_
            cases g1
            cases g2
            walk_at "wp"
            refine ⟨i, l.length, rfl, by omega, by omega, fun v H3 e3 d3 => ?_⟩
            walk_at "wp"
            refine w_notInT (d := .str (Sg [c])) (.str _) d3 (show PyData.strOk (Sg [c]) = true from strOk_s fun x hx => by rw [List.mem_singleton.mp hx]; exact hs c (List.mem_of_getElem? hi)) (pln_tuple (alL_str _ _)) (fun hm => ?_) (fun hm => ?_)
            · walk_at "wp"
              refine ⟨_, _, rfl, (s1.trans s2).trans e3, fun j hj => ?_⟩
              by_cases z : j < i
              · exact hok j z
              · obtain rfl : j = i := by omega
                show [l.getD j 0] ∈ _
                rw [hc]
                obtain ⟨x, hx, e⟩ := List.mem_map.mp hm
                have := sg_inj (PyData.str.inj e)
                rw [← this]
                exact hx
            · walk_at "wp"
              refine ⟨by simp, fun a' ha' => ⟨a', T.c_NotWord, (i : Int), rfl, T.x_NotWord.o, T.n_NotWord_place, upd_same, by omega, by omega, fun dx hdx hne => ⟨rfl, dx, [("place", .int (i : Int))], upd_same, ?_, ?_, ?_⟩⟩⟩
              · rw [upd_ne hne]; exact upd_same
              · rw [upd_ne hne] at hdx; exact hdx
              · rw [upd_ne hne] at hdx
                refine q2 _ (wrL_at hb hil hok fun z => hm ?_) dx _ (((s1.trans s2).trans e3).trans (raise_same ha' hdx)) upd_same
                refine List.mem_map.mpr ⟨[c], ?_, rfl⟩
                rw [← hc]
                exact z
          · rintro σ' H' ⟨y1, y2, rfl, s1, hok⟩
            walk_at "wp"
            exact q1 (wrL_none hb hok) _ s1
      · walk_at "wp"
        refine ⟨by simp, fun a' ha' => ⟨a', T.c_NotWord, -1, rfl, T.x_NotWord.o, T.n_NotWord_place, upd_same, by decide, by decide, fun dx hdx hne => ⟨rfl, dx, [("place", .int (-1))], upd_same, ?_, ?_, ?_⟩⟩⟩
        · rw [upd_ne hne]; exact upd_same
        · rw [upd_ne hne] at hdx; exact hdx
        · rw [upd_ne hne] at hdx
          exact q2 _ (wrL_bad (by omega)) dx _ (raise_same ha' hdx) upd_same
    · refine ⟨_, (pss_cons (ps_if (PW.pt (pw_or (pt_not (pt_val (pe_callB (cl_isi (K := K)) (by rfl) T.z_isinstance (by decide +kernel) (pa_cons (pv 0) (pa_cons (pe_bltn (v := .ty "str") (by rfl) T.z_str (by decide +kernel) rfl) pa_nil))))) (pw_or1 (pt_not (pt_chain op_le op_le pe_int (pe_callB (cl_len (K := K)) (by rfl) T.z_len (by decide +kernel) (pa_cons (pv 0) pa_nil)) (pe_cint (by rfl) T.c_MOST_CHARACTERS)))))) (pss_one (ps_raise rfl (takes_of rfl rfl rfl rfl) (pmk_oex T.x_NotWord.o T.iC_NotWord T.tI_NotWord (ok_NotWord__init T) (hr.mono (by decide)) T.b_NotWord__init .nil pass0 (by rfl) T.gc_NotWord (pa_cons (pe_un un_neg pe_int) pa_nil)))) pss_nil)
      (pss_cons (ps_for (passes_of rfl) (by rfl) (pi_enumS (by rfl) T.z_enumerate (pa_cons (pv 0) pa_nil)) (pg_tupK (K := K) (n := 2) (by rfl) (pgs_cons (pg_name (i := 1) sc_check_word.nd (by rfl) (by first | exact Or.inl rfl | exact Or.inr rfl)) (pgs_cons (pg_name (i := 2) sc_check_word.nd (by rfl) (by first | exact Or.inl rfl | exact Or.inr rfl)) pgs_nil))) (pss_one (ps_if (pt_cmpR (op_notInT (K := K) (Room65 hr)) (pv 2) (pe_call (ok__allowed T) (hr.mono (by decide)) (by rfl) T.g__allowed T.F__allowed.kp T.b__allowed .nil pass0 (pa_cons (pv 1) (pa_cons (pe_callB (cl_len (K := K)) (by rfl) T.z_len (by decide +kernel) (pa_cons (pv 0) pa_nil)) pa_nil))) (by rfl)) (pss_one (ps_raise rfl (takes_of rfl rfl rfl rfl) (pmk_oex T.x_NotWord.o T.iC_NotWord T.tI_NotWord (ok_NotWord__init T) (hr.mono (by decide)) T.b_NotWord__init .nil pass0 (by rfl) T.gc_NotWord (pa_cons (pv 1) pa_nil)))) pss_nil)))
      (PSs.nox (pss_one (ps_ret (pv 0)))))), ?_⟩
      rw [show start N_check_word [v] = [some (v), none, none] from rfl]
      try dsimp only [cxK]
      obtain ⟨t, ty, hk⟩ := ho.ty
      walk_at "wp"
      refine w_isiN ty hk ?_
      walk_at "wp"
      refine ⟨by simp, fun a' ha' => ⟨a', T.c_NotWord, -1, rfl, T.x_NotWord.o, T.n_NotWord_place, upd_same, by decide, by decide, fun dx hdx hne => ⟨rfl, dx, [("place", .int (-1))], upd_same, ?_, ?_, ?_⟩⟩⟩
      · rw [upd_ne hne]; exact upd_same
      · rw [upd_ne hne] at hdx; exact hdx
      · rw [upd_ne hne] at hdx
        exact q dx _ (raise_same ha' hdx) upd_same

/-! ### star_words -/
def sp_star_words {K : PySem.W.Frag} {mg : Str → Option Value} (T : Top K mg) : Sp := fun vs H Q E => ∃ n : Nat, vs = [.int n] ∧ 1 ≤ n ∧ (n ≤ 12 → ∀ v H', Same H H' → Dp K H' v (.tuple ((swA n).map fun s => PyData.str (Sg s))) → Q v H') ∧
  (12 < n → ∀ d H', Same H H' → H' d = some (.xd [("limit", .int 12)]) → E (.ref T.c_TooMany) (some d) H')
theorem ok_star_words (T : Top K mg) : FnOk P w K mg base (CX P w) 3 T.f_star_words T.fd_star_words ["count"] (sp_star_words T) := by
  refine T.F_star_words.okX sc_star_words (fun vs H Q E h => ?_) (fun cdv A outer s H vs Q E hr h => ?_)
  · obtain ⟨n, rfl, _⟩ := h
    rfl
  · obtain ⟨n, rfl, h1, q, qe⟩ := h
    refine ⟨_, (pss_cons (ps_if (pt_cmpR op_gt (pv 0) (pe_cint (by rfl) T.c_MOST_LISTED) (nomark _)) (pss_one (ps_raise rfl (takes_of rfl rfl rfl rfl) (pmk_oex T.x_TooMany.o T.iC_TooMany T.tI_TooMany (ok_TooMany__init T) (hr.mono (by decide)) T.b_TooMany__init .nil pass0 (by rfl) T.gc_TooMany (pa_cons (pe_cint (by rfl) T.c_MOST_LISTED) pa_nil)))) pss_nil)
      (PSs.nox (pss_cons (ps_if (pt_cmpR op_eq (pv 0) pe_int (nomark _)) (pss_one (ps_ret (pe_tup (pa_cons pe_str pa_nil)))) pss_nil)
      (pss_cons (ps_set (i := 1) sc_star_words.nd (by rfl) (by first | exact Or.inl rfl | exact Or.inr rfl) (pe_lst (pa_cons pe_str pa_nil)))
      (pss_cons (ps_for PassesOwn.never (by rfl) (pi_range1 (by rfl) T.z_range (pa_cons (pe_op op_sub (pv 0) pe_int) pa_nil)) (pg_name (i := 2) sc_star_words.nd (by rfl) (by first | exact Or.inl rfl | exact Or.inr rfl)) (pss_one (ps_setLc2 (i := 1) (own := [("begun", 3), ("character", 4)]) (g := gName 3) (tt := tYes) (g1 := gName 4) (tt1 := tYes) (vs1 := [4]) (by rfl) sc_star_words.nd (by rfl) (by rfl) (sw_true rfl rfl rfl (by decide +kernel)) (pi_listK (K := K) (pv 1)) (blkOk_by (own := [("begun", 3), ("character", 4)]) (N := N_star_words) (sc := defScope s_star_words) (by decide +kernel)) (by decide) (fun _ _ _ _ _ => (pg_name (i := 3) sc_star_words.nd (by rfl) (by first | exact Or.inl rfl | exact Or.inr rfl))) (fun _ _ _ _ _ => pts_nil) (fun _ _ _ _ _ => (pi_str pe_str)) (fun _ _ _ _ _ => (pg_name (i := 4) sc_star_words.nd (by rfl) (by first | exact Or.inl rfl | exact Or.inr rfl))) (fun _ _ _ _ _ => pts_nil) (fun _ _ _ _ _ => (pe_op op_addS (pv 3) (pv 4))))))
      (pss_one (ps_ret (pe_callTy (cl_tup (K := K)) (by rfl) T.z_tuple (by decide +kernel) (pa_cons (pe_lc (own := [("begun", 3)]) (g := gName 3) (tt := tYes) (by rfl) sc_star_words.nd (pi_listK (K := K) (pv 1)) (blkOk_by (own := [("begun", 3)]) (N := N_star_words) (sc := defScope s_star_words) (by decide +kernel)) (fun _ _ _ _ _ => (pg_name (i := 3) sc_star_words.nd (by rfl) (by first | exact Or.inl rfl | exact Or.inr rfl))) (fun _ _ _ _ _ => pts_nil) (fun _ _ _ _ _ => (pe_op op_addS (pv 3) pe_str))) pa_nil))))))))), ?_⟩
    rw [show start N_star_words [.int n] = [some (.int n), none, none, none, none] from rfl]
    rw [show Str.ofString "1" = Sg [49] by decide +kernel, show Str.ofString "*" = Sg [42] by decide +kernel, show Str.ofString "01" = Sg [48, 49] by decide +kernel]
    try dsimp only [cxK]
    walk_at "wp"
    refine w_iteD (fun hgt => ?_) (fun hle => ?_)
    · walk_at "wp"
      refine ⟨by simp, fun a' ha' => ⟨a', T.c_TooMany, 12, rfl, T.x_TooMany.o, T.n_TooMany_limit, upd_same, by decide, by decide, fun dx hdx hne => ⟨rfl, dx, [("limit", .int 12)], upd_same, ?_, ?_, ?_⟩⟩⟩
      · rw [upd_ne hne]; exact upd_same
      · rw [upd_ne hne] at hdx; exact hdx
      · rw [upd_ne hne] at hdx
        exact qe (by omega) dx _ (raise_same ha' hdx) upd_same
    have h2 : n ≤ 12 := by omega
    have q := q h2
    walk_at "wp"
    refine w_iteD (fun h => ?_) (fun hn1 => ?_)
    · walk_at "wp"
      refine w_newT (K := K) (ds := [.str (Sg [42])]) (len_ok (by simp)) (dpa_one (.str _)) fun p H1 n1 e1 d1 => ?_
      exact q _ _ e1 (by rw [swA, if_pos (by omega)]; exact d1)
    have h1 : 2 ≤ n := by omega
    rw [swA, if_neg (by omega)] at q
    walk_at "wp"
    refine w_newL (K := K) (len_ok (by simp)) (dpa_one (.str (Sg [49]))) fun p H1 n1 e1 f1 d1 => ?_
    walk_at "wp"
    refine forR1_by (fun i σ' H' => ∃ (y : V) (y2 y3 y4 : Option V), σ' = [some (.int n), some y, y2, y3, y4] ∧ Same H H' ∧ Dp K H' y (.list ((begs i).map fun b => PyData.str (Sg b)))) (by omega) ⟨_, none, none, none, rfl, e1, by simpa [begs] using d1⟩ ?_ ?_
    · rintro i σ' H' hi ⟨y, y2, y3, y4, rfl, s1, dy⟩
      have hb := begs_len i
      have hpow : 2 ^ i ≤ 2 ^ 10 := Nat.pow_le_pow_right (by decide) (by omega)
      walk_at "wp"
      refine w_lc2 ?_
      walk_at "wp"
      have hmem : ∀ d ∈ (begs i).map (fun b => PyData.str (Sg b)), ∃ b, d = .str (Sg b) ∧ b.length = i + 1 := by
        intro d hd
        obtain ⟨b, hb1, rfl⟩ := List.mem_map.mp hd
        exact ⟨b, rfl, hb.2 b hb1⟩
      refine lc2_by (K := K) fSW [48, 49] dy (by rw [List.length_map, hb.1]; simp; omega) ?_ (fun _ => rfl) (fun _ _ => rfl) ?_ ?_ ?_
      · intro d hd c hc
        obtain ⟨b, rfl, _⟩ := hmem d hd
        rfl
      · intro y d H2 hd hy R hR
        exact hR
      · intro y d c H2 hd hc hy R hR
        obtain ⟨b, rfl, hbl⟩ := hmem d hd
        cases hy
        walk_at "wp"
        refine w_addSg (by rw [hbl]; simp; omega) ?_
        refine hR _ H2 (Same.refl _) ?_
        rw [fSW, sg_app]
        exact .str _
      · intro p2 H2 ws hn k2 hv d2
        rw [fSW_all] at d2
        walk_at "wp"
        exact ⟨_, _, _, _, rfl, s1.trans k2, d2⟩
    · rintro σ' H' ⟨y, y2, y3, y4, rfl, s1, dy⟩
      have e0 : ((n : Int) - 2).toNat = n - 2 := by omega
      rw [e0] at dy
      have hb := begs_len (n - 2)
      have hpow : 2 ^ (n - 2) ≤ 2 ^ 10 := Nat.pow_le_pow_right (by decide) (by omega)
      walk_at "wp"
      refine lc_list_by (JP H' fun i es => es = ((begs (n - 2)).take i).map (fun b => PyData.str (Sg (b ++ [42])))) (JP.ok rfl) dy (by rw [List.length_map]; omega) (fun _ => rfl) ?_ ?_
      · intro i d y H2 es hd hy hJ Yes No hyes hno
        obtain ⟨s2, rfl⟩ := hJ
        rw [List.getElem?_map] at hd
        obtain ⟨b, hj, rfl⟩ := Option.map_eq_some_iff.mp hd
        cases hy
        have hbl := hb.2 b (List.mem_of_getElem? hj)
        walk_at "wp"
        refine w_addSg (by rw [hbl]; simp; omega) ?_
        refine hyes _ H2 (.str (Sg (b ++ [42]))) (Keep.refl _) rfl (.str _) ⟨s2, ?_⟩
        show _ = _
        rw [List.take_add_one, hj]
        simp
      · rintro p2 H2 vs2 es2 hn2 k2 hv2 dl2 ⟨s2, rfl⟩
        rw [List.length_map, List.take_length] at dl2
        refine w_tupOf dl2 fun p3 H3 n3 e3 d3 => ?_
        refine q _ H3 ((s1.trans s2).trans e3) ?_
        rw [swL, List.map_map]
        exact d3

/-! ### _law_word -/
def sp__law_word (K : PySem.W.Frag) : Sp := fun vs H Q _ => ∃ (m c : Addr) (most : Int) (b : Nat), vs = [.ref m, .int most] ∧ 1 ≤ most ∧ most ≤ 100 ∧ Mo H m c b ∧ b < 2 ^ 44 ∧
  ∀ (l : List Nat) H', WordW l → (l.length : Int) ≤ most → Keep H H' → Mo H' m c (b + 200) → Q (.str (Sg l)) H'
theorem ok__law_word (T : Top K mg) : FnOk P w K mg base CX0 3 T.f__law_word T.fd__law_word ["m", "most"] (sp__law_word K) := by
  refine T.F__law_word.ok sc__law_word (fun vs H Q E h => ?_) (fun cdv A outer s H vs Q E hr h => ?_)
  · obtain ⟨m, c, most, b, rfl, _⟩ := h
    rfl
  · obtain ⟨m, c, most, b, rfl, hn0, hn1, hm, hb, q⟩ := h
    refine ⟨_, (pss_cons (ps_set (i := 2) sc__law_word.nd (by rfl) (by first | exact Or.inl rfl | exact Or.inr rfl) (pe_op op_add pe_int (pe_call (ok__law_draw T) (hr.mono (by decide)) (by rfl) T.g__law_draw T.F__law_draw.kp T.b__law_draw .nil pass0 (pa_cons (pv 0) (pa_cons (pv 1) pa_nil)))))
      (pss_one (ps_ret (pe_ifExp (pt_cmpR op_eq (pv 2) pe_int (nomark _)) pe_str (pe_op op_addS (pe_op op_addS pe_str (pe_call (ok__law_string T) (hr.mono (by decide)) (by rfl) T.g__law_string T.F__law_string.kp T.b__law_string .nil pass0 (pa_cons (pv 0) (pa_cons (pe_op op_sub (pv 2) pe_int) pa_nil)))) pe_str))))), ?_⟩
    rw [show start N__law_word [.ref m, .int most] = [some (.ref m), some (.int most), none] from rfl]
    rw [show Str.ofString "*" = Sg [42] by decide +kernel, show Str.ofString "1" = Sg [49] by decide +kernel]
    try dsimp only [cxK]
    walk_at "w"
    refine ⟨m, c, most, b, rfl, by omega, by omega, hm, by omega, fun r H1 h0 h1 k1 m1 => ?_⟩
    walk_at "w"
    refine w_iteD (fun e => ?_) (fun e => ?_)
    · walk_at "w"
      exact q [42] H1 (.inl rfl) (by simp; omega) k1 (m1.mono (by omega))
    · walk_at "w"
      refine ⟨m, c, _, _, rfl, by omega, by omega, m1, by omega, fun l H2 hl hx k2 m2 => ?_⟩
      walk_at "w"
      refine w_addSg (by simp; omega) ?_
      refine w_addSg (by simp; omega) ?_
      have hw := wordW_mk hx
      refine q _ H2 (by simpa using hw) (by simp; omega) (k1.trans k2) (m2.mono (by omega))

/-! ### _law_bent -/
def sp__law_bent (K : PySem.W.Frag) : Sp := fun vs H Q _ => ∃ (m c : Addr) (l : List Nat) (b : Nat), vs = [.ref m, .str (Sg l)] ∧ Sgs l ∧ 0 < l.length ∧ l.length ≤ 24 ∧ Mo H m c b ∧ b < 2 ^ 40 ∧ ∀ v H', AnyV K H' v → Keep H H' → Mo H' m c (b + 4) → Q v H'
theorem ok__law_bent (T : Top K mg) : FnOk P w K mg base CX0 3 T.f__law_bent T.fd__law_bent ["m", "word"] (sp__law_bent K) := by
  refine T.F__law_bent.ok sc__law_bent (fun vs H Q E h => ?_) (fun cdv A outer s H vs Q E hr h => ?_)
  · obtain ⟨m, c, l, b, rfl, _⟩ := h
    rfl
  · obtain ⟨m, c, l, b, rfl, hs, hl0, hl, hm, hb, q⟩ := h
    refine ⟨_, (pss_cons (ps_par (i := 2) (j := 3) (by rfl) sc__law_bent.nd (by rfl) (by rfl) (by decide) (by rfl) (by rfl) (pa_cons (pe_call (ok__law_draw T) (hr.mono (by decide)) (by rfl) T.g__law_draw T.F__law_draw.kp T.b__law_draw .nil pass0 (pa_cons (pv 0) (pa_cons (pe_callB (cl_len (K := K)) (by rfl) T.z_len (by decide +kernel) (pa_cons (pv 1) pa_nil)) pa_nil))) (pa_cons (pe_call (ok__law_draw T) (hr.mono (by decide)) (by rfl) T.g__law_draw T.F__law_draw.kp T.b__law_draw .nil pass0 (pa_cons (pv 0) (pa_cons pe_int pa_nil))) pa_nil)) (by rfl))
      (pss_cons (ps_set (i := 4) sc__law_bent.nd (by rfl) (by first | exact Or.inl rfl | exact Or.inr rfl) (pe_call (ok__law_of T) (hr.mono (by decide)) (by rfl) T.g__law_of T.F__law_of.kp T.b__law_of .nil pass0 (pa_cons (pv 0) (pa_cons (pe_lst (pa_cons pe_str (pa_cons pe_str (pa_cons pe_str (pa_cons pe_str (pa_cons pe_str (pa_cons pe_str pa_nil))))))) pa_nil))))
      (pss_cons (ps_if (pt_cmpR op_lt (pv 3) pe_int (nomark _)) (pss_one (ps_ret (pe_op op_addS (pe_op op_addS (pe_slice sl_str (pv 1) po_none (po_some (pv 2))) (pv 4)) (pe_slice sl_str (pv 1) (po_some (pe_op op_add (pv 2) pe_int)) po_none)))) pss_nil)
      (pss_cons (ps_if (pt_cmpR op_eq (pv 3) pe_int (nomark _)) (pss_one (ps_ret (pe_op op_addS (pe_op op_addS (pe_slice sl_str (pv 1) po_none (po_some (pv 2))) (pv 4)) (pe_slice sl_str (pv 1) (po_some (pv 2)) po_none)))) pss_nil)
      (pss_cons (ps_if (pt_cmpR op_eq (pv 3) pe_int (nomark _)) (pss_one (ps_ret (pe_op op_addS (pe_slice sl_str (pv 1) po_none (po_some (pv 2))) (pe_slice sl_str (pv 1) (po_some (pe_op op_add (pv 2) pe_int)) po_none)))) pss_nil)
      (pss_cons (ps_if (pt_cmpR op_eq (pv 3) pe_int (nomark _)) (pss_one (ps_ret (pe_op op_addS (pv 1) (pe_call (ok__law_of T) (hr.mono (by decide)) (by rfl) T.g__law_of T.F__law_of.kp T.b__law_of .nil pass0 (pa_cons (pv 0) (pa_cons (pe_lst (pa_cons pe_str (pa_cons pe_str (pa_cons pe_str (pa_cons pe_str pa_nil))))) pa_nil)))))) pss_nil)
      (pss_cons (ps_if (pt_cmpR op_eq (pv 3) pe_int (nomark _)) (pss_one (ps_ret (pe_call (ok__law_of T) (hr.mono (by decide)) (by rfl) T.g__law_of T.F__law_of.kp T.b__law_of .nil pass0 (pa_cons (pv 0) (pa_cons (pe_lst (pa_cons pe_non (pa_cons pe_bl (pa_cons pe_int (pa_cons (pe_tup (pa_cons pe_str (pa_cons pe_str pa_nil))) (pa_cons (pe_lst (pa_cons pe_str pa_nil)) (pa_cons (pe_tup pa_nil) (pa_cons pe_dnewT pa_nil)))))))) pa_nil))))) pss_nil)
      (pss_one (ps_ret (pe_call (ok__law_of T) (hr.mono (by decide)) (by rfl) T.g__law_of T.F__law_of.kp T.b__law_of .nil pass0 (pa_cons (pv 0) (pa_cons (pe_lst (pa_cons (pv 1) (pa_cons pe_str (pa_cons pe_str (pa_cons pe_str (pa_cons pe_str (pa_cons (pe_op op_addS (pe_op op_mulStr pe_str pe_int) pe_str) (pa_cons (pe_op op_addS (pe_op op_mulStr pe_str pe_int) pe_str) pa_nil)))))))) pa_nil)))))))))))), ?_⟩
    rw [show start N__law_bent [.ref m, .str (Sg l)] = [some (.ref m), some (.str (Sg l)), none, none, none] from rfl]
    rw [show Str.ofString "0" = Sg [48] by decide +kernel, show Str.ofString "1" = Sg [49] by decide +kernel, show Str.ofString "*" = Sg [42] by decide +kernel, show Str.ofString " " = Sg [32] by decide +kernel, show Str.ofString "2" = Sg [50] by decide +kernel, show Str.ofString "11" = Sg [49, 49] by decide +kernel, show Str.ofString "1*" = Sg [49, 42] by decide +kernel, show Str.ofString "0*" = Sg [48, 42] by decide +kernel, show Str.ofString "**" = Sg [42, 42] by decide +kernel, show Str.ofString "" = Sg [] by decide +kernel, show Str.ofString "0000000000000000000000*" = Sg (List.replicate 22 48 ++ [42]) by decide +kernel]
    try dsimp only [cxK]
    walk_at "wp"
    refine ⟨m, c, _, _, rfl, by omega, by omega, hm, by omega, fun k H1 k0 k1 kk1 m1 => ?_⟩
    walk_at "wp"
    refine ⟨m, c, 9, _, rfl, by decide, by decide, m1, by omega, fun w' H2 w0 w1 kk2 m2 => ?_⟩
    walk_at "wp"
    refine w_newL (K := K) (ds := [.str (Sg [48]), .str (Sg [49]), .str (Sg [42]), .str (Sg [32]), .str (Sg [50]), .str (Sg [49, 49])]) (len_ok (by simp)) (.cons (.str _) (.cons (.str _) (.cons (.str _) (.cons (.str _) (.cons (.str _) (dpa_one (.str _))))))) fun p3 H3 n3 e3 f3 d3 => ?_
    walk_at "wp"
    refine ⟨m, c, p3, _, _, rfl, f3, by simp, by simp, m2.same e3, by omega, fun y H4 hd k4 m4 => ?_⟩
    obtain ⟨sg, hsg, hss, rfl⟩ : ∃ z : List Nat, z.length ≤ 2 ∧ Sgs z ∧ y = .str (Sg z) := by
      simp only [List.mem_cons, List.not_mem_nil, or_false] at hd
      rcases hd with rfl | rfl | rfl | rfl | rfl | rfl <;> exact ⟨_, by simp, by simp [Sgs], rfl⟩
    have kk := ((kk1.trans kk2).trans (Keep.of e3)).trans k4
    have fin : ∀ l' : List Nat, Sgs l' → l'.length ≤ 100 → Q (.str (Sg l')) H4 := fun l' hs' h => q _ H4 (.txt hs' h) kk (m4.mono (by omega))
    obtain ⟨kn, rfl⟩ := Int.eq_ofNat_of_zero_le k0
    have t1 : (l.take kn).length ≤ kn := by rw [List.length_take]; omega
    have t2 : (l.drop kn).length = l.length - kn := List.length_drop
    have t3 : (l.drop (kn + 1)).length = l.length - (kn + 1) := List.length_drop
    have st : Sgs (l.take kn) := fun x hx => hs x (List.mem_of_mem_take hx)
    have sd : ∀ j, Sgs (l.drop j) := fun j x hx => hs x (List.mem_of_mem_drop hx)
    have sa : ∀ {a b : List Nat}, Sgs a → Sgs b → Sgs (a ++ b) := fun ha hb x hx => (List.mem_append.mp hx).elim (ha x) (hb x)
    walk_at "wp"
    refine w_iteD (fun h1 => ?_) (fun h1 => ?_)
    · walk_at "wp"
      rw [cutD_to _ (by omega), Int.toNat_natCast]
      refine w_addSg (by omega) ?_
      walk_at "wp"
      rw [cutD_from _ (by omega), show ((kn : Int) + 1).toNat = kn + 1 by omega]
      refine w_addSg (by rw [List.length_append]; omega) ?_
      exact fin _ (sa (sa st hss) (sd _)) (by rw [List.length_append, List.length_append]; omega)
    walk_at "wp"
    refine w_iteD (fun h2 => ?_) (fun h2 => ?_)
    · walk_at "wp"
      rw [cutD_to _ (by omega), Int.toNat_natCast]
      refine w_addSg (by omega) ?_
      walk_at "wp"
      rw [cutD_from _ (by omega), Int.toNat_natCast]
      refine w_addSg (by rw [List.length_append]; omega) ?_
      exact fin _ (sa (sa st hss) (sd _)) (by rw [List.length_append, List.length_append]; omega)
    walk_at "wp"
    refine w_iteD (fun h3 => ?_) (fun h3 => ?_)
    · walk_at "wp"
      rw [cutD_to _ (by omega), Int.toNat_natCast, cutD_from _ (by omega), show ((kn : Int) + 1).toNat = kn + 1 by omega]
      refine w_addSg (by omega) ?_
      exact fin _ (sa st (sd _)) (by rw [List.length_append]; omega)
    walk_at "wp"
    refine w_iteD (fun h4 => ?_) (fun h4 => ?_)
    · walk_at "wp"
      refine w_newL (K := K) (ds := [.str (Sg [42]), .str (Sg [48]), .str (Sg [49, 42]), .str (Sg (List.replicate 22 48 ++ [42]))]) (len_ok (by simp)) (.cons (.str _) (.cons (.str _) (.cons (.str _) (dpa_one (.str _))))) fun p5 H5 n5 e5 f5 d5 => ?_
      walk_at "wp"
      refine ⟨m, c, p5, _, _, rfl, f5, by simp, by simp, m4.same e5, by omega, fun y2 H6 hd2 k6 m6 => ?_⟩
      obtain ⟨s2, hs2, hs3, rfl⟩ : ∃ z : List Nat, z.length ≤ 23 ∧ Sgs z ∧ y2 = .str (Sg z) := by
        simp only [List.mem_cons, List.not_mem_nil, or_false] at hd2
        rcases hd2 with rfl | rfl | rfl | rfl <;> exact ⟨_, by simp, by simp [Sgs], rfl⟩
      refine w_addSg (by omega) ?_
      exact q _ H6 (.txt (sa hs hs3) (by rw [List.length_append]; omega)) ((kk.trans (Keep.of e5)).trans k6) (m6.mono (by omega))
    walk_at "wp"
    refine w_iteD (fun h5 => ?_) (fun h5 => ?_)
    · walk_at "wp"
      refine w_newT (K := K) (ds := [.str (Sg [49]), .str (Sg [42])]) (len_ok (by simp)) (.cons (.str _) (dpa_one (.str _))) fun p5 H5 n5 e5 d5 => ?_
      walk_at "wp"
      refine w_newL (K := K) (ds := [.str (Sg [42])]) (len_ok (by simp)) (dpa_one (.str _)) fun p6 H6 n6 e6 f6 d6 => ?_
      walk_at "wp"
      refine w_newT (K := K) (ds := []) (len_ok (by simp)) .nil fun p7 H7 n7 e7 d7 => ?_
      walk_at "wp"
      intro p8 n8
      have e8 : Same H7 (upd H7 p8 (.dT [])) := same_new n8
      have f8 : upd H7 p8 (.dT []) p8 = some (.dT []) := upd_same
      generalize upd H7 p8 (.dT []) = H8 at *
      walk_at "wp"
      refine ⟨len_ok (by simp), fun p9 n9 => ?_⟩
      have e9 := same_new (o := .lst [.non, .bl true, .int 1, .ref p5, .ref p6, .ref p7, .ref p8]) n9
      walk_at "wp"
      refine ⟨m, c, p9, _, _, rfl, upd_same, by simp, by simp, ((((m4.same e5).same e6).same e7).same e8).same e9, by omega, fun y H10 hy k10 m10 => ?_⟩
      have k59 : Keep H4 H10 := (((((Keep.of e5).trans (Keep.of e6)).trans (Keep.of e7)).trans (Keep.of e8)).trans (Keep.of e9)).trans k10
      refine q _ _ (.odd ?_) (kk.trans k59) (m10.mono (by omega))
      simp only [List.mem_cons, List.not_mem_nil, or_false] at hy
      have k8 := (Keep.of e9).trans k10
      have k7 := (Keep.of e8).trans k8
      have k6 := (Keep.of e7).trans k7
      rcases hy with rfl | rfl | rfl | rfl | rfl | rfl | rfl
      · exact .non
      · exact .bl _
      · exact .int _
      · exact .tup (dp_keep ((Keep.of e6).trans k6) d5)
      · exact .lst (dp_keep k6 d6)
      · exact .tup (dp_keep k7 d7)
      · exact .dict (k8 _ _ (fun _ z => nomatch z) f8)
    walk_at "wp"
    refine ⟨[49], 23, rfl, rfl, by decide, by decide, by decide, ?_⟩
    walk_at "wp"
    try refine w_addSg (a := (List.replicate (23 : Int).toNat [49]).flatten) (b := [42]) (by decide) ?_
    try walk_at "wp"
    refine ⟨[49], 24, rfl, rfl, by decide, by decide, by decide, ?_⟩
    walk_at "wp"
    try refine w_addSg (a := (List.replicate (24 : Int).toNat [49]).flatten) (b := [42]) (by decide) ?_
    walk_at "wp"
    refine ⟨len_ok (by simp), fun p9 n9 => ?_⟩
    have e9 := same_new (o := .lst [.str (Sg l), .str (Sg []), .str (Sg [49]), .str (Sg [48, 42]), .str (Sg [42, 42]), .str (Sg ((List.replicate (23 : Int).toNat [49]).flatten ++ [42])), .str (Sg ((List.replicate (24 : Int).toNat [49]).flatten ++ [42]))]) n9
    walk_at "wp"
    refine ⟨m, c, p9, _, _, rfl, upd_same, by simp, by simp, m4.same e9, by omega, fun y H10 hy k10 m10 => ?_⟩
    refine q _ _ ?_ ((kk.trans (Keep.of e9)).trans k10) (m10.mono (by omega))
    simp only [List.mem_cons, List.not_mem_nil, or_false] at hy
    rcases hy with rfl | rfl | rfl | rfl | rfl | rfl | rfl
    · exact .txt hs (by omega)
    · exact .txt (by simp [Sgs]) (by simp)
    · exact .txt (by simp [Sgs]) (by simp)
    · exact .txt (by simp [Sgs]) (by simp)
    · exact .txt (by simp [Sgs]) (by simp)
    · exact .txt (fun x hx => by revert x; decide) (by decide)
    · exact .txt (fun x hx => by revert x; decide) (by decide)

/-! ### _law_is_judged -/
def sp__law_is_judged (K : PySem.W.Frag) : Sp := fun vs H Q _ => ∃ v, vs = [v] ∧ AnyV K H v ∧ ∀ H', Same H H' → Q (.bl true) H'
theorem ok__law_is_judged (T : Top K mg) : FnOk P w K mg base CX0 4 T.f__law_is_judged T.fd__law_is_judged ["value"] (sp__law_is_judged K) := by
  refine T.F__law_is_judged.ok sc__law_is_judged (fun vs H Q E h => ?_) (fun cdv A outer s H vs Q E hr h => ?_)
  · obtain ⟨v, rfl, _⟩ := h
    rfl
  · obtain ⟨v, rfl, hv, q⟩ := h
    refine ⟨_, (pss_cons (ps_par3 (i := 1) (j := 2) (l := 3) (by rfl) sc__law_is_judged.nd (by rfl) (by rfl) (by rfl) (by decide) (by decide) (by decide) (by rfl) (by rfl) (by rfl) (pa_cons (pe_call (ok__law_wrong T) (hr.mono (by decide)) (by rfl) T.g__law_wrong T.F__law_wrong.kp T.b__law_wrong .nil pass0 (pa_cons (pv 0) pa_nil)) (pa_cons pe_non (pa_cons pe_non pa_nil))) (by rfl))
      (pss_cons (ps_try_keep (i := 4) rfl rfl rfl sc__law_is_judged.nd (by rfl) (by rfl) ⟨rfl, by decide, .inl T.gc_DialError⟩ L2.takes0 (fun W pn xe tk _ => (pss_one (ps_set (i := 2) sc__law_is_judged.nd (by rfl) (by first | exact Or.inl rfl | exact Or.inr rfl) (pe_callS (ok_check_word T) (hr.mono (by decide)) (by rfl) T.g_check_word T.F_check_word.kp T.b_check_word (fun σ => passAt tk σ) (pa_cons (pv 0) pa_nil))))) (fun a oe cls d pn hz hf => (pss_one (ps_set (i := 3) sc__law_is_judged.nd (by rfl) (by first | exact Or.inl rfl | exact Or.inr rfl) (pv 4)))))
      (pss_cons (ps_if (pt_cmpR op_isN1 (pv 1) pe_non (nomark _)) (pss_one (ps_ret (pe_and (pe_cmpR op_isN1 (pv 3) pe_non (nomark _)) (pe_and (pe_callB (cl_isi (K := K)) (by rfl) T.z_isinstance (by decide +kernel) (pa_cons (pv 2) (pa_cons (pe_bltn (v := .ty "str") (by rfl) T.z_str (by decide +kernel) rfl) pa_nil))) (pe_one (pe_cmpR op_eq (pv 2) (pv 0) (nomark _))))))) pss_nil)
      (pss_cons (ps_if (PW.pt (pw_or (pt_not (pt_val (pe_callB (cl_isK (K := K)) (by rfl) T.z_isinstance (by decide +kernel) (pa_cons (pv 3) (pa_cons (pe_cls (by rfl) T.gc_NotWord) pa_nil))))) (pw_or (pt_not (pt_val (pe_callB (cl_isK (K := K)) (by rfl) T.z_isinstance (by decide +kernel) (pa_cons (pv 3) (pa_cons (pe_bltn (v := .ty "ValueError") (by rfl) T.z_ValueError (by decide +kernel) rfl) pa_nil))))) (pw_or1 (pt_val (pe_callB (cl_isK (K := K)) (by rfl) T.z_isinstance (by decide +kernel) (pa_cons (pv 3) (pa_cons (pe_cls (by rfl) T.gc_TooMany) pa_nil)))))))) (pss_one (ps_ret pe_bl)) pss_nil)
      (pss_cons (ps_for PassesOwn.never (by rfl) (pi_listK (K := K) (pe_lst (pa_cons (pe_callB (cl_isK (K := K)) (by rfl) T.z_isinstance (by decide +kernel) (pa_cons (pv 3) (pa_cons (pe_cls (by rfl) T.gc_NotText) pa_nil))) (pa_cons (pe_callB (cl_isK (K := K)) (by rfl) T.z_isinstance (by decide +kernel) (pa_cons (pv 3) (pa_cons (pe_cls (by rfl) T.gc_NotPlace) pa_nil))) (pa_cons (pe_callB (cl_isK (K := K)) (by rfl) T.z_isinstance (by decide +kernel) (pa_cons (pv 3) (pa_cons (pe_cls (by rfl) T.gc_NotLet) pa_nil))) pa_nil))))) (pg_name (i := 5) sc__law_is_judged.nd (by rfl) (by first | exact Or.inl rfl | exact Or.inr rfl)) (pss_one (ps_if (pt_val (pv 5)) (pss_one (ps_ret pe_bl)) pss_nil)))
      (pss_one (ps_ret (pe_and (pe_not (pe_callB (cl_isi (K := K)) (by rfl) T.z_isinstance (by decide +kernel) (pa_cons (pe_kf (K := K) (pv 3)) (pa_cons (pe_bltn (v := .ty "bool") (by rfl) T.z_bool (by decide +kernel) rfl) pa_nil)))) (pe_one (pe_cmpR op_eq (pe_kf (K := K) (pv 3)) (pv 1) (nomark _))))))))))), ?_⟩
    rw [show start N__law_is_judged [v] = [some (v), none, none, none, none, none] from rfl]
    try dsimp only [cxK]
    cases hv with
    | @txt l hs hl =>
      walk_at "wp"
      refine .inl ⟨l, rfl, hs, hl, fun H1 e1 => ?_⟩
      walk_at "wp"
      refine .inl ⟨l, rfl, hs, hl, fun hw H2 e2 => ?_, fun i hi d H2 e2 hd => ⟨true, T.e_NotWord_DialError, fun _ e he => ?_, fun z => absurd z (by decide)⟩⟩
      · rw [hw]
        dsimp only [ov]
        walk_at "wp"
        rw [decide_eq_true rfl]
        walk_at "wp"
        rw [decide_eq_true rfl]
        walk_at "wp"
        rw [decide_eq_true rfl]
        exact q _ (e1.trans e2)
      · rw [hi]
        dsimp only [ov]
        walk_at "wp"
        obtain ⟨hk, e4, hd2, hdk⟩ := kept_new (D := T.c_NotWord) he hd
        generalize upd H2 e (keO e (.ref T.c_NotWord) (some d)) = H4 at *
        refine w_iteD (fun h => nomatch h) (fun _ => ?_)
        walk_at "wp"
        refine ⟨e, _, _, _, _, true, rfl, hk, hdk, T.xc_NotWord, fun u r => r, T.k_NotWord_NotWord, ?_⟩
        walk_at "wp"
        refine ⟨e, _, _, _, _, true, rfl, hk, hdk, T.xc_NotWord, fun u r => r, T.k_NotWord_ValueError, ?_⟩
        walk_at "wp"
        refine ⟨e, _, _, _, _, false, rfl, hk, hdk, T.xc_NotWord, fun u r => r, T.k_NotWord_TooMany, ?_⟩
        walk_at "wp"
        refine ⟨e, _, _, _, _, false, rfl, hk, hdk, T.xc_NotWord, fun u r => r, T.k_NotWord_NotText, ?_⟩
        walk_at "wp"
        refine ⟨e, _, _, _, _, false, rfl, hk, hdk, T.xc_NotWord, fun u r => r, T.k_NotWord_NotPlace, ?_⟩
        walk_at "wp"
        refine ⟨e, _, _, _, _, false, rfl, hk, hdk, T.xc_NotWord, fun u r => r, T.k_NotWord_NotLet, ?_⟩
        walk_at "wp"
        refine w_newL (K := K) (ds := [.bool false, .bool false, .bool false]) (len_ok (by simp)) (.cons (.bl _) (.cons (.bl _) (dpa_one (.bl _)))) fun p5 H5 n5 e5 f5 d5 => ?_
        refine forL_by (fun j σ' H' => ∃ y4 y5 : Option V, σ' = [some (.str (Sg l)), some (.int i), some .non, some (.ref e), y4, y5] ∧ Same H5 H') d5 ⟨_, _, rfl, Same.refl _⟩ (fun j σ' H' hj p => by obtain ⟨_, _, _, k⟩ := p; exact Keep.of k) ?_ ?_
        · rintro j dd w σ' H' hdd hw ⟨y4, y5, rfl, s5⟩
          obtain rfl : dd = .bool false := by
            have := List.mem_of_getElem? hdd
            simpa using this
          cases hw
          walk_at "wp"
          exact ⟨_, _, rfl, s5⟩
        · rintro σ' H' ⟨y4, y5, rfl, s5⟩
          have hk6 := s5 _ _ (e5 _ _ hk)
          have hd6 := s5 _ _ (e5 _ _ hd2)
          walk_at "wp"
          refine ⟨e, _, d, _, _, rfl, hk6, hd6, T.x_NotWord.f, T.n_NotWord_place, rfl, ?_⟩
          walk_at "wp"
          refine ⟨e, _, d, _, _, rfl, hk6, hd6, T.x_NotWord.f, T.n_NotWord_place, rfl, ?_⟩
          walk_at "wp"
          rw [decide_eq_true rfl]
          exact q _ ((((e1.trans e2).trans e4).trans e5).trans s5)
    | odd ho =>
      walk_at "wp"
      refine .inr ⟨v, rfl, ho, fun H1 e1 => ?_⟩
      walk_at "wp"
      refine .inr ⟨v, rfl, ho.keep (Keep.of e1), fun d H2 e2 hd => ⟨true, T.e_NotWord_DialError, fun _ e he => ?_, fun z => absurd z (by decide)⟩⟩
      walk_at "wp"
      obtain ⟨hk, e4, hd2, hdk⟩ := kept_new (D := T.c_NotWord) he hd
      generalize upd H2 e (keO e (.ref T.c_NotWord) (some d)) = H4 at *
      refine w_iteD (fun h => nomatch h) (fun _ => ?_)
      walk_at "wp"
      refine ⟨e, _, _, _, _, true, rfl, hk, hdk, T.xc_NotWord, fun u r => r, T.k_NotWord_NotWord, ?_⟩
      walk_at "wp"
      refine ⟨e, _, _, _, _, true, rfl, hk, hdk, T.xc_NotWord, fun u r => r, T.k_NotWord_ValueError, ?_⟩
      walk_at "wp"
      refine ⟨e, _, _, _, _, false, rfl, hk, hdk, T.xc_NotWord, fun u r => r, T.k_NotWord_TooMany, ?_⟩
      walk_at "wp"
      refine ⟨e, _, _, _, _, false, rfl, hk, hdk, T.xc_NotWord, fun u r => r, T.k_NotWord_NotText, ?_⟩
      walk_at "wp"
      refine ⟨e, _, _, _, _, false, rfl, hk, hdk, T.xc_NotWord, fun u r => r, T.k_NotWord_NotPlace, ?_⟩
      walk_at "wp"
      refine ⟨e, _, _, _, _, false, rfl, hk, hdk, T.xc_NotWord, fun u r => r, T.k_NotWord_NotLet, ?_⟩
      walk_at "wp"
      refine w_newL (K := K) (ds := [.bool false, .bool false, .bool false]) (len_ok (by simp)) (.cons (.bl _) (.cons (.bl _) (dpa_one (.bl _)))) fun p5 H5 n5 e5 f5 d5 => ?_
      refine forL_by (fun j σ' H' => ∃ y4 y5 : Option V, σ' = [some v, some (.int (-1)), some .non, some (.ref e), y4, y5] ∧ Same H5 H') d5 ⟨_, _, rfl, Same.refl _⟩ (fun j σ' H' hj p => by obtain ⟨_, _, _, k⟩ := p; exact Keep.of k) ?_ ?_
      · rintro j dd w σ' H' hdd hw ⟨y4, y5, rfl, s5⟩
        obtain rfl : dd = .bool false := by
          have := List.mem_of_getElem? hdd
          simpa using this
        cases hw
        walk_at "wp"
        exact ⟨_, _, rfl, s5⟩
      · rintro σ' H' ⟨y4, y5, rfl, s5⟩
        have hk6 := s5 _ _ (e5 _ _ hk)
        have hd6 := s5 _ _ (e5 _ _ hd2)
        walk_at "wp"
        refine ⟨e, _, d, _, _, rfl, hk6, hd6, T.x_NotWord.f, T.n_NotWord_place, rfl, ?_⟩
        walk_at "wp"
        refine ⟨e, _, d, _, _, rfl, hk6, hd6, T.x_NotWord.f, T.n_NotWord_place, rfl, ?_⟩
        walk_at "wp"
        rw [decide_eq_true rfl]
        exact q _ ((((e1.trans e2).trans e4).trans e5).trans s5)

/-! ### _law_refused -/
def sp__law_refused (K : PySem.W.Frag) : Sp := fun vs H Q _ => ∃ n : Nat, vs = [.int (n : Int)] ∧ 12 < n ∧ ∀ H', Same H H' → Q (.int 12) H'
theorem ok__law_refused (T : Top K mg) : FnOk P w K mg base CX0 4 T.f__law_refused T.fd__law_refused ["count"] (sp__law_refused K) := by
  refine T.F__law_refused.ok sc__law_refused (fun vs H Q E h => ?_) (fun cdv A outer s H vs Q E hr h => ?_)
  · obtain ⟨n, rfl, _⟩ := h
    rfl
  · obtain ⟨n, rfl, h1, q⟩ := h
    refine ⟨_, (pss_cons (ps_set (i := 1) sc__law_refused.nd (by rfl) (by first | exact Or.inl rfl | exact Or.inr rfl) pe_non)
      (pss_cons (ps_try_as (i := 2) rfl rfl sc__law_refused.nd (by rfl) (by rfl) ⟨rfl, by decide, .inl T.gc_TooMany⟩ L2.takes0 (fun W pn xe tk _ => (pss_one (ps_expr (pe_callS (ok_star_words T) (hr.mono (by decide)) (by rfl) T.g_star_words T.F_star_words.kp T.b_star_words (fun σ => passAt tk σ) (pa_cons (pv 0) pa_nil))))) (fun a oe cls d pn hz hf => (pss_one (ps_set (i := 1) sc__law_refused.nd (by rfl) (by first | exact Or.inl rfl | exact Or.inr rfl) (pe_xf T.x_TooMany.f T.n_TooMany_limit hz hf (pv 2))))))
      (pss_one (ps_ret (pv 1))))), ?_⟩
    rw [show start N__law_refused [.int (n : Int)] = [some (.int (n : Int)), none, none] from rfl]
    try dsimp only [cxK]
    walk_at "wp"
    refine ⟨n, rfl, by omega, fun h => absurd h (by omega), fun _ d H1 e1 hd => ⟨true, T.e_TooMany_TooMany, fun _ e he => ?_, fun z => absurd z (by decide)⟩⟩
    walk_at "wp"
    refine ⟨rfl, rfl, d, _, _, rfl, hd, rfl, ?_⟩
    walk_at "wp"
    exact q _ e1

/-! ### law -/
theorem swA12 : (swA 12).length = 1024 := by decide +kernel
def sp_law (K : PySem.W.Frag) : Sp := fun vs H Q _ => ∃ (a : Addr) (ns : List Int), vs = [.ref a] ∧ SqL K H a (ns.map V.int) ∧ ns.length ≤ 63 ∧ (∀ z ∈ ns, Builtin.Int.intBits z ≤ 1048576) ∧ ∀ H', Q (.bl true) H'
theorem ok_law (T : Top K mg) : FnOk P w K mg base CX0 5 T.f_law T.fd_law ["script"] (sp_law K) := by
  refine T.F_law.ok sc_law (fun vs H Q E h => ?_) (fun cdv A outer s H vs Q E hr h => ?_)
  · obtain ⟨a, ns, rfl, _⟩ := h
    rfl
  · obtain ⟨a, ns, rfl, hS, hl, hB, q⟩ := h
    refine ⟨_, (pss_cons (ps_for PassesOwn.never (by rfl) (pi_range1 (by rfl) T.z_range (pa_cons pe_int pa_nil)) (pg_name (i := 1) sc_law.nd (by rfl) (by first | exact Or.inl rfl | exact Or.inr rfl)) (pss_cons (ps_set (i := 2) sc_law.nd (by rfl) (by first | exact Or.inl rfl | exact Or.inr rfl) (pe_call (ok__law_begun T) (hr.mono (by decide)) (by rfl) T.g__law_begun T.F__law_begun.kp T.b__law_begun .nil pass0 (pa_cons (pv 0) (pa_cons (pv 1) pa_nil))))
      (pss_cons (ps_set (i := 3) sc_law.nd (by rfl) (by first | exact Or.inl rfl | exact Or.inr rfl) (pe_call (ok__law_word T) (hr.mono (by decide)) (by rfl) T.g__law_word T.F__law_word.kp T.b__law_word .nil pass0 (pa_cons (pv 2) (pa_cons pe_int pa_nil))))
      (pss_cons (ps_if (pt_not (pt_val (pe_call (ok__law_is_judged T) (hr.mono (by decide)) (by rfl) T.g__law_is_judged T.F__law_is_judged.kp T.b__law_is_judged .nil pass0 (pa_cons (pv 3) pa_nil)))) (pss_one (ps_ret pe_bl)) pss_nil)
      (pss_cons (ps_for PassesOwn.never (by rfl) (pi_range1 (by rfl) T.z_range (pa_cons pe_int pa_nil)) (pg_name (i := 4) sc_law.nd (by rfl) (by first | exact Or.inl rfl | exact Or.inr rfl)) (pss_one (ps_if (pt_not (pt_val (pe_call (ok__law_is_judged T) (hr.mono (by decide)) (by rfl) T.g__law_is_judged T.F__law_is_judged.kp T.b__law_is_judged .nil pass0 (pa_cons (pe_call (ok__law_bent T) (hr.mono (by decide)) (by rfl) T.g__law_bent T.F__law_bent.kp T.b__law_bent .nil pass0 (pa_cons (pv 2) (pa_cons (pv 3) pa_nil))) pa_nil)))) (pss_one (ps_ret pe_bl)) pss_nil)))
      (pss_cons (ps_set (i := 5) sc_law.nd (by rfl) (by first | exact Or.inl rfl | exact Or.inr rfl) (pe_op op_add pe_int (pe_call (ok__law_draw T) (hr.mono (by decide)) (by rfl) T.g__law_draw T.F__law_draw.kp T.b__law_draw .nil pass0 (pa_cons (pv 2) (pa_cons pe_int pa_nil)))))
      (pss_cons (ps_if (pt_cmpR (op_neK (K := K) hr.units) (pe_call (ok_star_words T) (hr.mono (by decide)) (by rfl) T.g_star_words T.F_star_words.kp T.b_star_words .nil passF (pa_cons (pv 5) pa_nil)) (pe_callTy (cl_tup (K := K)) (by rfl) T.z_tuple (by decide +kernel) (pa_cons (pe_call (ok__law_all_words T) (hr.mono (by decide)) (by rfl) T.g__law_all_words T.F__law_all_words.kp T.b__law_all_words .nil pass0 (pa_cons (pv 5) pa_nil)) pa_nil)) (nomark _)) (pss_one (ps_ret pe_bl)) pss_nil)
      (pss_one (ps_if (pt_cmpR op_ne (pe_call (ok__law_refused T) (hr.mono (by decide)) (by rfl) T.g__law_refused T.F__law_refused.kp T.b__law_refused .nil pass0 (pa_cons (pe_op op_add pe_int (pe_call (ok__law_draw T) (hr.mono (by decide)) (by rfl) T.g__law_draw T.F__law_draw.kp T.b__law_draw .nil pass0 (pa_cons (pv 2) (pa_cons (pe_op op_pow pe_int pe_int) pa_nil)))) pa_nil)) pe_int (nomark _)) (pss_one (ps_ret pe_bl)) pss_nil)))))))))
      (pss_one (ps_ret (pe_or (pe_cmpR op_ne (pe_callB (cl_len (K := K)) (by rfl) T.z_len (by decide +kernel) (pa_cons (pv 0) pa_nil)) pe_int (nomark _)) (pe_one (pe_cmpR op_eq (pe_callB (cl_len (K := K)) (by rfl) T.z_len (by decide +kernel) (pa_cons (pe_call (ok_star_words T) (hr.mono (by decide)) (by rfl) T.g_star_words T.F_star_words.kp T.b_star_words .nil passF (pa_cons pe_int pa_nil)) pa_nil)) pe_int (nomark _))))))), ?_⟩
    rw [show start N_law [.ref a] = [some (.ref a), none, none, none, none, none] from rfl]
    try dsimp only [cxK]
    have hBig : ∀ n ∈ ns, Big n := fun n hn => Big.bits (hB n hn)
    have dS : Dp K H (.ref a) (.list (ns.map PyData.int)) := .lst hS (dpa_ints ns)
    walk_at "wp"
    refine forR1_by (fun i σ' H' => ∃ (y1 y2 y3 y4 y5 : Option V), σ' = [some (.ref a), y1, y2, y3, y4, y5] ∧ Keep H H') (by omega) ⟨none, none, none, none, none, rfl, Keep.refl _⟩ ?_ ?_
    · rintro i σ' H' hi ⟨y1, y2, y3, y4, y5, rfl, k0⟩
      walk_at "wp"
      refine ⟨a, ns, _, rfl, k0.seqL hS, hl, hBig, by omega, by omega, fun m c H1 e1 n1 m1 => ?_⟩
      walk_at "wp"
      refine ⟨m, c, 24, 0, rfl, by decide, by decide, m1, by decide, fun l H2 hw hwl k2 m2 => ?_⟩
      have hsg : Sgs l := by
        rcases hw with rfl | ⟨s, rfl, hb⟩
        · simp [Sgs]
        · intro x hx
          simp only [List.mem_cons, List.mem_append, List.not_mem_nil, or_false] at hx
          rcases hx with rfl | hx | rfl
          · simp
          · rcases hb x hx with rfl | rfl <;> simp
          · simp
      have hl0 : 0 < l.length := List.length_pos_iff.mpr hw.star.ne
      walk_at "wp"
      refine ⟨_, rfl, .txt hsg (by omega), fun H3 e3 => ?_⟩
      walk_at "wp"
      have k03 := ((k0.trans (Keep.of e1)).trans k2).trans (Keep.of e3)
      refine forR1_by (fun j σ' H' => ∃ (y4 y5 : Option V), σ' = [some (.ref a), some (.int (i : Int)), some (.ref m), some (.str (Sg l)), y4, y5] ∧ Keep H H' ∧ Mo H' m c (1000 + 1000 * j)) (by omega) ⟨_, _, rfl, k03, (m2.same e3).mono (by omega)⟩ ?_ ?_
      · rintro j σ' H4 hj ⟨y4, y5, rfl, k4, m4⟩
        walk_at "wp"
        refine ⟨m, c, l, _, rfl, hsg, hl0, by omega, m4, by omega, fun v H5 hv k5 m5 => ?_⟩
        walk_at "wp"
        refine ⟨v, rfl, hv, fun H6 e6 => ?_⟩
        walk_at "wp"
        exact ⟨_, _, rfl, (k4.trans k5).trans (Keep.of e6), (m5.same e6).mono (by omega)⟩
      · rintro σ' H4 ⟨y4, y5, rfl, k4, m4⟩
        walk_at "wp"
        refine ⟨m, c, 12, _, rfl, by decide, by decide, m4, by decide, fun r H5 r0 r1 k5 m5 => ?_⟩
        walk_at "wp"
        obtain ⟨n, hn⟩ : ∃ n : Nat, 1 + r = (n : Int) := ⟨(1 + r).toNat, by omega⟩
        rw [hn]
        refine ⟨n, rfl, by omega, fun _ v6 H6 e6 d6 => ?_, fun h => absurd h (by omega)⟩
        walk_at "wp"
        refine ⟨n, rfl, by omega, by omega, fun v7 H7 e7 d7 => ?_⟩
        walk_at "wp"
        refine w_tupOf d7 fun p8 H8 n8 e8 d8 => ?_
        have hpl : pln 9 (.tuple ((swA n).map fun s => PyData.str (Sg s))) = true := pln_tuple fun z hz => by
          obtain ⟨w, hw, rfl⟩ := List.mem_map.mp hz
          exact strOk_w (swA_ok (by omega) hw)
        refine w_neP (dp_same (e7.trans e8) d6) d8 hpl hpl (fun _ => ?_) (fun h => absurd rfl h)
        walk_at "wp"
        refine w_rI (C := CPow) ⟨by decide, by decide, by decide⟩ ?_
        walk_at "wp"
        refine ⟨m, c, 1000000000, _, rfl, by decide, by decide, ((m5.same e6).same e7).same e8, by decide, fun r2 H9 r20 r21 k9 m9 => ?_⟩
        obtain ⟨n2, hn2⟩ : ∃ n2 : Nat, 13 + r2 = (n2 : Int) := ⟨(13 + r2).toNat, by omega⟩
        walk_at "wp"
        rw [hn2]
        refine ⟨n2, rfl, by omega, fun H10 e10 => ?_⟩
        walk_at "wp"
        try rw [decide_eq_true rfl]
        walk_at "wp"
        exact ⟨_, _, _, _, _, rfl, (((((k4.trans k5).trans (Keep.of e6)).trans (Keep.of e7)).trans (Keep.of e8)).trans k9).trans (Keep.of e10)⟩
    · rintro σ' H' ⟨y1, y2, y3, y4, y5, rfl, k0⟩
      walk_at "wp"
      refine w_ite (fun _ => q H') (fun _ => ?_)
      walk_at "wp"
      refine ⟨12, rfl, by decide, fun _ v6 H6 e6 d6 => ?_, fun h => absurd h (by decide)⟩
      walk_at "wp"
      rw [List.length_map, swA12]
      exact q H6

end
end Tw
namespace Tw
open PySem PySem.Spec PyProof.Rows L2
set_option maxHeartbeats 4000000 in
def top_mk {K : PySem.W.Frag} {h : Heap} {mg : Str → Option Value} (X : K.In h) (G : h.Ns mainGlobals mg) {f_NotText__init f_NotWord__init f_TooMany__init f_check_word f_star_words f__allowed f__law_begun f__law_draw f__law_of f__law_string f__law_all_words f__law_word f__law_wrong f__law_bent f__law_is_judged f__law_refused f_law : Addr} {od_NotText__init an_NotText__init od_NotWord__init an_NotWord__init od_TooMany__init an_TooMany__init od_check_word an_check_word od_star_words an_star_words od__allowed an__allowed od__law_begun an__law_begun od__law_draw an__law_draw od__law_of an__law_of od__law_string an__law_string od__law_all_words an__law_all_words od__law_word an__law_word od__law_wrong an__law_wrong od__law_bent an__law_bent od__law_is_judged an__law_is_judged od__law_refused an__law_refused od_law an_law : Option Addr} {oc_NotText__init kV_NotText__init dc_NotText__init pm_NotText__init cd_NotText__init ct_NotText__init oc_NotWord__init kV_NotWord__init dc_NotWord__init pm_NotWord__init cd_NotWord__init ct_NotWord__init oc_TooMany__init kV_TooMany__init dc_TooMany__init pm_TooMany__init cd_TooMany__init ct_TooMany__init oc_check_word kV_check_word dc_check_word pm_check_word cd_check_word ct_check_word oc_star_words kV_star_words dc_star_words pm_star_words cd_star_words ct_star_words oc__allowed kV__allowed dc__allowed pm__allowed cd__allowed ct__allowed oc__law_begun kV__law_begun dc__law_begun pm__law_begun cd__law_begun ct__law_begun oc__law_draw kV__law_draw dc__law_draw pm__law_draw cd__law_draw ct__law_draw oc__law_of kV__law_of dc__law_of pm__law_of cd__law_of ct__law_of oc__law_string kV__law_string dc__law_string pm__law_string cd__law_string ct__law_string oc__law_all_words kV__law_all_words dc__law_all_words pm__law_all_words cd__law_all_words ct__law_all_words oc__law_word kV__law_word dc__law_word pm__law_word cd__law_word ct__law_word oc__law_wrong kV__law_wrong dc__law_wrong pm__law_wrong cd__law_wrong ct__law_wrong oc__law_bent kV__law_bent dc__law_bent pm__law_bent cd__law_bent ct__law_bent oc__law_is_judged kV__law_is_judged dc__law_is_judged pm__law_is_judged cd__law_is_judged ct__law_is_judged oc__law_refused kV__law_refused dc__law_refused pm__law_refused cd__law_refused ct__law_refused oc_law kV_law dc_law pm_law cd_law ct_law : Value} {sl_NotText__init sl_NotWord__init sl_TooMany__init sl_check_word sl_star_words sl__allowed sl__law_begun sl__law_draw sl__law_of sl__law_string sl__law_all_words sl__law_word sl__law_wrong sl__law_bent sl__law_is_judged sl__law_refused sl_law : Array (Option Value)} {c_DialError N_DialError : Addr} {nm_DialError q_DialError : Str} {bs_DialError sub_DialError : List Value} {sn_DialError : List Str} {ab_DialError : Bool} {col_DialError : Option Bool} {dd_DialError : Option Addr} {m0_DialError m1_DialError m2_DialError m3_DialError m5_DialError : Option Value} {c_NotPlace N_NotPlace : Addr} {nm_NotPlace q_NotPlace : Str} {bs_NotPlace sub_NotPlace : List Value} {sn_NotPlace : List Str} {ab_NotPlace : Bool} {col_NotPlace : Option Bool} {dd_NotPlace : Option Addr} {m0_NotPlace m1_NotPlace m2_NotPlace m3_NotPlace m5_NotPlace : Option Value} {c_NotText N_NotText : Addr} {nm_NotText q_NotText : Str} {bs_NotText sub_NotText : List Value} {sn_NotText : List Str} {ab_NotText : Bool} {col_NotText : Option Bool} {dd_NotText : Option Addr} {m0_NotText m1_NotText m2_NotText m3_NotText m5_NotText : Option Value} {c_NotWord N_NotWord : Addr} {nm_NotWord q_NotWord : Str} {bs_NotWord sub_NotWord : List Value} {sn_NotWord : List Str} {ab_NotWord : Bool} {col_NotWord : Option Bool} {dd_NotWord : Option Addr} {m0_NotWord m1_NotWord m2_NotWord m3_NotWord m5_NotWord : Option Value} {c_NotLet N_NotLet : Addr} {nm_NotLet q_NotLet : Str} {bs_NotLet sub_NotLet : List Value} {sn_NotLet : List Str} {ab_NotLet : Bool} {col_NotLet : Option Bool} {dd_NotLet : Option Addr} {m0_NotLet m1_NotLet m2_NotLet m3_NotLet m5_NotLet : Option Value} {c_TooMany N_TooMany : Addr} {nm_TooMany q_TooMany : Str} {bs_TooMany sub_TooMany : List Value} {sn_TooMany : List Str} {ab_TooMany : Bool} {col_TooMany : Option Bool} {dd_TooMany : Option Addr} {m0_TooMany m1_TooMany m2_TooMany m3_TooMany m5_TooMany : Option Value} {t_MOST_CHARACTERS t_MOST_LISTED : Tok}
    (gc_DialError : PySem.W.nsIn K mainGlobals "DialError" = some (some (.ref c_DialError)))
    (xL_DialError : K.lookup c_DialError = some (excClassObj nm_DialError q_DialError c_DialError N_DialError bs_DialError ([.type "ValueError", .type "Exception", .type "BaseException", .type "object"]) true sn_DialError sub_DialError ab_DialError col_DialError dd_DialError m0_DialError m1_DialError m2_DialError m3_DialError m5_DialError "ValueError.__new__"))
    (sa_DialError : PySem.W.findIn K (.ref c_DialError) "__setattr__" = some (some (.builtin "object.__setattr__")))
    (eC_DialError : PySem.W.subIn K (.ref c_DialError) (.type "BaseException") = some true)
    (tC_DialError : PySem.W.typeIn K (.ref c_DialError) = some (.type "type"))
    (kC_DialError : PySem.W.keepIn K (.ref c_DialError) = true)
    (ga_DialError : PySem.W.findIn K (.ref c_DialError) "__getattribute__" = some (some (.builtin "BaseException.__getattribute__")))
    (gg_DialError : PySem.W.findIn K (.ref c_DialError) "__getattr__" = some none)
    (hC_DialError : PySem.W.hasDictIn K c_DialError = true)
    (ys_DialError : PySem.W.specialIn K (.ref c_DialError) "__getattribute__" = some (some (.builtin "type.__getattribute__")))
    (yr_DialError : PySem.W.readsIn K c_DialError (.type "type") = true)
    (yf_DialError : PySem.W.findCls K (.ref c_DialError) (.type "type") "__init__" = some (.val (.builtin "ValueError.__init__")))
    (gc_NotPlace : PySem.W.nsIn K mainGlobals "NotPlace" = some (some (.ref c_NotPlace)))
    (xL_NotPlace : K.lookup c_NotPlace = some (excClassObj nm_NotPlace q_NotPlace c_NotPlace N_NotPlace bs_NotPlace (.ref c_DialError :: [.type "ValueError", .type "Exception", .type "BaseException", .type "object"]) true sn_NotPlace sub_NotPlace ab_NotPlace col_NotPlace dd_NotPlace m0_NotPlace m1_NotPlace m2_NotPlace m3_NotPlace m5_NotPlace "ValueError.__new__"))
    (sa_NotPlace : PySem.W.findIn K (.ref c_NotPlace) "__setattr__" = some (some (.builtin "object.__setattr__")))
    (eC_NotPlace : PySem.W.subIn K (.ref c_NotPlace) (.type "BaseException") = some true)
    (tC_NotPlace : PySem.W.typeIn K (.ref c_NotPlace) = some (.type "type"))
    (kC_NotPlace : PySem.W.keepIn K (.ref c_NotPlace) = true)
    (ga_NotPlace : PySem.W.findIn K (.ref c_NotPlace) "__getattribute__" = some (some (.builtin "BaseException.__getattribute__")))
    (gg_NotPlace : PySem.W.findIn K (.ref c_NotPlace) "__getattr__" = some none)
    (hC_NotPlace : PySem.W.hasDictIn K c_NotPlace = true)
    (gc_NotText : PySem.W.nsIn K mainGlobals "NotText" = some (some (.ref c_NotText)))
    (xL_NotText : K.lookup c_NotText = some (excClassObj nm_NotText q_NotText c_NotText N_NotText bs_NotText (.ref c_DialError :: [.type "ValueError", .type "Exception", .type "BaseException", .type "object"]) true sn_NotText sub_NotText ab_NotText col_NotText dd_NotText m0_NotText m1_NotText m2_NotText m3_NotText m5_NotText "ValueError.__new__"))
    (sa_NotText : PySem.W.findIn K (.ref c_NotText) "__setattr__" = some (some (.builtin "object.__setattr__")))
    (eC_NotText : PySem.W.subIn K (.ref c_NotText) (.type "BaseException") = some true)
    (tC_NotText : PySem.W.typeIn K (.ref c_NotText) = some (.type "type"))
    (kC_NotText : PySem.W.keepIn K (.ref c_NotText) = true)
    (ga_NotText : PySem.W.findIn K (.ref c_NotText) "__getattribute__" = some (some (.builtin "BaseException.__getattribute__")))
    (gg_NotText : PySem.W.findIn K (.ref c_NotText) "__getattr__" = some none)
    (hC_NotText : PySem.W.hasDictIn K c_NotText = true)
    (iC_NotText : PySem.W.findIn K (.ref c_NotText) "__init__" = some (some (.ref f_NotText__init))) (tI_NotText : PySem.W.typeIn K (.ref f_NotText__init) = some (.type "function"))
    (n_NotText_place : PySem.W.findIn K (.ref c_NotText) "place" = some none)
    (gc_NotWord : PySem.W.nsIn K mainGlobals "NotWord" = some (some (.ref c_NotWord)))
    (xL_NotWord : K.lookup c_NotWord = some (excClassObj nm_NotWord q_NotWord c_NotWord N_NotWord bs_NotWord (.ref c_DialError :: [.type "ValueError", .type "Exception", .type "BaseException", .type "object"]) true sn_NotWord sub_NotWord ab_NotWord col_NotWord dd_NotWord m0_NotWord m1_NotWord m2_NotWord m3_NotWord m5_NotWord "ValueError.__new__"))
    (sa_NotWord : PySem.W.findIn K (.ref c_NotWord) "__setattr__" = some (some (.builtin "object.__setattr__")))
    (eC_NotWord : PySem.W.subIn K (.ref c_NotWord) (.type "BaseException") = some true)
    (tC_NotWord : PySem.W.typeIn K (.ref c_NotWord) = some (.type "type"))
    (kC_NotWord : PySem.W.keepIn K (.ref c_NotWord) = true)
    (ga_NotWord : PySem.W.findIn K (.ref c_NotWord) "__getattribute__" = some (some (.builtin "BaseException.__getattribute__")))
    (gg_NotWord : PySem.W.findIn K (.ref c_NotWord) "__getattr__" = some none)
    (hC_NotWord : PySem.W.hasDictIn K c_NotWord = true)
    (iC_NotWord : PySem.W.findIn K (.ref c_NotWord) "__init__" = some (some (.ref f_NotWord__init))) (tI_NotWord : PySem.W.typeIn K (.ref f_NotWord__init) = some (.type "function"))
    (n_NotWord_place : PySem.W.findIn K (.ref c_NotWord) "place" = some none)
    (gc_NotLet : PySem.W.nsIn K mainGlobals "NotLet" = some (some (.ref c_NotLet)))
    (xL_NotLet : K.lookup c_NotLet = some (excClassObj nm_NotLet q_NotLet c_NotLet N_NotLet bs_NotLet (.ref c_DialError :: [.type "ValueError", .type "Exception", .type "BaseException", .type "object"]) true sn_NotLet sub_NotLet ab_NotLet col_NotLet dd_NotLet m0_NotLet m1_NotLet m2_NotLet m3_NotLet m5_NotLet "ValueError.__new__"))
    (sa_NotLet : PySem.W.findIn K (.ref c_NotLet) "__setattr__" = some (some (.builtin "object.__setattr__")))
    (eC_NotLet : PySem.W.subIn K (.ref c_NotLet) (.type "BaseException") = some true)
    (tC_NotLet : PySem.W.typeIn K (.ref c_NotLet) = some (.type "type"))
    (kC_NotLet : PySem.W.keepIn K (.ref c_NotLet) = true)
    (ga_NotLet : PySem.W.findIn K (.ref c_NotLet) "__getattribute__" = some (some (.builtin "BaseException.__getattribute__")))
    (gg_NotLet : PySem.W.findIn K (.ref c_NotLet) "__getattr__" = some none)
    (hC_NotLet : PySem.W.hasDictIn K c_NotLet = true)
    (gc_TooMany : PySem.W.nsIn K mainGlobals "TooMany" = some (some (.ref c_TooMany)))
    (xL_TooMany : K.lookup c_TooMany = some (excClassObj nm_TooMany q_TooMany c_TooMany N_TooMany bs_TooMany (.ref c_DialError :: [.type "ValueError", .type "Exception", .type "BaseException", .type "object"]) true sn_TooMany sub_TooMany ab_TooMany col_TooMany dd_TooMany m0_TooMany m1_TooMany m2_TooMany m3_TooMany m5_TooMany "ValueError.__new__"))
    (sa_TooMany : PySem.W.findIn K (.ref c_TooMany) "__setattr__" = some (some (.builtin "object.__setattr__")))
    (eC_TooMany : PySem.W.subIn K (.ref c_TooMany) (.type "BaseException") = some true)
    (tC_TooMany : PySem.W.typeIn K (.ref c_TooMany) = some (.type "type"))
    (kC_TooMany : PySem.W.keepIn K (.ref c_TooMany) = true)
    (ga_TooMany : PySem.W.findIn K (.ref c_TooMany) "__getattribute__" = some (some (.builtin "BaseException.__getattribute__")))
    (gg_TooMany : PySem.W.findIn K (.ref c_TooMany) "__getattr__" = some none)
    (hC_TooMany : PySem.W.hasDictIn K c_TooMany = true)
    (iC_TooMany : PySem.W.findIn K (.ref c_TooMany) "__init__" = some (some (.ref f_TooMany__init))) (tI_TooMany : PySem.W.typeIn K (.ref f_TooMany__init) = some (.type "function"))
    (n_TooMany_limit : PySem.W.findIn K (.ref c_TooMany) "limit" = some none)
    (e_NotWord_DialError : PySem.W.subIn K (.ref c_NotWord) (.ref c_DialError) = some true)
    (e_NotWord_TooMany : PySem.W.subIn K (.ref c_NotWord) (.ref c_TooMany) = some false)
    (e_TooMany_DialError : PySem.W.subIn K (.ref c_TooMany) (.ref c_DialError) = some true)
    (e_TooMany_TooMany : PySem.W.subIn K (.ref c_TooMany) (.ref c_TooMany) = some true)
    (hnG : PySem.W.specialIn K (.builtin "object.__class__") "__get__" = some (some (.builtin "getset_descriptor.__get__"))) (htG : PySem.W.takesIn K (.builtin "object.__class__") = some true)
    (ha_NotWord : PySem.W.findIn K (.ref c_NotWord) "__class__" = some (some (.builtin "object.__class__"))) (hm_NotWord : PySem.W.mroIn K c_NotWord (.type "object") = some true)
    (iL_NotLet : PySem.W.isClsIn K c_NotLet = true)
    (e_NotWord_NotLet : PySem.W.subIn K (.ref c_NotWord) (.ref c_NotLet) = some false)
    (ne_NotWord_NotLet : c_NotWord = c_NotLet → false = true)
    (iL_NotPlace : PySem.W.isClsIn K c_NotPlace = true)
    (e_NotWord_NotPlace : PySem.W.subIn K (.ref c_NotWord) (.ref c_NotPlace) = some false)
    (ne_NotWord_NotPlace : c_NotWord = c_NotPlace → false = true)
    (iL_NotText : PySem.W.isClsIn K c_NotText = true)
    (e_NotWord_NotText : PySem.W.subIn K (.ref c_NotWord) (.ref c_NotText) = some false)
    (ne_NotWord_NotText : c_NotWord = c_NotText → false = true)
    (iL_NotWord : PySem.W.isClsIn K c_NotWord = true)
    (e_NotWord_NotWord : PySem.W.subIn K (.ref c_NotWord) (.ref c_NotWord) = some true)
    (ne_NotWord_TooMany : c_NotWord = c_TooMany → false = true)
    (et_NotWord_ValueError : PySem.W.subIn K (.ref c_NotWord) (.type "ValueError") = some true)
    (ha_TooMany : PySem.W.findIn K (.ref c_TooMany) "__class__" = some (some (.builtin "object.__class__"))) (hm_TooMany : PySem.W.mroIn K c_TooMany (.type "object") = some true)
    (e_TooMany_NotLet : PySem.W.subIn K (.ref c_TooMany) (.ref c_NotLet) = some false)
    (ne_TooMany_NotLet : c_TooMany = c_NotLet → false = true)
    (e_TooMany_NotPlace : PySem.W.subIn K (.ref c_TooMany) (.ref c_NotPlace) = some false)
    (ne_TooMany_NotPlace : c_TooMany = c_NotPlace → false = true)
    (e_TooMany_NotText : PySem.W.subIn K (.ref c_TooMany) (.ref c_NotText) = some false)
    (ne_TooMany_NotText : c_TooMany = c_NotText → false = true)
    (e_TooMany_NotWord : PySem.W.subIn K (.ref c_TooMany) (.ref c_NotWord) = some false)
    (ne_TooMany_NotWord : c_TooMany = c_NotWord → false = true)
    (et_TooMany_ValueError : PySem.W.subIn K (.ref c_TooMany) (.type "ValueError") = some true)
    (iL_DialError : PySem.W.isClsIn K c_DialError = true)
    (iL_TooMany : PySem.W.isClsIn K c_TooMany = true)
    (l_NotText__init : K.lookup f_NotText__init = some ⟨oc_NotText__init, od_NotText__init, .func (PySem.W.fnOf "__init__" "NotText.__init__" (defArgs s_NotText__init) (defBody s_NotText__init) (defScope s_NotText__init) .none kV_NotText__init dc_NotText__init pm_NotText__init an_NotText__init cd_NotText__init ct_NotText__init), sl_NotText__init⟩) (c_NotText__init : PySem.W.codeIn K cd_NotText__init "NotText.__init__" = true) (k_NotText__init : PySem.W.keepIn K (.ref f_NotText__init) = true)
    (l_NotWord__init : K.lookup f_NotWord__init = some ⟨oc_NotWord__init, od_NotWord__init, .func (PySem.W.fnOf "__init__" "NotWord.__init__" (defArgs s_NotWord__init) (defBody s_NotWord__init) (defScope s_NotWord__init) .none kV_NotWord__init dc_NotWord__init pm_NotWord__init an_NotWord__init cd_NotWord__init ct_NotWord__init), sl_NotWord__init⟩) (c_NotWord__init : PySem.W.codeIn K cd_NotWord__init "NotWord.__init__" = true) (k_NotWord__init : PySem.W.keepIn K (.ref f_NotWord__init) = true)
    (l_TooMany__init : K.lookup f_TooMany__init = some ⟨oc_TooMany__init, od_TooMany__init, .func (PySem.W.fnOf "__init__" "TooMany.__init__" (defArgs s_TooMany__init) (defBody s_TooMany__init) (defScope s_TooMany__init) .none kV_TooMany__init dc_TooMany__init pm_TooMany__init an_TooMany__init cd_TooMany__init ct_TooMany__init), sl_TooMany__init⟩) (c_TooMany__init : PySem.W.codeIn K cd_TooMany__init "TooMany.__init__" = true) (k_TooMany__init : PySem.W.keepIn K (.ref f_TooMany__init) = true)
    (a_check_word : PySem.W.nsIn K mainGlobals "check_word" = some (some (.ref f_check_word)))
    (l_check_word : K.lookup f_check_word = some ⟨oc_check_word, od_check_word, .func (PySem.W.fnOf "check_word" "check_word" (defArgs s_check_word) (defBody s_check_word) (defScope s_check_word) .none kV_check_word dc_check_word pm_check_word an_check_word cd_check_word ct_check_word), sl_check_word⟩) (c_check_word : PySem.W.codeIn K cd_check_word "check_word" = true) (k_check_word : PySem.W.keepIn K (.ref f_check_word) = true)
    (a_star_words : PySem.W.nsIn K mainGlobals "star_words" = some (some (.ref f_star_words)))
    (l_star_words : K.lookup f_star_words = some ⟨oc_star_words, od_star_words, .func (PySem.W.fnOf "star_words" "star_words" (defArgs s_star_words) (defBody s_star_words) (defScope s_star_words) .none kV_star_words dc_star_words pm_star_words an_star_words cd_star_words ct_star_words), sl_star_words⟩) (c_star_words : PySem.W.codeIn K cd_star_words "star_words" = true) (k_star_words : PySem.W.keepIn K (.ref f_star_words) = true)
    (a__allowed : PySem.W.nsIn K mainGlobals "_allowed" = some (some (.ref f__allowed)))
    (l__allowed : K.lookup f__allowed = some ⟨oc__allowed, od__allowed, .func (PySem.W.fnOf "_allowed" "_allowed" (defArgs s__allowed) (defBody s__allowed) (defScope s__allowed) .none kV__allowed dc__allowed pm__allowed an__allowed cd__allowed ct__allowed), sl__allowed⟩) (c__allowed : PySem.W.codeIn K cd__allowed "_allowed" = true) (k__allowed : PySem.W.keepIn K (.ref f__allowed) = true)
    (a__law_begun : PySem.W.nsIn K mainGlobals "_law_begun" = some (some (.ref f__law_begun)))
    (l__law_begun : K.lookup f__law_begun = some ⟨oc__law_begun, od__law_begun, .func (PySem.W.fnOf "_law_begun" "_law_begun" (defArgs s__law_begun) (defBody s__law_begun) (defScope s__law_begun) .none kV__law_begun dc__law_begun pm__law_begun an__law_begun cd__law_begun ct__law_begun), sl__law_begun⟩) (c__law_begun : PySem.W.codeIn K cd__law_begun "_law_begun" = true) (k__law_begun : PySem.W.keepIn K (.ref f__law_begun) = true)
    (a__law_draw : PySem.W.nsIn K mainGlobals "_law_draw" = some (some (.ref f__law_draw)))
    (l__law_draw : K.lookup f__law_draw = some ⟨oc__law_draw, od__law_draw, .func (PySem.W.fnOf "_law_draw" "_law_draw" (defArgs s__law_draw) (defBody s__law_draw) (defScope s__law_draw) .none kV__law_draw dc__law_draw pm__law_draw an__law_draw cd__law_draw ct__law_draw), sl__law_draw⟩) (c__law_draw : PySem.W.codeIn K cd__law_draw "_law_draw" = true) (k__law_draw : PySem.W.keepIn K (.ref f__law_draw) = true)
    (a__law_of : PySem.W.nsIn K mainGlobals "_law_of" = some (some (.ref f__law_of)))
    (l__law_of : K.lookup f__law_of = some ⟨oc__law_of, od__law_of, .func (PySem.W.fnOf "_law_of" "_law_of" (defArgs s__law_of) (defBody s__law_of) (defScope s__law_of) .none kV__law_of dc__law_of pm__law_of an__law_of cd__law_of ct__law_of), sl__law_of⟩) (c__law_of : PySem.W.codeIn K cd__law_of "_law_of" = true) (k__law_of : PySem.W.keepIn K (.ref f__law_of) = true)
    (a__law_string : PySem.W.nsIn K mainGlobals "_law_string" = some (some (.ref f__law_string)))
    (l__law_string : K.lookup f__law_string = some ⟨oc__law_string, od__law_string, .func (PySem.W.fnOf "_law_string" "_law_string" (defArgs s__law_string) (defBody s__law_string) (defScope s__law_string) .none kV__law_string dc__law_string pm__law_string an__law_string cd__law_string ct__law_string), sl__law_string⟩) (c__law_string : PySem.W.codeIn K cd__law_string "_law_string" = true) (k__law_string : PySem.W.keepIn K (.ref f__law_string) = true)
    (a__law_all_words : PySem.W.nsIn K mainGlobals "_law_all_words" = some (some (.ref f__law_all_words)))
    (l__law_all_words : K.lookup f__law_all_words = some ⟨oc__law_all_words, od__law_all_words, .func (PySem.W.fnOf "_law_all_words" "_law_all_words" (defArgs s__law_all_words) (defBody s__law_all_words) (defScope s__law_all_words) .none kV__law_all_words dc__law_all_words pm__law_all_words an__law_all_words cd__law_all_words ct__law_all_words), sl__law_all_words⟩) (c__law_all_words : PySem.W.codeIn K cd__law_all_words "_law_all_words" = true) (k__law_all_words : PySem.W.keepIn K (.ref f__law_all_words) = true)
    (a__law_word : PySem.W.nsIn K mainGlobals "_law_word" = some (some (.ref f__law_word)))
    (l__law_word : K.lookup f__law_word = some ⟨oc__law_word, od__law_word, .func (PySem.W.fnOf "_law_word" "_law_word" (defArgs s__law_word) (defBody s__law_word) (defScope s__law_word) .none kV__law_word dc__law_word pm__law_word an__law_word cd__law_word ct__law_word), sl__law_word⟩) (c__law_word : PySem.W.codeIn K cd__law_word "_law_word" = true) (k__law_word : PySem.W.keepIn K (.ref f__law_word) = true)
    (a__law_wrong : PySem.W.nsIn K mainGlobals "_law_wrong" = some (some (.ref f__law_wrong)))
    (l__law_wrong : K.lookup f__law_wrong = some ⟨oc__law_wrong, od__law_wrong, .func (PySem.W.fnOf "_law_wrong" "_law_wrong" (defArgs s__law_wrong) (defBody s__law_wrong) (defScope s__law_wrong) .none kV__law_wrong dc__law_wrong pm__law_wrong an__law_wrong cd__law_wrong ct__law_wrong), sl__law_wrong⟩) (c__law_wrong : PySem.W.codeIn K cd__law_wrong "_law_wrong" = true) (k__law_wrong : PySem.W.keepIn K (.ref f__law_wrong) = true)
    (a__law_bent : PySem.W.nsIn K mainGlobals "_law_bent" = some (some (.ref f__law_bent)))
    (l__law_bent : K.lookup f__law_bent = some ⟨oc__law_bent, od__law_bent, .func (PySem.W.fnOf "_law_bent" "_law_bent" (defArgs s__law_bent) (defBody s__law_bent) (defScope s__law_bent) .none kV__law_bent dc__law_bent pm__law_bent an__law_bent cd__law_bent ct__law_bent), sl__law_bent⟩) (c__law_bent : PySem.W.codeIn K cd__law_bent "_law_bent" = true) (k__law_bent : PySem.W.keepIn K (.ref f__law_bent) = true)
    (a__law_is_judged : PySem.W.nsIn K mainGlobals "_law_is_judged" = some (some (.ref f__law_is_judged)))
    (l__law_is_judged : K.lookup f__law_is_judged = some ⟨oc__law_is_judged, od__law_is_judged, .func (PySem.W.fnOf "_law_is_judged" "_law_is_judged" (defArgs s__law_is_judged) (defBody s__law_is_judged) (defScope s__law_is_judged) .none kV__law_is_judged dc__law_is_judged pm__law_is_judged an__law_is_judged cd__law_is_judged ct__law_is_judged), sl__law_is_judged⟩) (c__law_is_judged : PySem.W.codeIn K cd__law_is_judged "_law_is_judged" = true) (k__law_is_judged : PySem.W.keepIn K (.ref f__law_is_judged) = true)
    (a__law_refused : PySem.W.nsIn K mainGlobals "_law_refused" = some (some (.ref f__law_refused)))
    (l__law_refused : K.lookup f__law_refused = some ⟨oc__law_refused, od__law_refused, .func (PySem.W.fnOf "_law_refused" "_law_refused" (defArgs s__law_refused) (defBody s__law_refused) (defScope s__law_refused) .none kV__law_refused dc__law_refused pm__law_refused an__law_refused cd__law_refused ct__law_refused), sl__law_refused⟩) (c__law_refused : PySem.W.codeIn K cd__law_refused "_law_refused" = true) (k__law_refused : PySem.W.keepIn K (.ref f__law_refused) = true)
    (a_law : PySem.W.nsIn K mainGlobals "law" = some (some (.ref f_law)))
    (l_law : K.lookup f_law = some ⟨oc_law, od_law, .func (PySem.W.fnOf "law" "law" (defArgs s_law) (defBody s_law) (defScope s_law) .none kV_law dc_law pm_law an_law cd_law ct_law), sl_law⟩) (c_law : PySem.W.codeIn K cd_law "law" = true) (k_law : PySem.W.keepIn K (.ref f_law) = true)
    (z_ValueError : PySem.W.nsIn K mainGlobals "ValueError" = some none)
    (z_bool : PySem.W.nsIn K mainGlobals "bool" = some none)
    (z_enumerate : PySem.W.nsIn K mainGlobals "enumerate" = some none)
    (z_int : PySem.W.nsIn K mainGlobals "int" = some none)
    (z_isinstance : PySem.W.nsIn K mainGlobals "isinstance" = some none)
    (z_len : PySem.W.nsIn K mainGlobals "len" = some none)
    (z_range : PySem.W.nsIn K mainGlobals "range" = some none)
    (z_str : PySem.W.nsIn K mainGlobals "str" = some none)
    (z_tuple : PySem.W.nsIn K mainGlobals "tuple" = some none)
    (c_MOST_CHARACTERS : PySem.W.nsIn K mainGlobals "MOST_CHARACTERS" = some (some (.int 24 t_MOST_CHARACTERS)))
    (c_MOST_LISTED : PySem.W.nsIn K mainGlobals "MOST_LISTED" = some (some (.int 12 t_MOST_LISTED))) : Top K mg :=
  { f_NotText__init := f_NotText__init, fd_NotText__init := PySem.W.fnOf "__init__" "NotText.__init__" (defArgs s_NotText__init) (defBody s_NotText__init) (defScope s_NotText__init) .none kV_NotText__init dc_NotText__init pm_NotText__init an_NotText__init cd_NotText__init ct_NotText__init, F_NotText__init := fun_mk (st := s_NotText__init) l_NotText__init c_NotText__init k_NotText__init, b_NotText__init := (fun_mk (st := s_NotText__init) l_NotText__init c_NotText__init k_NotText__init).binds (ps := ["self", "place"]) fun _ _ _ _ _ _ us hl => match us, hl with | [_, _], _ => rfl,
    f_NotWord__init := f_NotWord__init, fd_NotWord__init := PySem.W.fnOf "__init__" "NotWord.__init__" (defArgs s_NotWord__init) (defBody s_NotWord__init) (defScope s_NotWord__init) .none kV_NotWord__init dc_NotWord__init pm_NotWord__init an_NotWord__init cd_NotWord__init ct_NotWord__init, F_NotWord__init := fun_mk (st := s_NotWord__init) l_NotWord__init c_NotWord__init k_NotWord__init, b_NotWord__init := (fun_mk (st := s_NotWord__init) l_NotWord__init c_NotWord__init k_NotWord__init).binds (ps := ["self", "place"]) fun _ _ _ _ _ _ us hl => match us, hl with | [_, _], _ => rfl,
    f_TooMany__init := f_TooMany__init, fd_TooMany__init := PySem.W.fnOf "__init__" "TooMany.__init__" (defArgs s_TooMany__init) (defBody s_TooMany__init) (defScope s_TooMany__init) .none kV_TooMany__init dc_TooMany__init pm_TooMany__init an_TooMany__init cd_TooMany__init ct_TooMany__init, F_TooMany__init := fun_mk (st := s_TooMany__init) l_TooMany__init c_TooMany__init k_TooMany__init, b_TooMany__init := (fun_mk (st := s_TooMany__init) l_TooMany__init c_TooMany__init k_TooMany__init).binds (ps := ["self", "limit"]) fun _ _ _ _ _ _ us hl => match us, hl with | [_, _], _ => rfl,
    g_check_word := PySem.W.mg_of X G a_check_word,
    f_check_word := f_check_word, fd_check_word := PySem.W.fnOf "check_word" "check_word" (defArgs s_check_word) (defBody s_check_word) (defScope s_check_word) .none kV_check_word dc_check_word pm_check_word an_check_word cd_check_word ct_check_word, F_check_word := fun_mk (st := s_check_word) l_check_word c_check_word k_check_word, b_check_word := (fun_mk (st := s_check_word) l_check_word c_check_word k_check_word).binds (ps := ["value"]) fun _ _ _ _ _ _ us hl => match us, hl with | [_], _ => rfl,
    g_star_words := PySem.W.mg_of X G a_star_words,
    f_star_words := f_star_words, fd_star_words := PySem.W.fnOf "star_words" "star_words" (defArgs s_star_words) (defBody s_star_words) (defScope s_star_words) .none kV_star_words dc_star_words pm_star_words an_star_words cd_star_words ct_star_words, F_star_words := fun_mk (st := s_star_words) l_star_words c_star_words k_star_words, b_star_words := (fun_mk (st := s_star_words) l_star_words c_star_words k_star_words).binds (ps := ["count"]) fun _ _ _ _ _ _ us hl => match us, hl with | [_], _ => rfl,
    g__allowed := PySem.W.mg_of X G a__allowed,
    f__allowed := f__allowed, fd__allowed := PySem.W.fnOf "_allowed" "_allowed" (defArgs s__allowed) (defBody s__allowed) (defScope s__allowed) .none kV__allowed dc__allowed pm__allowed an__allowed cd__allowed ct__allowed, F__allowed := fun_mk (st := s__allowed) l__allowed c__allowed k__allowed, b__allowed := (fun_mk (st := s__allowed) l__allowed c__allowed k__allowed).binds (ps := ["at", "count"]) fun _ _ _ _ _ _ us hl => match us, hl with | [_, _], _ => rfl,
    g__law_begun := PySem.W.mg_of X G a__law_begun,
    f__law_begun := f__law_begun, fd__law_begun := PySem.W.fnOf "_law_begun" "_law_begun" (defArgs s__law_begun) (defBody s__law_begun) (defScope s__law_begun) .none kV__law_begun dc__law_begun pm__law_begun an__law_begun cd__law_begun ct__law_begun, F__law_begun := fun_mk (st := s__law_begun) l__law_begun c__law_begun k__law_begun, b__law_begun := (fun_mk (st := s__law_begun) l__law_begun c__law_begun k__law_begun).binds (ps := ["script", "k"]) fun _ _ _ _ _ _ us hl => match us, hl with | [_, _], _ => rfl,
    g__law_draw := PySem.W.mg_of X G a__law_draw,
    f__law_draw := f__law_draw, fd__law_draw := PySem.W.fnOf "_law_draw" "_law_draw" (defArgs s__law_draw) (defBody s__law_draw) (defScope s__law_draw) .none kV__law_draw dc__law_draw pm__law_draw an__law_draw cd__law_draw ct__law_draw, F__law_draw := fun_mk (st := s__law_draw) l__law_draw c__law_draw k__law_draw, b__law_draw := (fun_mk (st := s__law_draw) l__law_draw c__law_draw k__law_draw).binds (ps := ["m", "below"]) fun _ _ _ _ _ _ us hl => match us, hl with | [_, _], _ => rfl,
    g__law_of := PySem.W.mg_of X G a__law_of,
    f__law_of := f__law_of, fd__law_of := PySem.W.fnOf "_law_of" "_law_of" (defArgs s__law_of) (defBody s__law_of) (defScope s__law_of) .none kV__law_of dc__law_of pm__law_of an__law_of cd__law_of ct__law_of, F__law_of := fun_mk (st := s__law_of) l__law_of c__law_of k__law_of, b__law_of := (fun_mk (st := s__law_of) l__law_of c__law_of k__law_of).binds (ps := ["m", "some"]) fun _ _ _ _ _ _ us hl => match us, hl with | [_, _], _ => rfl,
    g__law_string := PySem.W.mg_of X G a__law_string,
    f__law_string := f__law_string, fd__law_string := PySem.W.fnOf "_law_string" "_law_string" (defArgs s__law_string) (defBody s__law_string) (defScope s__law_string) .none kV__law_string dc__law_string pm__law_string an__law_string cd__law_string ct__law_string, F__law_string := fun_mk (st := s__law_string) l__law_string c__law_string k__law_string, b__law_string := (fun_mk (st := s__law_string) l__law_string c__law_string k__law_string).binds (ps := ["m", "size"]) fun _ _ _ _ _ _ us hl => match us, hl with | [_, _], _ => rfl,
    g__law_all_words := PySem.W.mg_of X G a__law_all_words,
    f__law_all_words := f__law_all_words, fd__law_all_words := PySem.W.fnOf "_law_all_words" "_law_all_words" (defArgs s__law_all_words) (defBody s__law_all_words) (defScope s__law_all_words) .none kV__law_all_words dc__law_all_words pm__law_all_words an__law_all_words cd__law_all_words ct__law_all_words, F__law_all_words := fun_mk (st := s__law_all_words) l__law_all_words c__law_all_words k__law_all_words, b__law_all_words := (fun_mk (st := s__law_all_words) l__law_all_words c__law_all_words k__law_all_words).binds (ps := ["count"]) fun _ _ _ _ _ _ us hl => match us, hl with | [_], _ => rfl,
    g__law_word := PySem.W.mg_of X G a__law_word,
    f__law_word := f__law_word, fd__law_word := PySem.W.fnOf "_law_word" "_law_word" (defArgs s__law_word) (defBody s__law_word) (defScope s__law_word) .none kV__law_word dc__law_word pm__law_word an__law_word cd__law_word ct__law_word, F__law_word := fun_mk (st := s__law_word) l__law_word c__law_word k__law_word, b__law_word := (fun_mk (st := s__law_word) l__law_word c__law_word k__law_word).binds (ps := ["m", "most"]) fun _ _ _ _ _ _ us hl => match us, hl with | [_, _], _ => rfl,
    g__law_wrong := PySem.W.mg_of X G a__law_wrong,
    f__law_wrong := f__law_wrong, fd__law_wrong := PySem.W.fnOf "_law_wrong" "_law_wrong" (defArgs s__law_wrong) (defBody s__law_wrong) (defScope s__law_wrong) .none kV__law_wrong dc__law_wrong pm__law_wrong an__law_wrong cd__law_wrong ct__law_wrong, F__law_wrong := fun_mk (st := s__law_wrong) l__law_wrong c__law_wrong k__law_wrong, b__law_wrong := (fun_mk (st := s__law_wrong) l__law_wrong c__law_wrong k__law_wrong).binds (ps := ["value"]) fun _ _ _ _ _ _ us hl => match us, hl with | [_], _ => rfl,
    g__law_bent := PySem.W.mg_of X G a__law_bent,
    f__law_bent := f__law_bent, fd__law_bent := PySem.W.fnOf "_law_bent" "_law_bent" (defArgs s__law_bent) (defBody s__law_bent) (defScope s__law_bent) .none kV__law_bent dc__law_bent pm__law_bent an__law_bent cd__law_bent ct__law_bent, F__law_bent := fun_mk (st := s__law_bent) l__law_bent c__law_bent k__law_bent, b__law_bent := (fun_mk (st := s__law_bent) l__law_bent c__law_bent k__law_bent).binds (ps := ["m", "word"]) fun _ _ _ _ _ _ us hl => match us, hl with | [_, _], _ => rfl,
    g__law_is_judged := PySem.W.mg_of X G a__law_is_judged,
    f__law_is_judged := f__law_is_judged, fd__law_is_judged := PySem.W.fnOf "_law_is_judged" "_law_is_judged" (defArgs s__law_is_judged) (defBody s__law_is_judged) (defScope s__law_is_judged) .none kV__law_is_judged dc__law_is_judged pm__law_is_judged an__law_is_judged cd__law_is_judged ct__law_is_judged, F__law_is_judged := fun_mk (st := s__law_is_judged) l__law_is_judged c__law_is_judged k__law_is_judged, b__law_is_judged := (fun_mk (st := s__law_is_judged) l__law_is_judged c__law_is_judged k__law_is_judged).binds (ps := ["value"]) fun _ _ _ _ _ _ us hl => match us, hl with | [_], _ => rfl,
    g__law_refused := PySem.W.mg_of X G a__law_refused,
    f__law_refused := f__law_refused, fd__law_refused := PySem.W.fnOf "_law_refused" "_law_refused" (defArgs s__law_refused) (defBody s__law_refused) (defScope s__law_refused) .none kV__law_refused dc__law_refused pm__law_refused an__law_refused cd__law_refused ct__law_refused, F__law_refused := fun_mk (st := s__law_refused) l__law_refused c__law_refused k__law_refused, b__law_refused := (fun_mk (st := s__law_refused) l__law_refused c__law_refused k__law_refused).binds (ps := ["count"]) fun _ _ _ _ _ _ us hl => match us, hl with | [_], _ => rfl,
    g_law := PySem.W.mg_of X G a_law,
    f_law := f_law, fd_law := PySem.W.fnOf "law" "law" (defArgs s_law) (defBody s_law) (defScope s_law) .none kV_law dc_law pm_law an_law cd_law ct_law, F_law := fun_mk (st := s_law) l_law c_law k_law, b_law := (fun_mk (st := s_law) l_law c_law k_law).binds (ps := ["script"]) fun _ _ _ _ _ _ us hl => match us, hl with | [_], _ => rfl,
    c_DialError := c_DialError, gc_DialError := PySem.W.mg_of X G gc_DialError, x_DialError := ⟨⟨⟨_, _, _, _, _, _, _, _, _, _, _, _, _, _, _, xL_DialError, by rfl⟩, sa_DialError, eC_DialError, tC_DialError, kC_DialError⟩, ⟨ga_DialError, gg_DialError, eC_DialError, hC_DialError⟩⟩,
    y_DialError := ⟨ys_DialError, tC_DialError, yr_DialError, yf_DialError⟩,
    c_NotPlace := c_NotPlace, gc_NotPlace := PySem.W.mg_of X G gc_NotPlace, x_NotPlace := ⟨⟨⟨_, _, _, _, _, _, _, _, _, _, _, _, _, _, _, xL_NotPlace, by rfl⟩, sa_NotPlace, eC_NotPlace, tC_NotPlace, kC_NotPlace⟩, ⟨ga_NotPlace, gg_NotPlace, eC_NotPlace, hC_NotPlace⟩⟩,
    c_NotText := c_NotText, gc_NotText := PySem.W.mg_of X G gc_NotText, x_NotText := ⟨⟨⟨_, _, _, _, _, _, _, _, _, _, _, _, _, _, _, xL_NotText, by rfl⟩, sa_NotText, eC_NotText, tC_NotText, kC_NotText⟩, ⟨ga_NotText, gg_NotText, eC_NotText, hC_NotText⟩⟩,
    iC_NotText := iC_NotText, tI_NotText := tI_NotText,
    n_NotText_place := n_NotText_place,
    c_NotWord := c_NotWord, gc_NotWord := PySem.W.mg_of X G gc_NotWord, x_NotWord := ⟨⟨⟨_, _, _, _, _, _, _, _, _, _, _, _, _, _, _, xL_NotWord, by rfl⟩, sa_NotWord, eC_NotWord, tC_NotWord, kC_NotWord⟩, ⟨ga_NotWord, gg_NotWord, eC_NotWord, hC_NotWord⟩⟩,
    iC_NotWord := iC_NotWord, tI_NotWord := tI_NotWord,
    n_NotWord_place := n_NotWord_place,
    c_NotLet := c_NotLet, gc_NotLet := PySem.W.mg_of X G gc_NotLet, x_NotLet := ⟨⟨⟨_, _, _, _, _, _, _, _, _, _, _, _, _, _, _, xL_NotLet, by rfl⟩, sa_NotLet, eC_NotLet, tC_NotLet, kC_NotLet⟩, ⟨ga_NotLet, gg_NotLet, eC_NotLet, hC_NotLet⟩⟩,
    c_TooMany := c_TooMany, gc_TooMany := PySem.W.mg_of X G gc_TooMany, x_TooMany := ⟨⟨⟨_, _, _, _, _, _, _, _, _, _, _, _, _, _, _, xL_TooMany, by rfl⟩, sa_TooMany, eC_TooMany, tC_TooMany, kC_TooMany⟩, ⟨ga_TooMany, gg_TooMany, eC_TooMany, hC_TooMany⟩⟩,
    iC_TooMany := iC_TooMany, tI_TooMany := tI_TooMany,
    n_TooMany_limit := n_TooMany_limit,
    e_NotWord_DialError := exm_ofS eC_DialError iL_DialError tC_DialError e_NotWord_DialError,
    e_NotWord_TooMany := exm_ofS eC_TooMany iL_TooMany tC_TooMany e_NotWord_TooMany,
    e_TooMany_DialError := exm_ofS eC_DialError iL_DialError tC_DialError e_TooMany_DialError,
    e_TooMany_TooMany := exm_ofS eC_TooMany iL_TooMany tC_TooMany e_TooMany_TooMany,
    xc_NotWord := ⟨ga_NotWord, gg_NotWord, eC_NotWord, hC_NotWord, ha_NotWord, hnG, htG, hm_NotWord⟩,
    k_NotWord_NotLet := kit_of iL_NotLet tC_NotLet e_NotWord_NotLet (fun z => ne_NotWord_NotLet z),
    k_NotWord_NotPlace := kit_of iL_NotPlace tC_NotPlace e_NotWord_NotPlace (fun z => ne_NotWord_NotPlace z),
    k_NotWord_NotText := kit_of iL_NotText tC_NotText e_NotWord_NotText (fun z => ne_NotWord_NotText z),
    k_NotWord_NotWord := kit_of iL_NotWord tC_NotWord e_NotWord_NotWord (fun _ => rfl),
    k_NotWord_TooMany := kit_of iL_TooMany tC_TooMany e_NotWord_TooMany (fun z => ne_NotWord_TooMany z),
    k_NotWord_ValueError := kit_ty (by decide +kernel) et_NotWord_ValueError,
    xc_TooMany := ⟨ga_TooMany, gg_TooMany, eC_TooMany, hC_TooMany, ha_TooMany, hnG, htG, hm_TooMany⟩,
    k_TooMany_NotLet := kit_of iL_NotLet tC_NotLet e_TooMany_NotLet (fun z => ne_TooMany_NotLet z),
    k_TooMany_NotPlace := kit_of iL_NotPlace tC_NotPlace e_TooMany_NotPlace (fun z => ne_TooMany_NotPlace z),
    k_TooMany_NotText := kit_of iL_NotText tC_NotText e_TooMany_NotText (fun z => ne_TooMany_NotText z),
    k_TooMany_NotWord := kit_of iL_NotWord tC_NotWord e_TooMany_NotWord (fun z => ne_TooMany_NotWord z),
    k_TooMany_TooMany := kit_of iL_TooMany tC_TooMany e_TooMany_TooMany (fun _ => rfl),
    k_TooMany_ValueError := kit_ty (by decide +kernel) et_TooMany_ValueError,
    z_ValueError := PySem.W.mg_none_of X G z_ValueError,
    z_bool := PySem.W.mg_none_of X G z_bool,
    z_enumerate := PySem.W.mg_none_of X G z_enumerate,
    z_int := PySem.W.mg_none_of X G z_int,
    z_isinstance := PySem.W.mg_none_of X G z_isinstance,
    z_len := PySem.W.mg_none_of X G z_len,
    z_range := PySem.W.mg_none_of X G z_range,
    z_str := PySem.W.mg_none_of X G z_str,
    z_tuple := PySem.W.mg_none_of X G z_tuple,
    t_MOST_CHARACTERS := t_MOST_CHARACTERS, c_MOST_CHARACTERS := PySem.W.mg_of X G c_MOST_CHARACTERS,
    t_MOST_LISTED := t_MOST_LISTED, c_MOST_LISTED := PySem.W.mg_of X G c_MOST_LISTED }
theorem all_mk {l : PySem.W.OpenLaw} {w : World} {K : PySem.W.Frag} {h : Heap} {mg : Str → Option Value} {fa : Addr} (X : K.In h) (G : h.Ns mainGlobals mg) (hfa : mg "law" = some (.ref fa)) {f_NotText__init f_NotWord__init f_TooMany__init f_check_word f_star_words f__allowed f__law_begun f__law_draw f__law_of f__law_string f__law_all_words f__law_word f__law_wrong f__law_bent f__law_is_judged f__law_refused f_law : Addr} {od_NotText__init an_NotText__init od_NotWord__init an_NotWord__init od_TooMany__init an_TooMany__init od_check_word an_check_word od_star_words an_star_words od__allowed an__allowed od__law_begun an__law_begun od__law_draw an__law_draw od__law_of an__law_of od__law_string an__law_string od__law_all_words an__law_all_words od__law_word an__law_word od__law_wrong an__law_wrong od__law_bent an__law_bent od__law_is_judged an__law_is_judged od__law_refused an__law_refused od_law an_law : Option Addr} {oc_NotText__init kV_NotText__init dc_NotText__init pm_NotText__init cd_NotText__init ct_NotText__init oc_NotWord__init kV_NotWord__init dc_NotWord__init pm_NotWord__init cd_NotWord__init ct_NotWord__init oc_TooMany__init kV_TooMany__init dc_TooMany__init pm_TooMany__init cd_TooMany__init ct_TooMany__init oc_check_word kV_check_word dc_check_word pm_check_word cd_check_word ct_check_word oc_star_words kV_star_words dc_star_words pm_star_words cd_star_words ct_star_words oc__allowed kV__allowed dc__allowed pm__allowed cd__allowed ct__allowed oc__law_begun kV__law_begun dc__law_begun pm__law_begun cd__law_begun ct__law_begun oc__law_draw kV__law_draw dc__law_draw pm__law_draw cd__law_draw ct__law_draw oc__law_of kV__law_of dc__law_of pm__law_of cd__law_of ct__law_of oc__law_string kV__law_string dc__law_string pm__law_string cd__law_string ct__law_string oc__law_all_words kV__law_all_words dc__law_all_words pm__law_all_words cd__law_all_words ct__law_all_words oc__law_word kV__law_word dc__law_word pm__law_word cd__law_word ct__law_word oc__law_wrong kV__law_wrong dc__law_wrong pm__law_wrong cd__law_wrong ct__law_wrong oc__law_bent kV__law_bent dc__law_bent pm__law_bent cd__law_bent ct__law_bent oc__law_is_judged kV__law_is_judged dc__law_is_judged pm__law_is_judged cd__law_is_judged ct__law_is_judged oc__law_refused kV__law_refused dc__law_refused pm__law_refused cd__law_refused ct__law_refused oc_law kV_law dc_law pm_law cd_law ct_law : Value} {sl_NotText__init sl_NotWord__init sl_TooMany__init sl_check_word sl_star_words sl__allowed sl__law_begun sl__law_draw sl__law_of sl__law_string sl__law_all_words sl__law_word sl__law_wrong sl__law_bent sl__law_is_judged sl__law_refused sl_law : Array (Option Value)} {c_DialError N_DialError : Addr} {nm_DialError q_DialError : Str} {bs_DialError sub_DialError : List Value} {sn_DialError : List Str} {ab_DialError : Bool} {col_DialError : Option Bool} {dd_DialError : Option Addr} {m0_DialError m1_DialError m2_DialError m3_DialError m5_DialError : Option Value} {c_NotPlace N_NotPlace : Addr} {nm_NotPlace q_NotPlace : Str} {bs_NotPlace sub_NotPlace : List Value} {sn_NotPlace : List Str} {ab_NotPlace : Bool} {col_NotPlace : Option Bool} {dd_NotPlace : Option Addr} {m0_NotPlace m1_NotPlace m2_NotPlace m3_NotPlace m5_NotPlace : Option Value} {c_NotText N_NotText : Addr} {nm_NotText q_NotText : Str} {bs_NotText sub_NotText : List Value} {sn_NotText : List Str} {ab_NotText : Bool} {col_NotText : Option Bool} {dd_NotText : Option Addr} {m0_NotText m1_NotText m2_NotText m3_NotText m5_NotText : Option Value} {c_NotWord N_NotWord : Addr} {nm_NotWord q_NotWord : Str} {bs_NotWord sub_NotWord : List Value} {sn_NotWord : List Str} {ab_NotWord : Bool} {col_NotWord : Option Bool} {dd_NotWord : Option Addr} {m0_NotWord m1_NotWord m2_NotWord m3_NotWord m5_NotWord : Option Value} {c_NotLet N_NotLet : Addr} {nm_NotLet q_NotLet : Str} {bs_NotLet sub_NotLet : List Value} {sn_NotLet : List Str} {ab_NotLet : Bool} {col_NotLet : Option Bool} {dd_NotLet : Option Addr} {m0_NotLet m1_NotLet m2_NotLet m3_NotLet m5_NotLet : Option Value} {c_TooMany N_TooMany : Addr} {nm_TooMany q_TooMany : Str} {bs_TooMany sub_TooMany : List Value} {sn_TooMany : List Str} {ab_TooMany : Bool} {col_TooMany : Option Bool} {dd_TooMany : Option Addr} {m0_TooMany m1_TooMany m2_TooMany m3_TooMany m5_TooMany : Option Value} {t_MOST_CHARACTERS t_MOST_LISTED : Tok}
    (gc_DialError : PySem.W.nsIn K mainGlobals "DialError" = some (some (.ref c_DialError)))
    (xL_DialError : K.lookup c_DialError = some (excClassObj nm_DialError q_DialError c_DialError N_DialError bs_DialError ([.type "ValueError", .type "Exception", .type "BaseException", .type "object"]) true sn_DialError sub_DialError ab_DialError col_DialError dd_DialError m0_DialError m1_DialError m2_DialError m3_DialError m5_DialError "ValueError.__new__"))
    (sa_DialError : PySem.W.findIn K (.ref c_DialError) "__setattr__" = some (some (.builtin "object.__setattr__")))
    (eC_DialError : PySem.W.subIn K (.ref c_DialError) (.type "BaseException") = some true)
    (tC_DialError : PySem.W.typeIn K (.ref c_DialError) = some (.type "type"))
    (kC_DialError : PySem.W.keepIn K (.ref c_DialError) = true)
    (ga_DialError : PySem.W.findIn K (.ref c_DialError) "__getattribute__" = some (some (.builtin "BaseException.__getattribute__")))
    (gg_DialError : PySem.W.findIn K (.ref c_DialError) "__getattr__" = some none)
    (hC_DialError : PySem.W.hasDictIn K c_DialError = true)
    (ys_DialError : PySem.W.specialIn K (.ref c_DialError) "__getattribute__" = some (some (.builtin "type.__getattribute__")))
    (yr_DialError : PySem.W.readsIn K c_DialError (.type "type") = true)
    (yf_DialError : PySem.W.findCls K (.ref c_DialError) (.type "type") "__init__" = some (.val (.builtin "ValueError.__init__")))
    (gc_NotPlace : PySem.W.nsIn K mainGlobals "NotPlace" = some (some (.ref c_NotPlace)))
    (xL_NotPlace : K.lookup c_NotPlace = some (excClassObj nm_NotPlace q_NotPlace c_NotPlace N_NotPlace bs_NotPlace (.ref c_DialError :: [.type "ValueError", .type "Exception", .type "BaseException", .type "object"]) true sn_NotPlace sub_NotPlace ab_NotPlace col_NotPlace dd_NotPlace m0_NotPlace m1_NotPlace m2_NotPlace m3_NotPlace m5_NotPlace "ValueError.__new__"))
    (sa_NotPlace : PySem.W.findIn K (.ref c_NotPlace) "__setattr__" = some (some (.builtin "object.__setattr__")))
    (eC_NotPlace : PySem.W.subIn K (.ref c_NotPlace) (.type "BaseException") = some true)
    (tC_NotPlace : PySem.W.typeIn K (.ref c_NotPlace) = some (.type "type"))
    (kC_NotPlace : PySem.W.keepIn K (.ref c_NotPlace) = true)
    (ga_NotPlace : PySem.W.findIn K (.ref c_NotPlace) "__getattribute__" = some (some (.builtin "BaseException.__getattribute__")))
    (gg_NotPlace : PySem.W.findIn K (.ref c_NotPlace) "__getattr__" = some none)
    (hC_NotPlace : PySem.W.hasDictIn K c_NotPlace = true)
    (gc_NotText : PySem.W.nsIn K mainGlobals "NotText" = some (some (.ref c_NotText)))
    (xL_NotText : K.lookup c_NotText = some (excClassObj nm_NotText q_NotText c_NotText N_NotText bs_NotText (.ref c_DialError :: [.type "ValueError", .type "Exception", .type "BaseException", .type "object"]) true sn_NotText sub_NotText ab_NotText col_NotText dd_NotText m0_NotText m1_NotText m2_NotText m3_NotText m5_NotText "ValueError.__new__"))
    (sa_NotText : PySem.W.findIn K (.ref c_NotText) "__setattr__" = some (some (.builtin "object.__setattr__")))
    (eC_NotText : PySem.W.subIn K (.ref c_NotText) (.type "BaseException") = some true)
    (tC_NotText : PySem.W.typeIn K (.ref c_NotText) = some (.type "type"))
    (kC_NotText : PySem.W.keepIn K (.ref c_NotText) = true)
    (ga_NotText : PySem.W.findIn K (.ref c_NotText) "__getattribute__" = some (some (.builtin "BaseException.__getattribute__")))
    (gg_NotText : PySem.W.findIn K (.ref c_NotText) "__getattr__" = some none)
    (hC_NotText : PySem.W.hasDictIn K c_NotText = true)
    (iC_NotText : PySem.W.findIn K (.ref c_NotText) "__init__" = some (some (.ref f_NotText__init))) (tI_NotText : PySem.W.typeIn K (.ref f_NotText__init) = some (.type "function"))
    (n_NotText_place : PySem.W.findIn K (.ref c_NotText) "place" = some none)
    (gc_NotWord : PySem.W.nsIn K mainGlobals "NotWord" = some (some (.ref c_NotWord)))
    (xL_NotWord : K.lookup c_NotWord = some (excClassObj nm_NotWord q_NotWord c_NotWord N_NotWord bs_NotWord (.ref c_DialError :: [.type "ValueError", .type "Exception", .type "BaseException", .type "object"]) true sn_NotWord sub_NotWord ab_NotWord col_NotWord dd_NotWord m0_NotWord m1_NotWord m2_NotWord m3_NotWord m5_NotWord "ValueError.__new__"))
    (sa_NotWord : PySem.W.findIn K (.ref c_NotWord) "__setattr__" = some (some (.builtin "object.__setattr__")))
    (eC_NotWord : PySem.W.subIn K (.ref c_NotWord) (.type "BaseException") = some true)
    (tC_NotWord : PySem.W.typeIn K (.ref c_NotWord) = some (.type "type"))
    (kC_NotWord : PySem.W.keepIn K (.ref c_NotWord) = true)
    (ga_NotWord : PySem.W.findIn K (.ref c_NotWord) "__getattribute__" = some (some (.builtin "BaseException.__getattribute__")))
    (gg_NotWord : PySem.W.findIn K (.ref c_NotWord) "__getattr__" = some none)
    (hC_NotWord : PySem.W.hasDictIn K c_NotWord = true)
    (iC_NotWord : PySem.W.findIn K (.ref c_NotWord) "__init__" = some (some (.ref f_NotWord__init))) (tI_NotWord : PySem.W.typeIn K (.ref f_NotWord__init) = some (.type "function"))
    (n_NotWord_place : PySem.W.findIn K (.ref c_NotWord) "place" = some none)
    (gc_NotLet : PySem.W.nsIn K mainGlobals "NotLet" = some (some (.ref c_NotLet)))
    (xL_NotLet : K.lookup c_NotLet = some (excClassObj nm_NotLet q_NotLet c_NotLet N_NotLet bs_NotLet (.ref c_DialError :: [.type "ValueError", .type "Exception", .type "BaseException", .type "object"]) true sn_NotLet sub_NotLet ab_NotLet col_NotLet dd_NotLet m0_NotLet m1_NotLet m2_NotLet m3_NotLet m5_NotLet "ValueError.__new__"))
    (sa_NotLet : PySem.W.findIn K (.ref c_NotLet) "__setattr__" = some (some (.builtin "object.__setattr__")))
    (eC_NotLet : PySem.W.subIn K (.ref c_NotLet) (.type "BaseException") = some true)
    (tC_NotLet : PySem.W.typeIn K (.ref c_NotLet) = some (.type "type"))
    (kC_NotLet : PySem.W.keepIn K (.ref c_NotLet) = true)
    (ga_NotLet : PySem.W.findIn K (.ref c_NotLet) "__getattribute__" = some (some (.builtin "BaseException.__getattribute__")))
    (gg_NotLet : PySem.W.findIn K (.ref c_NotLet) "__getattr__" = some none)
    (hC_NotLet : PySem.W.hasDictIn K c_NotLet = true)
    (gc_TooMany : PySem.W.nsIn K mainGlobals "TooMany" = some (some (.ref c_TooMany)))
    (xL_TooMany : K.lookup c_TooMany = some (excClassObj nm_TooMany q_TooMany c_TooMany N_TooMany bs_TooMany (.ref c_DialError :: [.type "ValueError", .type "Exception", .type "BaseException", .type "object"]) true sn_TooMany sub_TooMany ab_TooMany col_TooMany dd_TooMany m0_TooMany m1_TooMany m2_TooMany m3_TooMany m5_TooMany "ValueError.__new__"))
    (sa_TooMany : PySem.W.findIn K (.ref c_TooMany) "__setattr__" = some (some (.builtin "object.__setattr__")))
    (eC_TooMany : PySem.W.subIn K (.ref c_TooMany) (.type "BaseException") = some true)
    (tC_TooMany : PySem.W.typeIn K (.ref c_TooMany) = some (.type "type"))
    (kC_TooMany : PySem.W.keepIn K (.ref c_TooMany) = true)
    (ga_TooMany : PySem.W.findIn K (.ref c_TooMany) "__getattribute__" = some (some (.builtin "BaseException.__getattribute__")))
    (gg_TooMany : PySem.W.findIn K (.ref c_TooMany) "__getattr__" = some none)
    (hC_TooMany : PySem.W.hasDictIn K c_TooMany = true)
    (iC_TooMany : PySem.W.findIn K (.ref c_TooMany) "__init__" = some (some (.ref f_TooMany__init))) (tI_TooMany : PySem.W.typeIn K (.ref f_TooMany__init) = some (.type "function"))
    (n_TooMany_limit : PySem.W.findIn K (.ref c_TooMany) "limit" = some none)
    (e_NotWord_DialError : PySem.W.subIn K (.ref c_NotWord) (.ref c_DialError) = some true)
    (e_NotWord_TooMany : PySem.W.subIn K (.ref c_NotWord) (.ref c_TooMany) = some false)
    (e_TooMany_DialError : PySem.W.subIn K (.ref c_TooMany) (.ref c_DialError) = some true)
    (e_TooMany_TooMany : PySem.W.subIn K (.ref c_TooMany) (.ref c_TooMany) = some true)
    (hnG : PySem.W.specialIn K (.builtin "object.__class__") "__get__" = some (some (.builtin "getset_descriptor.__get__"))) (htG : PySem.W.takesIn K (.builtin "object.__class__") = some true)
    (ha_NotWord : PySem.W.findIn K (.ref c_NotWord) "__class__" = some (some (.builtin "object.__class__"))) (hm_NotWord : PySem.W.mroIn K c_NotWord (.type "object") = some true)
    (iL_NotLet : PySem.W.isClsIn K c_NotLet = true)
    (e_NotWord_NotLet : PySem.W.subIn K (.ref c_NotWord) (.ref c_NotLet) = some false)
    (ne_NotWord_NotLet : c_NotWord = c_NotLet → false = true)
    (iL_NotPlace : PySem.W.isClsIn K c_NotPlace = true)
    (e_NotWord_NotPlace : PySem.W.subIn K (.ref c_NotWord) (.ref c_NotPlace) = some false)
    (ne_NotWord_NotPlace : c_NotWord = c_NotPlace → false = true)
    (iL_NotText : PySem.W.isClsIn K c_NotText = true)
    (e_NotWord_NotText : PySem.W.subIn K (.ref c_NotWord) (.ref c_NotText) = some false)
    (ne_NotWord_NotText : c_NotWord = c_NotText → false = true)
    (iL_NotWord : PySem.W.isClsIn K c_NotWord = true)
    (e_NotWord_NotWord : PySem.W.subIn K (.ref c_NotWord) (.ref c_NotWord) = some true)
    (ne_NotWord_TooMany : c_NotWord = c_TooMany → false = true)
    (et_NotWord_ValueError : PySem.W.subIn K (.ref c_NotWord) (.type "ValueError") = some true)
    (ha_TooMany : PySem.W.findIn K (.ref c_TooMany) "__class__" = some (some (.builtin "object.__class__"))) (hm_TooMany : PySem.W.mroIn K c_TooMany (.type "object") = some true)
    (e_TooMany_NotLet : PySem.W.subIn K (.ref c_TooMany) (.ref c_NotLet) = some false)
    (ne_TooMany_NotLet : c_TooMany = c_NotLet → false = true)
    (e_TooMany_NotPlace : PySem.W.subIn K (.ref c_TooMany) (.ref c_NotPlace) = some false)
    (ne_TooMany_NotPlace : c_TooMany = c_NotPlace → false = true)
    (e_TooMany_NotText : PySem.W.subIn K (.ref c_TooMany) (.ref c_NotText) = some false)
    (ne_TooMany_NotText : c_TooMany = c_NotText → false = true)
    (e_TooMany_NotWord : PySem.W.subIn K (.ref c_TooMany) (.ref c_NotWord) = some false)
    (ne_TooMany_NotWord : c_TooMany = c_NotWord → false = true)
    (et_TooMany_ValueError : PySem.W.subIn K (.ref c_TooMany) (.type "ValueError") = some true)
    (iL_DialError : PySem.W.isClsIn K c_DialError = true)
    (iL_TooMany : PySem.W.isClsIn K c_TooMany = true)
    (l_NotText__init : K.lookup f_NotText__init = some ⟨oc_NotText__init, od_NotText__init, .func (PySem.W.fnOf "__init__" "NotText.__init__" (defArgs s_NotText__init) (defBody s_NotText__init) (defScope s_NotText__init) .none kV_NotText__init dc_NotText__init pm_NotText__init an_NotText__init cd_NotText__init ct_NotText__init), sl_NotText__init⟩) (c_NotText__init : PySem.W.codeIn K cd_NotText__init "NotText.__init__" = true) (k_NotText__init : PySem.W.keepIn K (.ref f_NotText__init) = true)
    (l_NotWord__init : K.lookup f_NotWord__init = some ⟨oc_NotWord__init, od_NotWord__init, .func (PySem.W.fnOf "__init__" "NotWord.__init__" (defArgs s_NotWord__init) (defBody s_NotWord__init) (defScope s_NotWord__init) .none kV_NotWord__init dc_NotWord__init pm_NotWord__init an_NotWord__init cd_NotWord__init ct_NotWord__init), sl_NotWord__init⟩) (c_NotWord__init : PySem.W.codeIn K cd_NotWord__init "NotWord.__init__" = true) (k_NotWord__init : PySem.W.keepIn K (.ref f_NotWord__init) = true)
    (l_TooMany__init : K.lookup f_TooMany__init = some ⟨oc_TooMany__init, od_TooMany__init, .func (PySem.W.fnOf "__init__" "TooMany.__init__" (defArgs s_TooMany__init) (defBody s_TooMany__init) (defScope s_TooMany__init) .none kV_TooMany__init dc_TooMany__init pm_TooMany__init an_TooMany__init cd_TooMany__init ct_TooMany__init), sl_TooMany__init⟩) (c_TooMany__init : PySem.W.codeIn K cd_TooMany__init "TooMany.__init__" = true) (k_TooMany__init : PySem.W.keepIn K (.ref f_TooMany__init) = true)
    (a_check_word : PySem.W.nsIn K mainGlobals "check_word" = some (some (.ref f_check_word)))
    (l_check_word : K.lookup f_check_word = some ⟨oc_check_word, od_check_word, .func (PySem.W.fnOf "check_word" "check_word" (defArgs s_check_word) (defBody s_check_word) (defScope s_check_word) .none kV_check_word dc_check_word pm_check_word an_check_word cd_check_word ct_check_word), sl_check_word⟩) (c_check_word : PySem.W.codeIn K cd_check_word "check_word" = true) (k_check_word : PySem.W.keepIn K (.ref f_check_word) = true)
    (a_star_words : PySem.W.nsIn K mainGlobals "star_words" = some (some (.ref f_star_words)))
    (l_star_words : K.lookup f_star_words = some ⟨oc_star_words, od_star_words, .func (PySem.W.fnOf "star_words" "star_words" (defArgs s_star_words) (defBody s_star_words) (defScope s_star_words) .none kV_star_words dc_star_words pm_star_words an_star_words cd_star_words ct_star_words), sl_star_words⟩) (c_star_words : PySem.W.codeIn K cd_star_words "star_words" = true) (k_star_words : PySem.W.keepIn K (.ref f_star_words) = true)
    (a__allowed : PySem.W.nsIn K mainGlobals "_allowed" = some (some (.ref f__allowed)))
    (l__allowed : K.lookup f__allowed = some ⟨oc__allowed, od__allowed, .func (PySem.W.fnOf "_allowed" "_allowed" (defArgs s__allowed) (defBody s__allowed) (defScope s__allowed) .none kV__allowed dc__allowed pm__allowed an__allowed cd__allowed ct__allowed), sl__allowed⟩) (c__allowed : PySem.W.codeIn K cd__allowed "_allowed" = true) (k__allowed : PySem.W.keepIn K (.ref f__allowed) = true)
    (a__law_begun : PySem.W.nsIn K mainGlobals "_law_begun" = some (some (.ref f__law_begun)))
    (l__law_begun : K.lookup f__law_begun = some ⟨oc__law_begun, od__law_begun, .func (PySem.W.fnOf "_law_begun" "_law_begun" (defArgs s__law_begun) (defBody s__law_begun) (defScope s__law_begun) .none kV__law_begun dc__law_begun pm__law_begun an__law_begun cd__law_begun ct__law_begun), sl__law_begun⟩) (c__law_begun : PySem.W.codeIn K cd__law_begun "_law_begun" = true) (k__law_begun : PySem.W.keepIn K (.ref f__law_begun) = true)
    (a__law_draw : PySem.W.nsIn K mainGlobals "_law_draw" = some (some (.ref f__law_draw)))
    (l__law_draw : K.lookup f__law_draw = some ⟨oc__law_draw, od__law_draw, .func (PySem.W.fnOf "_law_draw" "_law_draw" (defArgs s__law_draw) (defBody s__law_draw) (defScope s__law_draw) .none kV__law_draw dc__law_draw pm__law_draw an__law_draw cd__law_draw ct__law_draw), sl__law_draw⟩) (c__law_draw : PySem.W.codeIn K cd__law_draw "_law_draw" = true) (k__law_draw : PySem.W.keepIn K (.ref f__law_draw) = true)
    (a__law_of : PySem.W.nsIn K mainGlobals "_law_of" = some (some (.ref f__law_of)))
    (l__law_of : K.lookup f__law_of = some ⟨oc__law_of, od__law_of, .func (PySem.W.fnOf "_law_of" "_law_of" (defArgs s__law_of) (defBody s__law_of) (defScope s__law_of) .none kV__law_of dc__law_of pm__law_of an__law_of cd__law_of ct__law_of), sl__law_of⟩) (c__law_of : PySem.W.codeIn K cd__law_of "_law_of" = true) (k__law_of : PySem.W.keepIn K (.ref f__law_of) = true)
    (a__law_string : PySem.W.nsIn K mainGlobals "_law_string" = some (some (.ref f__law_string)))
    (l__law_string : K.lookup f__law_string = some ⟨oc__law_string, od__law_string, .func (PySem.W.fnOf "_law_string" "_law_string" (defArgs s__law_string) (defBody s__law_string) (defScope s__law_string) .none kV__law_string dc__law_string pm__law_string an__law_string cd__law_string ct__law_string), sl__law_string⟩) (c__law_string : PySem.W.codeIn K cd__law_string "_law_string" = true) (k__law_string : PySem.W.keepIn K (.ref f__law_string) = true)
    (a__law_all_words : PySem.W.nsIn K mainGlobals "_law_all_words" = some (some (.ref f__law_all_words)))
    (l__law_all_words : K.lookup f__law_all_words = some ⟨oc__law_all_words, od__law_all_words, .func (PySem.W.fnOf "_law_all_words" "_law_all_words" (defArgs s__law_all_words) (defBody s__law_all_words) (defScope s__law_all_words) .none kV__law_all_words dc__law_all_words pm__law_all_words an__law_all_words cd__law_all_words ct__law_all_words), sl__law_all_words⟩) (c__law_all_words : PySem.W.codeIn K cd__law_all_words "_law_all_words" = true) (k__law_all_words : PySem.W.keepIn K (.ref f__law_all_words) = true)
    (a__law_word : PySem.W.nsIn K mainGlobals "_law_word" = some (some (.ref f__law_word)))
    (l__law_word : K.lookup f__law_word = some ⟨oc__law_word, od__law_word, .func (PySem.W.fnOf "_law_word" "_law_word" (defArgs s__law_word) (defBody s__law_word) (defScope s__law_word) .none kV__law_word dc__law_word pm__law_word an__law_word cd__law_word ct__law_word), sl__law_word⟩) (c__law_word : PySem.W.codeIn K cd__law_word "_law_word" = true) (k__law_word : PySem.W.keepIn K (.ref f__law_word) = true)
    (a__law_wrong : PySem.W.nsIn K mainGlobals "_law_wrong" = some (some (.ref f__law_wrong)))
    (l__law_wrong : K.lookup f__law_wrong = some ⟨oc__law_wrong, od__law_wrong, .func (PySem.W.fnOf "_law_wrong" "_law_wrong" (defArgs s__law_wrong) (defBody s__law_wrong) (defScope s__law_wrong) .none kV__law_wrong dc__law_wrong pm__law_wrong an__law_wrong cd__law_wrong ct__law_wrong), sl__law_wrong⟩) (c__law_wrong : PySem.W.codeIn K cd__law_wrong "_law_wrong" = true) (k__law_wrong : PySem.W.keepIn K (.ref f__law_wrong) = true)
    (a__law_bent : PySem.W.nsIn K mainGlobals "_law_bent" = some (some (.ref f__law_bent)))
    (l__law_bent : K.lookup f__law_bent = some ⟨oc__law_bent, od__law_bent, .func (PySem.W.fnOf "_law_bent" "_law_bent" (defArgs s__law_bent) (defBody s__law_bent) (defScope s__law_bent) .none kV__law_bent dc__law_bent pm__law_bent an__law_bent cd__law_bent ct__law_bent), sl__law_bent⟩) (c__law_bent : PySem.W.codeIn K cd__law_bent "_law_bent" = true) (k__law_bent : PySem.W.keepIn K (.ref f__law_bent) = true)
    (a__law_is_judged : PySem.W.nsIn K mainGlobals "_law_is_judged" = some (some (.ref f__law_is_judged)))
    (l__law_is_judged : K.lookup f__law_is_judged = some ⟨oc__law_is_judged, od__law_is_judged, .func (PySem.W.fnOf "_law_is_judged" "_law_is_judged" (defArgs s__law_is_judged) (defBody s__law_is_judged) (defScope s__law_is_judged) .none kV__law_is_judged dc__law_is_judged pm__law_is_judged an__law_is_judged cd__law_is_judged ct__law_is_judged), sl__law_is_judged⟩) (c__law_is_judged : PySem.W.codeIn K cd__law_is_judged "_law_is_judged" = true) (k__law_is_judged : PySem.W.keepIn K (.ref f__law_is_judged) = true)
    (a__law_refused : PySem.W.nsIn K mainGlobals "_law_refused" = some (some (.ref f__law_refused)))
    (l__law_refused : K.lookup f__law_refused = some ⟨oc__law_refused, od__law_refused, .func (PySem.W.fnOf "_law_refused" "_law_refused" (defArgs s__law_refused) (defBody s__law_refused) (defScope s__law_refused) .none kV__law_refused dc__law_refused pm__law_refused an__law_refused cd__law_refused ct__law_refused), sl__law_refused⟩) (c__law_refused : PySem.W.codeIn K cd__law_refused "_law_refused" = true) (k__law_refused : PySem.W.keepIn K (.ref f__law_refused) = true)
    (a_law : PySem.W.nsIn K mainGlobals "law" = some (some (.ref f_law)))
    (l_law : K.lookup f_law = some ⟨oc_law, od_law, .func (PySem.W.fnOf "law" "law" (defArgs s_law) (defBody s_law) (defScope s_law) .none kV_law dc_law pm_law an_law cd_law ct_law), sl_law⟩) (c_law : PySem.W.codeIn K cd_law "law" = true) (k_law : PySem.W.keepIn K (.ref f_law) = true)
    (z_ValueError : PySem.W.nsIn K mainGlobals "ValueError" = some none)
    (z_bool : PySem.W.nsIn K mainGlobals "bool" = some none)
    (z_enumerate : PySem.W.nsIn K mainGlobals "enumerate" = some none)
    (z_int : PySem.W.nsIn K mainGlobals "int" = some none)
    (z_isinstance : PySem.W.nsIn K mainGlobals "isinstance" = some none)
    (z_len : PySem.W.nsIn K mainGlobals "len" = some none)
    (z_range : PySem.W.nsIn K mainGlobals "range" = some none)
    (z_str : PySem.W.nsIn K mainGlobals "str" = some none)
    (z_tuple : PySem.W.nsIn K mainGlobals "tuple" = some none)
    (c_MOST_CHARACTERS : PySem.W.nsIn K mainGlobals "MOST_CHARACTERS" = some (some (.int 24 t_MOST_CHARACTERS)))
    (c_MOST_LISTED : PySem.W.nsIn K mainGlobals "MOST_LISTED" = some (some (.int 12 t_MOST_LISTED))) :
    ∃ fd : FuncData, (∀ (s : Shared) (v : Value), BindsTo s fd ⟨[v], []⟩ [("script", v)]) ∧ ∀ base : Heap, K.In base → base.Ns mainGlobals mg → FnOk l.prog w K mg base CX0 5 fa fd ["script"] (sp_law K) := by
  have e := hfa.symm.trans (PySem.W.mg_of X G a_law)
  cases e
  exact ⟨_, fun s v => .of_eq rfl, fun base _ _ => ok_law (top_mk X G gc_DialError xL_DialError sa_DialError eC_DialError tC_DialError kC_DialError ga_DialError gg_DialError hC_DialError ys_DialError yr_DialError yf_DialError gc_NotPlace xL_NotPlace sa_NotPlace eC_NotPlace tC_NotPlace kC_NotPlace ga_NotPlace gg_NotPlace hC_NotPlace gc_NotText xL_NotText sa_NotText eC_NotText tC_NotText kC_NotText ga_NotText gg_NotText hC_NotText iC_NotText tI_NotText n_NotText_place gc_NotWord xL_NotWord sa_NotWord eC_NotWord tC_NotWord kC_NotWord ga_NotWord gg_NotWord hC_NotWord iC_NotWord tI_NotWord n_NotWord_place gc_NotLet xL_NotLet sa_NotLet eC_NotLet tC_NotLet kC_NotLet ga_NotLet gg_NotLet hC_NotLet gc_TooMany xL_TooMany sa_TooMany eC_TooMany tC_TooMany kC_TooMany ga_TooMany gg_TooMany hC_TooMany iC_TooMany tI_TooMany n_TooMany_limit e_NotWord_DialError e_NotWord_TooMany e_TooMany_DialError e_TooMany_TooMany hnG htG ha_NotWord hm_NotWord iL_NotLet e_NotWord_NotLet ne_NotWord_NotLet iL_NotPlace e_NotWord_NotPlace ne_NotWord_NotPlace iL_NotText e_NotWord_NotText ne_NotWord_NotText iL_NotWord e_NotWord_NotWord ne_NotWord_TooMany et_NotWord_ValueError ha_TooMany hm_TooMany e_TooMany_NotLet ne_TooMany_NotLet e_TooMany_NotPlace ne_TooMany_NotPlace e_TooMany_NotText ne_TooMany_NotText e_TooMany_NotWord ne_TooMany_NotWord et_TooMany_ValueError iL_DialError iL_TooMany l_NotText__init c_NotText__init k_NotText__init l_NotWord__init c_NotWord__init k_NotWord__init l_TooMany__init c_TooMany__init k_TooMany__init a_check_word l_check_word c_check_word k_check_word a_star_words l_star_words c_star_words k_star_words a__allowed l__allowed c__allowed k__allowed a__law_begun l__law_begun c__law_begun k__law_begun a__law_draw l__law_draw c__law_draw k__law_draw a__law_of l__law_of c__law_of k__law_of a__law_string l__law_string c__law_string k__law_string a__law_all_words l__law_all_words c__law_all_words k__law_all_words a__law_word l__law_word c__law_word k__law_word a__law_wrong l__law_wrong c__law_wrong k__law_wrong a__law_bent l__law_bent c__law_bent k__law_bent a__law_is_judged l__law_is_judged c__law_is_judged k__law_is_judged a__law_refused l__law_refused c__law_refused k__law_refused a_law l_law c_law k_law z_ValueError z_bool z_enumerate z_int z_isinstance z_len z_range z_str z_tuple c_MOST_CHARACTERS c_MOST_LISTED)⟩
end Tw
open PySem PySem.W PyProof.Rows
set_option maxHeartbeats 0 in
theorem PySem.Challenge.cw_twicedial_k56_star_words_judged_holds : PySem.Challenge.rw_twicedial_k56_star_words_judged.Holds := by
  w_on; o_law; k_head; (case hw => w_witness2)
  k_fill
  refine L2.walk_ofB (l := PySem.Challenge.rw_twicedial_k56_star_words_judged) (n := 63) (k := 5) (x := "script") (CX := fun _ => L2.CX0) (sp := fun w => Tw.sp_law _) rfl (by decide) rfl ⟨rfl, by decide, by decide⟩ (fun w h Y => PySem.W.kIn_of Y) ?F (fun _ _ a ns hl hb _ hS => ⟨a, ns, rfl, hS, hl, hb, fun _ => rfl⟩) (fun _ _ _ _ _ h => h)
  case F =>
    intro w mg fa h KX G hmg
    refine' Tw.all_mk KX G hmg ?gc_DialError ?xL_DialError ?sa_DialError ?eC_DialError ?tC_DialError ?kC_DialError ?ga_DialError ?gg_DialError ?hC_DialError ?ys_DialError ?yr_DialError ?yf_DialError ?gc_NotPlace ?xL_NotPlace ?sa_NotPlace ?eC_NotPlace ?tC_NotPlace ?kC_NotPlace ?ga_NotPlace ?gg_NotPlace ?hC_NotPlace ?gc_NotText ?xL_NotText ?sa_NotText ?eC_NotText ?tC_NotText ?kC_NotText ?ga_NotText ?gg_NotText ?hC_NotText ?iC_NotText ?tI_NotText ?n_NotText_place ?gc_NotWord ?xL_NotWord ?sa_NotWord ?eC_NotWord ?tC_NotWord ?kC_NotWord ?ga_NotWord ?gg_NotWord ?hC_NotWord ?iC_NotWord ?tI_NotWord ?n_NotWord_place ?gc_NotLet ?xL_NotLet ?sa_NotLet ?eC_NotLet ?tC_NotLet ?kC_NotLet ?ga_NotLet ?gg_NotLet ?hC_NotLet ?gc_TooMany ?xL_TooMany ?sa_TooMany ?eC_TooMany ?tC_TooMany ?kC_TooMany ?ga_TooMany ?gg_TooMany ?hC_TooMany ?iC_TooMany ?tI_TooMany ?n_TooMany_limit ?e_NotWord_DialError ?e_NotWord_TooMany ?e_TooMany_DialError ?e_TooMany_TooMany ?hnG ?htG ?ha_NotWord ?hm_NotWord ?iL_NotLet ?e_NotWord_NotLet ?ne_NotWord_NotLet ?iL_NotPlace ?e_NotWord_NotPlace ?ne_NotWord_NotPlace ?iL_NotText ?e_NotWord_NotText ?ne_NotWord_NotText ?iL_NotWord ?e_NotWord_NotWord ?ne_NotWord_TooMany ?et_NotWord_ValueError ?ha_TooMany ?hm_TooMany ?e_TooMany_NotLet ?ne_TooMany_NotLet ?e_TooMany_NotPlace ?ne_TooMany_NotPlace ?e_TooMany_NotText ?ne_TooMany_NotText ?e_TooMany_NotWord ?ne_TooMany_NotWord ?et_TooMany_ValueError ?iL_DialError ?iL_TooMany ?l_NotText__init ?c_NotText__init ?k_NotText__init ?l_NotWord__init ?c_NotWord__init ?k_NotWord__init ?l_TooMany__init ?c_TooMany__init ?k_TooMany__init ?a_check_word ?l_check_word ?c_check_word ?k_check_word ?a_star_words ?l_star_words ?c_star_words ?k_star_words ?a__allowed ?l__allowed ?c__allowed ?k__allowed ?a__law_begun ?l__law_begun ?c__law_begun ?k__law_begun ?a__law_draw ?l__law_draw ?c__law_draw ?k__law_draw ?a__law_of ?l__law_of ?c__law_of ?k__law_of ?a__law_string ?l__law_string ?c__law_string ?k__law_string ?a__law_all_words ?l__law_all_words ?c__law_all_words ?k__law_all_words ?a__law_word ?l__law_word ?c__law_word ?k__law_word ?a__law_wrong ?l__law_wrong ?c__law_wrong ?k__law_wrong ?a__law_bent ?l__law_bent ?c__law_bent ?k__law_bent ?a__law_is_judged ?l__law_is_judged ?c__law_is_judged ?k__law_is_judged ?a__law_refused ?l__law_refused ?c__law_refused ?k__law_refused ?a_law ?l_law ?c_law ?k_law ?z_ValueError ?z_bool ?z_enumerate ?z_int ?z_isinstance ?z_len ?z_range ?z_str ?z_tuple ?c_MOST_CHARACTERS ?c_MOST_LISTED
    (case gc_DialError => k_is); (case xL_DialError => k_is); (case sa_DialError => k_is); (case eC_DialError => k_is); (case tC_DialError => k_is); (case kC_DialError => k_is); (case ga_DialError => k_is); (case gg_DialError => k_is); (case hC_DialError => k_is); (case ys_DialError => k_is); (case yr_DialError => k_is); (case yf_DialError => k_is); (case gc_NotPlace => k_is); (case xL_NotPlace => k_is); (case sa_NotPlace => k_is); (case eC_NotPlace => k_is); (case tC_NotPlace => k_is); (case kC_NotPlace => k_is); (case ga_NotPlace => k_is); (case gg_NotPlace => k_is); (case hC_NotPlace => k_is); (case gc_NotText => k_is); (case xL_NotText => k_is); (case sa_NotText => k_is); (case eC_NotText => k_is); (case tC_NotText => k_is); (case kC_NotText => k_is); (case ga_NotText => k_is); (case gg_NotText => k_is); (case hC_NotText => k_is); (case iC_NotText => k_is); (case tI_NotText => k_is); (case n_NotText_place => k_is); (case gc_NotWord => k_is); (case xL_NotWord => k_is); (case sa_NotWord => k_is); (case eC_NotWord => k_is); (case tC_NotWord => k_is); (case kC_NotWord => k_is); (case ga_NotWord => k_is); (case gg_NotWord => k_is); (case hC_NotWord => k_is); (case iC_NotWord => k_is); (case tI_NotWord => k_is); (case n_NotWord_place => k_is); (case gc_NotLet => k_is); (case xL_NotLet => k_is); (case sa_NotLet => k_is); (case eC_NotLet => k_is); (case tC_NotLet => k_is); (case kC_NotLet => k_is); (case ga_NotLet => k_is); (case gg_NotLet => k_is); (case hC_NotLet => k_is); (case gc_TooMany => k_is); (case xL_TooMany => k_is); (case sa_TooMany => k_is); (case eC_TooMany => k_is); (case tC_TooMany => k_is); (case kC_TooMany => k_is); (case ga_TooMany => k_is); (case gg_TooMany => k_is); (case hC_TooMany => k_is); (case iC_TooMany => k_is); (case tI_TooMany => k_is); (case n_TooMany_limit => k_is); (case e_NotWord_DialError => first | rfl | k_is); (case e_NotWord_TooMany => first | rfl | k_is); (case e_TooMany_DialError => first | rfl | k_is); (case e_TooMany_TooMany => first | rfl | k_is); (case hnG => k_is); (case htG => k_is); (case ha_NotWord => k_is); (case hm_NotWord => k_is); (case iL_NotLet => k_is); (case e_NotWord_NotLet => first | rfl | k_is); (case ne_NotWord_NotLet => first | decide | k_is); (case iL_NotPlace => k_is); (case e_NotWord_NotPlace => first | rfl | k_is); (case ne_NotWord_NotPlace => first | decide | k_is); (case iL_NotText => k_is); (case e_NotWord_NotText => first | rfl | k_is); (case ne_NotWord_NotText => first | decide | k_is); (case iL_NotWord => k_is); (case e_NotWord_NotWord => first | rfl | k_is); (case ne_NotWord_TooMany => first | decide | k_is); (case et_NotWord_ValueError => first | rfl | k_is); (case ha_TooMany => k_is); (case hm_TooMany => k_is); (case e_TooMany_NotLet => first | rfl | k_is); (case ne_TooMany_NotLet => first | decide | k_is); (case e_TooMany_NotPlace => first | rfl | k_is); (case ne_TooMany_NotPlace => first | decide | k_is); (case e_TooMany_NotText => first | rfl | k_is); (case ne_TooMany_NotText => first | decide | k_is); (case e_TooMany_NotWord => first | rfl | k_is); (case ne_TooMany_NotWord => first | decide | k_is); (case et_TooMany_ValueError => first | rfl | k_is); (case iL_DialError => k_is); (case iL_TooMany => k_is); (case l_NotText__init => k_is); (case c_NotText__init => k_is); (case k_NotText__init => k_is); (case l_NotWord__init => k_is); (case c_NotWord__init => k_is); (case k_NotWord__init => k_is); (case l_TooMany__init => k_is); (case c_TooMany__init => k_is); (case k_TooMany__init => k_is); (case a_check_word => k_is); (case l_check_word => k_is); (case c_check_word => k_is); (case k_check_word => k_is); (case a_star_words => k_is); (case l_star_words => k_is); (case c_star_words => k_is); (case k_star_words => k_is); (case a__allowed => k_is); (case l__allowed => k_is); (case c__allowed => k_is); (case k__allowed => k_is); (case a__law_begun => k_is); (case l__law_begun => k_is); (case c__law_begun => k_is); (case k__law_begun => k_is); (case a__law_draw => k_is); (case l__law_draw => k_is); (case c__law_draw => k_is); (case k__law_draw => k_is); (case a__law_of => k_is); (case l__law_of => k_is); (case c__law_of => k_is); (case k__law_of => k_is); (case a__law_string => k_is); (case l__law_string => k_is); (case c__law_string => k_is); (case k__law_string => k_is); (case a__law_all_words => k_is); (case l__law_all_words => k_is); (case c__law_all_words => k_is); (case k__law_all_words => k_is); (case a__law_word => k_is); (case l__law_word => k_is); (case c__law_word => k_is); (case k__law_word => k_is); (case a__law_wrong => k_is); (case l__law_wrong => k_is); (case c__law_wrong => k_is); (case k__law_wrong => k_is); (case a__law_bent => k_is); (case l__law_bent => k_is); (case c__law_bent => k_is); (case k__law_bent => k_is); (case a__law_is_judged => k_is); (case l__law_is_judged => k_is); (case c__law_is_judged => k_is); (case k__law_is_judged => k_is); (case a__law_refused => k_is); (case l__law_refused => k_is); (case c__law_refused => k_is); (case k__law_refused => k_is); (case a_law => k_is); (case l_law => k_is); (case c_law => k_is); (case k_law => k_is); (case z_ValueError => k_is); (case z_bool => k_is); (case z_enumerate => k_is); (case z_int => k_is); (case z_isinstance => k_is); (case z_len => k_is); (case z_range => k_is); (case z_str => k_is); (case z_tuple => k_is); (case c_MOST_CHARACTERS => k_is); (case c_MOST_LISTED => k_is)
