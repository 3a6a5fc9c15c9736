import PyProof.Rows.All
import Wide.All
import OpenK.AllK
import Wide.FinOn
import HandS.ForMost
import HandS.Wide
import HandS.WideBits
import HandS.Gcd
import HandS.EndBits
import HandS.Steps
import HandS.Style
import HandS.IsInst
import HandS.Deep
import HandS.ExcInit
import HandS.ExcField
import HandS.FStr
import HandS.TryOnly
import HandS.ForSpec
import PySem.Challenge.RW_twicedial_k61_failing_numbers
set_option Elab.async false
set_option linter.all false
set_option maxRecDepth 100000
set_option maxHeartbeats 8000000
namespace Tw
open PySem PySem.Spec PyProof.Rows L2
/-! ### heaps: what stays -/
/-- all tracked objects but dicts stay -/
def Keep (H H' : Hp) : Prop := ∀ b o, (∀ kvs, o ≠ .dK kvs) → H b = some o → H' b = some o
theorem Keep.refl (H : Hp) : Keep H H := fun _ _ _ h => h
theorem Keep.of {H H' : Hp} (e : Same H H') : Keep H H' := fun b o _ h => e b o h
theorem Keep.trans {H H1 H2 : Hp} (a : Keep H H1) (b : Keep H1 H2) : Keep H H2 := fun c o n h => b c o n (a c o n h)
theorem Keep.rd {H H' : Hp} {a : Addr} {u : HO} (e : Keep H H') (n : ∀ kvs, u ≠ .dK kvs) (h : Rd H a u) : Rd H' a u := by
  rcases h with h | ⟨o, h⟩
  · exact .inl (e a _ n h)
  · exact .inr ⟨o, e a _ (fun kvs z => nomatch z) h⟩
theorem Keep.seqL {K : PySem.W.Frag} {H H' : Hp} {a : Addr} {xs : List V} (e : Keep H H') (h : SqL K H a xs) : SqL K H' a xs := by
  rcases h with h | h
  · exact .inl (e.rd (fun _ z => nomatch z) h)
  · exact .inr h
theorem Keep.seqT {K : PySem.W.Frag} {H H' : Hp} {a : Addr} {xs : List V} (e : Keep H H') (h : SqT K H a xs) : SqT K H' a xs := by
  rcases h with h | h
  · exact .inl (e.rd (fun _ z => nomatch z) h)
  · exact .inr h
theorem Keep.l {H H' : Hp} {a : Addr} {xs : List V} (e : Keep H H') (h : H a = some (.lst xs)) : H' a = some (.lst xs) := e a _ (fun _ z => nomatch z) h
theorem Keep.t {H H' : Hp} {a : Addr} {xs : List V} (e : Keep H H') (h : H a = some (.tup xs)) : H' a = some (.tup xs) := e a _ (fun _ z => nomatch z) h
theorem len_ok {n : Nat} (h : n ≤ 1000) : n ≤ sizeLine := Nat.le_trans h (by decide)
theorem len_lt {n : Nat} (h : n ≤ 1000) : n < sizeLine := Nat.lt_of_le_of_lt h (by decide)
theorem same_new {H : Hp} {p : Addr} {o : HO} (h : H p = none) : Same H (upd H p o) := fun b x e => by
  rw [upd_ne (ne_of_none e h)]; exact e
/-- an object that H does not know may change -/
theorem same_mut {H H' : Hp} {p : Addr} {o : HO} (e : Same H H') (h : H p = none) : Same H (upd H' p o) := fun a u ha => by
  rw [upd_ne (ne_of_none ha h)]; exact e a u ha
theorem keep_mut {H H' : Hp} {p : Addr} {o : HO} (e : Keep H H') (h : H p = none) : Keep H (upd H' p o) := fun a u n ha => by
  rw [upd_ne (ne_of_none ha h)]; exact e a u n ha
theorem keep_dict {H : Hp} {m : Addr} {kvs : List (Key × V)} {o : HO} (h : H m = some (.dK kvs)) : Keep H (upd H m o) := fun b u n e => by
  rw [upd_ne]
  · exact e
  · intro z; subst z; rw [h] at e; exact n kvs (Option.some.inj e).symm
theorem keep_free {H H' : Hp} (e : Same H H') {l : Addr} (h : H' l = none) : H l = none := e.free h

/-! ### data -/
abbrev Dt := PyData
mutual
theorem Dpk {K : PySem.W.Frag} {H H' : Hp} (e : Keep H H') : ∀ (d : PyData) (v : V), Dp K H v d → Dp K H' v d
  | .none, _, h => by cases h; exact .non
  | .bool b, _, h => by cases h; exact .bl b
  | .int i, _, h => by cases h; exact .int i
  | .str x, _, h => by cases h; exact .str x
  | .list ds, _, h => by
    cases h with
    | lst hs ha => exact .lst (e.seqL hs) (DpkAll e ds _ ha)
  | .tuple ds, _, h => by
    cases h with
    | tup hs ha => exact .tup (e.seqT hs) (DpkAll e ds _ ha)
  | .dict _, _, h => by cases h
theorem DpkAll {K : PySem.W.Frag} {H H' : Hp} (e : Keep H H') : ∀ (ds : List PyData) (vs : List V), DpAll K H vs ds → DpAll K H' vs ds
  | [], _, h => by cases h; exact .nil
  | d :: ds, _, h => by
    cases h with
    | cons h1 h2 => exact .cons (Dpk e d _ h1) (DpkAll e ds _ h2)
end
section
variable {K : PySem.W.Frag} {H H' : Hp} {v : V} {d : PyData} {vs : List V} {ds : List PyData} {a p : Addr} {xs : List V}
theorem dp_keep (e : Keep H H') (h : Dp K H v d) : Dp K H' v d := Dpk e d v h
theorem dp_same (e : Same H H') (h : Dp K H v d) : Dp K H' v d := Dpk (Keep.of e) d v h
theorem dpa_keep (e : Keep H H') (h : DpAll K H vs ds) : DpAll K H' vs ds := DpkAll e ds vs h
theorem dpa_same (e : Same H H') (h : DpAll K H vs ds) : DpAll K H' vs ds := DpkAll (Keep.of e) ds vs h
theorem dp_int {i : Int} (h : Dp K H v (.int i)) : v = .int i := by cases h; rfl
theorem dp_str {i : Str} (h : Dp K H v (.str i)) : v = .str i := by cases h; rfl
theorem dp_bl {i : Bool} (h : Dp K H v (.bool i)) : v = .bl i := by cases h; rfl
theorem dp_non (h : Dp K H v .none) : v = .non := by cases h; rfl
theorem dp_tup (h : Dp K H v (.tuple ds)) : ∃ a xs, v = .ref a ∧ SqT K H a xs ∧ DpAll K H xs ds := by
  cases h with
  | tup hs ha => exact ⟨_, _, rfl, hs, ha⟩
theorem dp_lst (h : Dp K H v (.list ds)) : ∃ a xs, v = .ref a ∧ SqL K H a xs ∧ DpAll K H xs ds := by
  cases h with
  | lst hs ha => exact ⟨_, _, rfl, hs, ha⟩
theorem dpa_len : ∀ {vs : List V} {ds : List PyData}, DpAll K H vs ds → vs.length = ds.length
  | _, [], h => by cases h; rfl
  | _, d :: ds, h => by
    cases h with
    | cons h1 h2 => simp [dpa_len h2]
theorem dpa_get : ∀ {vs : List V} {ds : List PyData} {i : Nat} {d : PyData}, DpAll K H vs ds → ds[i]? = some d → ∃ v, vs[i]? = some v ∧ Dp K H v d
  | _, [], i, d, h, e => by simp at e
  | _, d0 :: ds, 0, d, h, e => by
    cases h with
    | cons h1 h2 => simp at e; subst e; exact ⟨_, rfl, h1⟩
  | _, d0 :: ds, i + 1, d, h, e => by
    cases h with
    | cons h1 h2 =>
      obtain ⟨v, e1, e2⟩ := dpa_get (i := i) h2 (by simpa using e)
      exact ⟨v, by simpa using e1, e2⟩
theorem dpa_get2 : ∀ {vs : List V} {ds : List PyData} {i : Nat} {v : V}, DpAll K H vs ds → vs[i]? = some v → ∃ d, ds[i]? = some d ∧ Dp K H v d := fun {vs ds i v} h e => by
  have hi : i < ds.length := by
    rw [← dpa_len h]; exact (List.getElem?_eq_some_iff.mp e).1
  obtain ⟨v', e1, e2⟩ := dpa_get h (List.getElem?_eq_getElem hi)
  rw [e] at e1
  cases e1
  exact ⟨_, List.getElem?_eq_getElem hi, e2⟩
theorem dpa_app : ∀ {vs : List V} {ds : List PyData} {ws : List V} {es : List PyData}, DpAll K H vs ds → DpAll K H ws es → DpAll K H (vs ++ ws) (ds ++ es)
  | _, [], _, _, h, g => by cases h; exact g
  | _, d :: ds, _, _, h, g => by
    cases h with
    | cons h1 h2 => exact .cons h1 (dpa_app h2 g)
theorem dpa_one (h : Dp K H v d) : DpAll K H [v] [d] := .cons h .nil
theorem dpa_take : ∀ {vs : List V} {ds : List PyData} (n : Nat), DpAll K H vs ds → DpAll K H (vs.take n) (ds.take n)
  | _, _, 0, h => by simp; exact .nil
  | _, [], n + 1, h => by cases h; exact .nil
  | _, d :: ds, n + 1, h => by
    cases h with
    | cons h1 h2 => exact .cons h1 (dpa_take n h2)
theorem dpa_drop : ∀ {vs : List V} {ds : List PyData} (n : Nat), DpAll K H vs ds → DpAll K H (vs.drop n) (ds.drop n)
  | _, _, 0, h => h
  | _, [], n + 1, h => by cases h; exact .nil
  | _, d :: ds, n + 1, h => by
    cases h with
    | cons h1 h2 => exact dpa_drop n h2
theorem dpa_ints : ∀ (ns : List Int), DpAll K H (ns.map V.int) (ns.map PyData.int)
  | [] => .nil
  | n :: ns => .cons (.int n) (dpa_ints ns)
theorem dpa_ints_inv : ∀ {vs : List V} {ns : List Int}, DpAll K H vs (ns.map PyData.int) → vs = ns.map V.int
  | _, [], h => by cases h; rfl
  | _, n :: ns, h => by
    cases h with
    | cons h1 h2 => cases h1; rw [dpa_ints_inv h2]; rfl
theorem dpa_strs : ∀ (ns : List Str), DpAll K H (ns.map V.str) (ns.map PyData.str)
  | [] => .nil
  | n :: ns => .cons (.str n) (dpa_strs ns)
theorem dpa_strs_inv : ∀ {vs : List V} {ns : List Str}, DpAll K H vs (ns.map PyData.str) → vs = ns.map V.str
  | _, [], h => by cases h; rfl
  | _, n :: ns, h => by
    cases h with
    | cons h1 h2 => cases h1; rw [dpa_strs_inv h2]; rfl
theorem dp_newL (h : H a = some (.lst xs)) (g : DpAll K H xs ds) : Dp K H (.ref a) (.list ds) := .lst (.of h) g
theorem dp_newT (h : H a = some (.tup xs)) (g : DpAll K H xs ds) : Dp K H (.ref a) (.tuple ds) := .tup (.of h) g
end

/-! ### readings, step by step -/
def rB (x : V) (H : Hp) (Q : Bool → Hp → Prop) : Prop := ∃ k, x = .bl k ∧ Q k H
def rBV (x : V) (A : Bool → Prop) : Prop := ∃ c, x = .bl c ∧ A c
def rDG (x y : V) (H : Hp) (Q : VK) : Prop := ∃ a v, x = .ref a ∧ DGet H a y (some v) ∧ Q v H
def rDP (x y v : V) (H : Hp) (Q : Hp → Prop) : Prop := ∃ a H4, x = .ref a ∧ DPut H a y v H4 ∧ Q H4
def r2V (vs : List V) (A : V → V → Prop) : Prop := ∃ v w, vs = [v, w] ∧ A v w
def rNewT (xs : List V) (H : Hp) (Q : VK) : Prop := xs.length ≤ sizeLine ∧ ∀ p, H p = none → Q (.ref p) (upd H p (.tup xs))
def rNewL (xs : List V) (H : Hp) (Q : VK) : Prop := xs.length ≤ sizeLine ∧ ∀ p, H p = none → Q (.ref p) (upd H p (.lst xs))
def rPI (x : V) (A : Option Int → Prop) : Prop := ∃ i, x = .int i ∧ A (some i)
section
variable {K : PySem.W.Frag} {σ : L2.St} {H : Hp} {Q : VK} {D : Ends} {v x y z : V} {i : Nat} {ta tb tc te : TE} {t u : TS} {c : TT} {g : TG} {tn : TA} {r : R2}
theorem w_seq (h : t { D with nx := u D } σ H) : tSeq t u D σ H := h
theorem w_next (h : D.nx σ H) : tNext D σ H := h
theorem w_asg (h : te σ H fun x H1 => D.nx (σ.set i (some x)) H1) : tAsg te (gName i) D σ H := h
theorem w_asgG (h : te σ H fun x H1 => g x σ H1 D.nx) : tAsg te g D σ H := h
theorem w_drop (h : te σ H fun _ H1 => D.nx σ H1) : tDrop te D σ H := h
theorem w_ret (h : te σ H D.rt) : tRet te D σ H := h
theorem w_retN (h : D.rt .non H) : tRetN D σ H := h
theorem w_brk (h : D.bk σ H) : tBreak D σ H := h
theorem w_cont (h : D.ct σ H) : tCont D σ H := h
theorem w_ifS (h : c σ H fun b H1 => if b = true then t D σ H1 else u D σ H1) : tIfS c t u D σ H := h
theorem w_var (h : σ[i]? = some (some v)) (q : Q v H) : tVar i σ H Q := ⟨v, h, q⟩
theorem w_c (q : Q v H) : tC v σ H Q := q
theorem w_op (h : ta σ H fun x H1 => tb σ H1 fun y H2 => r x y H2 Q) : tOp r ta tb σ H Q := h
theorem w_un {r : V → Hp → VK → Prop} (h : ta σ H fun x H1 => r x H1 Q) : tUn r ta σ H Q := h
theorem w_rI0 {g : Int → Int → V} {i j : Int} (q : Q (g i j) H) : rI0 g (.int i) (.int j) H Q := ⟨i, j, rfl, rfl, q⟩
theorem w_rI {C : Int → Int → Prop} {g : Int → Int → V} {i j : Int} (hc : C i j) (q : Q (g i j) H) : rI C g (.int i) (.int j) H Q := ⟨i, j, rfl, rfl, hc, q⟩
theorem w_rU {g : Int → V} {i : Int} (q : Q (g i) H) : rU g (.int i) H Q := ⟨i, rfl, q⟩
theorem w_eqI {i j : Int} (q : Q (.bl (decide (i = j))) H) : rEq (.int i) (.int j) H Q := ⟨rfl, by
  rw [dec_int, show (i == j) = decide (i = j) from rfl]; exact q⟩
theorem w_neI {i j : Int} (q : Q (.bl (!decide (i = j))) H) : rNe (.int i) (.int j) H Q := ⟨rfl, by
  rw [dec_int, show (i == j) = decide (i = j) from rfl]; exact q⟩
theorem w_rEq (hs : scal x y = true) (q : Q (.bl (decide (x = y))) H) : rEq x y H Q := ⟨hs, q⟩
theorem w_rNe (hs : scal x y = true) (q : Q (.bl (!decide (x = y))) H) : rNe x y H Q := ⟨hs, q⟩
theorem w_tI (h : c σ H fun b H1 => if b = true then ta σ H1 Q else tb σ H1 Q) : tIf c ta tb σ H Q := h
theorem w_tTest {Q : Bool → Hp → Prop} (h : te σ H fun x H' => rB x H' Q) : tTest te σ H Q := h
theorem w_tB {Q : Bool → Hp → Prop} (h : te σ H fun x H' => rB x H' Q) : tB te σ H Q := h
theorem w_bl {b : Bool} {Q : Bool → Hp → Prop} (h : Q b H) : rB (.bl b) H Q := ⟨b, rfl, h⟩
theorem w_blV {b : Bool} {A : Bool → Prop} (h : A b) : rBV (.bl b) A := ⟨b, rfl, h⟩
theorem w_and {t u : TT} {Q : Bool → Hp → Prop} (h : t σ H fun c H1 => if c = true then u σ H1 Q else Q false H1) : tAnd t u σ H Q := h
theorem w_or {t u : TT} {Q : Bool → Hp → Prop} (h : t σ H fun c H1 => if c = true then Q true H1 else u σ H1 Q) : tOr t u σ H Q := h
theorem w_not {t : TT} {Q : Bool → Hp → Prop} (h : t σ H fun c H1 => Q (!c) H1) : tNot t σ H Q := h
theorem w_andV (h : ta σ H fun x H1 => rBV x fun c => if c = true then tb σ H1 Q else Q (.bl false) H1) : tAndV ta tb σ H Q := h
theorem w_orV (h : ta σ H fun x H1 => rBV x fun c => if c = true then Q (.bl true) H1 else tb σ H1 Q) : tOrV ta tb σ H Q := h
theorem w_notV (h : ta σ H fun x H1 => rBV x fun c => Q (.bl (!c)) H1) : tNotV ta σ H Q := h
theorem w_chain {r r' : R2} (h : ta σ H fun x H1 => tb σ H1 fun y H2 => r x y H2 fun z H3 => rBV z fun k => if k = true then tc σ H3 fun w' H4 => r' y w' H4 Q else Q (.bl false) H3) : tChain r r' ta tb tc σ H Q := h
theorem w_nil {Q : List V → Hp → Prop} (q : Q [] H) : tNil σ H Q := q
theorem w_cons {Q : List V → Hp → Prop} (h : ta σ H fun x H1 => tn σ H1 fun xs H2 => Q (x :: xs) H2) : tCons ta tn σ H Q := h
theorem w_call {sp : Sp} {dvs : List V} {E : XK} (h : tn σ H fun vs H1 => sp (vs ++ dvs) H1 Q E) : tCall sp dvs E tn σ H Q := h
theorem w_cb {r : List V → Hp → VK → Prop} (h : tn σ H fun vs H1 => r vs H1 Q) : tCB r tn σ H Q := h
theorem w_tup (h : tn σ H fun xs H1 => rNewT xs H1 Q) : tTup tn σ H Q := h
theorem w_lst (h : tn σ H fun xs H1 => rNewL xs H1 Q) : tLst tn σ H Q := h
theorem w_newT {xs : List V} {ds : List PyData} (hl : xs.length ≤ sizeLine) (hd : DpAll K H xs ds) (q : ∀ p H', H p = none → Same H H' → Dp K H' (.ref p) (.tuple ds) → Q (.ref p) H') :
    rNewT xs H Q :=
  ⟨hl, fun p hp => q p _ hp (same_new hp) (dp_newT upd_same (dpa_same (same_new hp) hd))⟩
theorem w_newL {xs : List V} {ds : List PyData} (hl : xs.length ≤ sizeLine) (hd : DpAll K H xs ds) (q : ∀ p H', H p = none → Same H H' → H' p = some (.lst xs) → Dp K H' (.ref p) (.list ds) → Q (.ref p) H') :
    rNewL xs H Q :=
  ⟨hl, fun p hp => q p _ hp (same_new hp) upd_same (dp_newL upd_same (dpa_same (same_new hp) hd))⟩
theorem w_ite {b : Bool} {A B : Prop} (h1 : b = true → A) (h2 : b = false → B) : if b = true then A else B := by
  cases b with
  | true => rw [if_pos rfl]; exact h1 rfl
  | false => rw [if_neg Bool.false_ne_true]; exact h2 rfl
theorem w_iteD {P : Prop} [Decidable P] {A B : Prop} (h1 : P → A) (h2 : ¬ P → B) : if decide P = true then A else B := by
  by_cases h : P
  · rw [if_pos (decide_eq_true h)]; exact h1 h
  · rw [if_neg (by simpa using h)]; exact h2 h
theorem w_iteND {P : Prop} [Decidable P] {A B : Prop} (h1 : ¬ P → A) (h2 : P → B) : if (!decide P) = true then A else B := by
  by_cases h : P
  · rw [decide_eq_true h]; simpa using h2 h
  · rw [decide_eq_false h]; simpa using h1 h
theorem w_iteT {A B : Prop} (h : A) : if true = true then A else B := by rw [if_pos rfl]; exact h
theorem w_iteNT {A B : Prop} (h : B) : if (!true) = true then A else B := by rw [Bool.not_true, if_neg Bool.false_ne_true]; exact h
theorem w_iteNF {A B : Prop} (h : A) : if (!false) = true then A else B := by rw [Bool.not_false, if_pos rfl]; exact h
theorem w_iteF {A B : Prop} (h : B) : if false = true then A else B := by rw [if_neg Bool.false_ne_true]; exact h
end
end Tw
namespace Tw
open PySem PySem.Spec PyProof.Rows L2
/-! ### rules by data -/
section
variable {X : Cx}
def rLen (K : PySem.W.Frag) : List V → Hp → VK → Prop := fun xs H Q => ∃ x n, xs = [x] ∧ LenV K x H n ∧ Q (.int n) H
theorem cl_len {K : PySem.W.Frag} (h : X.K = K := by rfl) : CallR X (.builtin "len") (rLen K) := h ▸ call_len
def rInt : List V → Hp → VK → Prop := fun xs H Q => (∃ i, xs = [.int i] ∧ Q (.int i) H) ∨ ∃ k, xs = [.bl k] ∧ Q (.int (if k then 1 else 0)) H
theorem cl_int : CallR X (.type "int") rInt := call_int1
def rStrI : List V → Hp → VK → Prop := fun xs H Q => ∃ i, xs = [.int i] ∧ i.natAbs.log2 < 1920 ∧ Q (.str (toString i)) H
theorem cl_strI : CallR X (.type "str") rStrI := call_str_int
def rTupOf (K : PySem.W.Frag) : List V → Hp → VK → Prop := fun xs H Q => ∃ p ys, xs = [.ref p] ∧ ((SqL K H p ys ∧ ∀ l, H l = none → Q (.ref l) (upd H l (.tup ys))) ∨ (SqT K H p ys ∧ Q (.ref p) H))
def rMax2 : List V → Hp → VK → Prop := fun xs H Q => ∃ i j, xs = [.int i, .int j] ∧ Q (.int (if j > i then j else i)) H
theorem cl_max2 (hc : X.calm = true) : CallR X (.builtin "max") rMax2 := call_max2 hc
def rMin2 : List V → Hp → VK → Prop := fun xs H Q => ∃ i j, xs = [.int i, .int j] ∧ Q (.int (if j < i then j else i)) H
theorem cl_min2 (hc : X.calm = true) : CallR X (.builtin "min") rMin2 := call_min2 hc
theorem pe_cint {x : Str} {pos : Pos} {i : Int} {t : Tok} (hg : Gl X x) (hm : X.mg x = some (.int i t)) (hd : (x == ("__debug__" : Str)) = false := by decide) : PE X (.Name x pos) (tC (.int i)) := pe_glob hg hm (show RelV (.int i) _ from ⟨t, rfl⟩) hd
theorem cl_tup {K : PySem.W.Frag} (h : X.K = K := by rfl) : CallR X (.type "tuple") (rTupOf K) := h ▸ call_tuple_of
def rLstOf (K : PySem.W.Frag) : List V → Hp → VK → Prop := fun xs H Q => ∃ p ys, xs = [.ref p] ∧ (SqL K H p ys ∨ SqT K H p ys) ∧ ∀ l, H l = none → Q (.ref l) (upd H l (.lst ys))
theorem cl_lst {K : PySem.W.Frag} (h : X.K = K := by rfl) : CallR X (.type "list") (rLstOf K) := h ▸ call_list_of
theorem ix_listK {K : PySem.W.Frag} (h : X.K = K := by rfl) : IxR X (rIxL K) := h ▸ ix_list
theorem ix_tupK {K : PySem.W.Frag} (h : X.K = K := by rfl) : IxR X (rIxT K) := h ▸ ix_tup
theorem op_eqK {K : PySem.W.Frag} (hu : X.A.units + 64 < cLine) (h : X.K = K := by rfl) : OpR X (compareOp .Eq) (rEqD K) := h ▸ op_eqD hu
theorem op_neK {K : PySem.W.Frag} (hu : X.A.units + 64 < cLine) (h : X.K = K := by rfl) : OpR X (compareOp .NotEq) (rNeD K) := h ▸ op_neD hu
theorem sl_listK {K : PySem.W.Frag} (h : X.K = K := by rfl) : SlR X (rSlL K) := h ▸ sl_list
theorem pi_listK {K : PySem.W.Frag} {tg l : Expr} {tl : TE} (hl : PE X l tl) (h : X.K = K := by rfl) : PI X tg l (iList K tl) := h ▸ pi_list hl
theorem pi_tupK {K : PySem.W.Frag} {tg l : Expr} {tl : TE} (hl : PE X l tl) (h : X.K = K := by rfl) : PI X tg l (iTup K tl) := h ▸ pi_tup hl
def rAddStr : R2 := fun x y H Q => ∃ i j, x = .str i ∧ y = .str j ∧ i.length + j.length ≤ sizeLine ∧ Q (.str (i ++ j)) H
theorem op_addS : OpR X (binaryOp .Add) rAddStr := op_add_str
theorem op_catL : OpR X (binaryOp .Add) rCat := op_cat
def rJoin (K : PySem.W.Frag) : V → List V → Hp → VK → Prop := fun x xs H Q => ∃ a p, ∃ ys : List Str, x = .str a ∧ xs = [.ref p] ∧ (SqL K H p (ys.map V.str) ∨ SqT K H p (ys.map V.str)) ∧ (ys.map (·.length)).sum + ys.length * a.length ≤ 16777216 ∧ Q (.str (Txt.join a ys)) H
def tTru (K : PySem.W.Frag) (ta : TE) : TT := fun σ H Q => ta σ H fun x H' => ∃ k, TruV K x H' k ∧ Q k H'
theorem pt_tru {K : PySem.W.Frag} {a : Expr} {ta : TE} (ha : PE X a ta) (he : ∀ whole, isTrue a X.env whole = (do let v ← whole; standAt a.pos; holding [v] (truthy v))) (h : X.K = K := by rfl) : PT X a (tTru K ta) := h ▸ pt_truth ha he
end
end Tw

namespace Tw
open PySem PySem.Spec PyProof.Rows L2
section
variable {X : Cx}
theorem pe_joinD {K : PySem.W.Frag} {o e : Expr} {to te : TE} {apos pos : Pos} (ho : PE X o to) (he : PE X e te) (h : X.K = K := by rfl) (hs : starEach [e] X.env = [(false, eval e X.env)] := by rfl) (hbase : attributeBase o "join" X.env (eval o X.env) = eval o X.env := by rfl) (hline : (apos.endLine == pos.line) = true := by rfl) :
    PE X (.Call (.Attribute o "join" apos) [e] [] pos) (tM1 (rJoin K) to te) := h ▸ pe_join ho he hs hbase hline
end
section
variable {K : PySem.W.Frag} {σ : L2.St} {H : Hp} {Q : VK} {D : Ends} {v x y z : V} {d e : PyData} {ds es : List PyData} {i : Nat} {to ta tb tc te : TE} {t u : TS} {tn : TA}
theorem w_lenL (h : Dp K H v (.list ds)) (q : Q (.int (ds.length : Int)) H) : rLen K [v] H Q := by
  obtain ⟨a, xs, rfl, hs, ha⟩ := dp_lst h
  exact ⟨.ref a, ds.length, rfl, .inl ⟨xs, hs, (dpa_len ha).symm⟩, q⟩
theorem w_lenT (h : Dp K H v (.tuple ds)) (q : Q (.int (ds.length : Int)) H) : rLen K [v] H Q := by
  obtain ⟨a, xs, rfl, hs, ha⟩ := dp_tup h
  exact ⟨.ref a, ds.length, rfl, .inr ⟨xs, hs, (dpa_len ha).symm⟩, q⟩
theorem w_lenS {x : Str} (h : x.length ≤ sizeLine) (q : Q (.int (x.length : Int)) H) : rLen K [.str x] H Q := ⟨.str x, x.length, rfl, ⟨h, rfl⟩, q⟩
theorem w_int {n : Int} (q : Q (.int n) H) : rInt [.int n] H Q := .inl ⟨n, rfl, q⟩
theorem w_strI {n : Int} (h : n.natAbs.log2 < 1920) (q : Q (.str (toString n)) H) : rStrI [.int n] H Q := ⟨n, rfl, h, q⟩
theorem w_max2 {i j : Int} (q : ∀ r, r = max i j → Q (.int r) H) : rMax2 [.int i, .int j] H Q := ⟨i, j, rfl, q _ (by split <;> omega)⟩
theorem w_min2 {i j : Int} (q : ∀ r, r = min i j → Q (.int r) H) : rMin2 [.int i, .int j] H Q := ⟨i, j, rfl, q _ (by split <;> omega)⟩
theorem w_tupOf (h : Dp K H v (.list ds)) (q : ∀ p H', H p = none → Same H H' → Dp K H' (.ref p) (.tuple ds) → Q (.ref p) H') : rTupOf K [v] H Q := by
  obtain ⟨a, xs, rfl, hs, ha⟩ := dp_lst h
  exact ⟨a, xs, rfl, .inl ⟨hs, fun l hl => q l _ hl (same_new hl) (dp_newT upd_same (dpa_same (same_new hl) ha))⟩⟩
theorem w_tupOfT (h : Dp K H v (.tuple ds)) (q : ∀ v, Dp K H v (.tuple ds) → Q v H) : rTupOf K [v] H Q := by
  obtain ⟨a, xs, rfl, hs, ha⟩ := dp_tup h
  exact ⟨a, xs, rfl, .inr ⟨hs, q _ h⟩⟩
theorem w_lstOfT (h : Dp K H v (.tuple ds)) (q : ∀ p H' xs, H p = none → Same H H' → H' p = some (.lst xs) → Dp K H' (.ref p) (.list ds) → Q (.ref p) H') : rLstOf K [v] H Q := by
  obtain ⟨a, xs, rfl, hs, ha⟩ := dp_tup h
  exact ⟨a, xs, rfl, .inr hs, fun l hl => q l _ xs hl (same_new hl) upd_same (dp_newL upd_same (dpa_same (same_new hl) ha))⟩
theorem w_lstOfL (h : Dp K H v (.list ds)) (q : ∀ p H' xs, H p = none → Same H H' → H' p = some (.lst xs) → Dp K H' (.ref p) (.list ds) → Q (.ref p) H') : rLstOf K [v] H Q := by
  obtain ⟨a, xs, rfl, hs, ha⟩ := dp_lst h
  exact ⟨a, xs, rfl, .inl hs, fun l hl => q l _ xs hl (same_new hl) upd_same (dp_newL upd_same (dpa_same (same_new hl) ha))⟩
theorem w_addS {x y : Str} (h : x.length + y.length ≤ sizeLine) (q : Q (.str (x ++ y)) H) : rAddStr (.str x) (.str y) H Q := ⟨x, y, rfl, rfl, h, q⟩
/-- an item by a place that is known to be a number -/
theorem w_ixL {n : Int} {j : Nat} (h : Dp K H v (.list ds)) (hn : n = (j : Int)) (hd : ds[j]? = some d) (q : ∀ v', Dp K H v' d → Q v' H) : rIxL K v (.int n) H Q := by
  obtain ⟨a, xs, rfl, hs, ha⟩ := dp_lst h
  obtain ⟨v', e1, e2⟩ := dpa_get ha hd
  exact ⟨a, xs, n, v', rfl, rfl, hs, at_of hn e1, q v' e2⟩
theorem w_ixT {n : Int} {j : Nat} (h : Dp K H v (.tuple ds)) (hn : n = (j : Int)) (hd : ds[j]? = some d) (q : ∀ v', Dp K H v' d → Q v' H) : rIxT K v (.int n) H Q := by
  obtain ⟨a, xs, rfl, hs, ha⟩ := dp_tup h
  obtain ⟨v', e1, e2⟩ := dpa_get ha hd
  exact ⟨a, xs, n, v', rfl, rfl, hs, at_of hn e1, q v' e2⟩
theorem w_ixLI {n : Int} {ns : List Int} (h : Dp K H v (.list (ns.map PyData.int))) (h0 : 0 ≤ n) (h1 : n < (ns.length : Int)) (q : ∀ z, ns[n.toNat]? = some z → Q (.int z) H) : rIxL K v (.int n) H Q := by
  have hl : n.toNat < ns.length := by omega
  refine w_ixL (j := n.toNat) (d := .int ns[n.toNat]) h (by omega) (by simp [hl]) fun v' hv => ?_
  cases hv
  exact q _ (List.getElem?_eq_getElem hl)
theorem w_ixTI {n : Int} {ns : List Int} (h : Dp K H v (.tuple (ns.map PyData.int))) (h0 : 0 ≤ n) (h1 : n < (ns.length : Int)) (q : ∀ z, ns[n.toNat]? = some z → Q (.int z) H) : rIxT K v (.int n) H Q := by
  have hl : n.toNat < ns.length := by omega
  refine w_ixT (j := n.toNat) (d := .int ns[n.toNat]) h (by omega) (by simp [hl]) fun v' hv => ?_
  cases hv
  exact q _ (List.getElem?_eq_getElem hl)
theorem w_ixLast (h : Dp K H v (.list ds)) (hd : ds.getLast? = some d) (q : ∀ v', Dp K H v' d → Q v' H) : rIxL K v (.int (-1)) H Q := by
  obtain ⟨a, xs, rfl, hs, ha⟩ := dp_lst h
  rw [List.getLast?_eq_getElem?] at hd
  obtain ⟨v', e1, e2⟩ := dpa_get ha hd
  have hne : xs ≠ [] := fun z => by subst z; simp at e1
  have hx : xs = xs.dropLast ++ [xs.getLast hne] := (List.dropLast_concat_getLast hne).symm
  have e3 : v' = xs.getLast hne := by
    rw [← dpa_len ha, ← List.getLast?_eq_getElem?, List.getLast?_eq_getLast hne] at e1
    exact (Option.some.inj e1).symm
  refine ⟨a, xs, -1, v', rfl, rfl, hs, ?_, q v' e2⟩
  rw [hx, e3]; exact atI_last _ _
theorem w_ixLastT (h : Dp K H v (.tuple ds)) (hd : ds.getLast? = some d) (q : ∀ v', Dp K H v' d → Q v' H) : rIxT K v (.int (-1)) H Q := by
  obtain ⟨a, xs, rfl, hs, ha⟩ := dp_tup h
  rw [List.getLast?_eq_getElem?] at hd
  obtain ⟨v', e1, e2⟩ := dpa_get ha hd
  have hne : xs ≠ [] := fun z => by subst z; simp at e1
  have hx : xs = xs.dropLast ++ [xs.getLast hne] := (List.dropLast_concat_getLast hne).symm
  have e3 : v' = xs.getLast hne := by
    rw [← dpa_len ha, ← List.getLast?_eq_getElem?, List.getLast?_eq_getLast hne] at e1
    exact (Option.some.inj e1).symm
  refine ⟨a, xs, -1, v', rfl, rfl, hs, ?_, q v' e2⟩
  rw [hx, e3]; exact atI_last _ _
theorem w_ixS {s : Str} {n : Int} {j c : Nat} (hz : s.length ≤ sizeLine) (hn : n = (j : Int)) (hd : s.cps.toList[j]? = some c) (q : Q (.str ⟨#[c]⟩) H) : rIxS (.str s) (.int n) H Q :=
  ⟨s, n, c, rfl, rfl, hz, by rw [hn]; exact atI_nat hd, q⟩
theorem w_tIsN (q : Q (.bl (decide (x = .non))) H) : rIsN x .non H Q := ⟨rfl, q⟩
theorem w_tNotN (q : Q (.bl (!decide (x = .non))) H) : rNotN x .non H Q := ⟨rfl, q⟩
theorem w_bm {T : String} {r : V → List V → Hp → VK → Prop} (h : to σ H fun x H1 => tyV K T x H1 ∧ tn σ H1 fun xs H2 => r x xs H2 Q) : tBM K T r to tn σ H Q := h
theorem w_bm0 {T : String} {r : V → List V → Hp → VK → Prop} (h : to σ H fun x H1 => tyV K T x H1 ∧ r x [] H1 Q) : tBM0 K T r to σ H Q := h
theorem w_m1 {r : V → List V → Hp → VK → Prop} (h : to σ H fun x H1 => (∃ a, x = .str a) ∧ te σ H1 fun y H2 => r x [y] H2 Q) : tM1 r to te σ H Q := h
theorem w_isStr {s : Str} {A : Prop} (h : A) : (∃ a, V.str s = .str a) ∧ A := ⟨⟨s, rfl⟩, h⟩
theorem w_append {l : Addr} {xs : List V} (h : H l = some (.lst xs)) (hz : xs.length < sizeLine) (q : Q .non (upd H l (.lst (xs ++ [y])))) : rAppend (.ref l) [y] H Q := ⟨l, xs, y, rfl, rfl, h, hz, q⟩
theorem w_tyL {a : Addr} {xs : List V} {A : Prop} (h : H a = some (.lst xs)) (q : A) : tyV K "list" (.ref a) H ∧ A := ⟨.inl ⟨rfl, xs, .of h⟩, q⟩
theorem w_tyS {s : Str} {A : Prop} (q : A) : tyV K "str" (.str s) H ∧ A := ⟨rfl, q⟩
theorem w_join {s : Str} {ys : List Str} (h : Dp K H v (.list (ys.map PyData.str))) (hz : (ys.map (·.length)).sum + ys.length * s.length ≤ 16777216) (q : Q (.str (Txt.join s ys)) H) : rJoin K (.str s) [v] H Q := by
  obtain ⟨a, xs, rfl, hs, ha⟩ := dp_lst h
  rw [dpa_strs_inv ha] at hs
  exact ⟨s, a, ys, rfl, rfl, .inl hs, hz, q⟩
/-- a new list out of two -/
theorem w_catL {a b : Addr} {xs zs : List V} (h : H a = some (.lst xs)) (h' : H b = some (.lst zs)) (hz : xs.length + zs.length ≤ sizeLine) (q : ∀ p H', H p = none → Same H H' → H' p = some (.lst (xs ++ zs)) → Q (.ref p) H') : rCat (.ref a) (.ref b) H Q :=
  ⟨a, b, xs, zs, rfl, rfl, h, h', hz, fun p hp => q p _ hp (same_new hp) upd_same⟩
theorem w_dget {td ty : TE} (h : td σ H fun x H1 => ty σ H1 fun y H2 => rDG x y H2 Q) : tDGet td ty σ H Q := h
theorem w_dgS {k : Str} {kvs : List (Key × V)} {m : Addr} (h : H m = some (.dK kvs)) (e : valV kvs (.inr k) = some v) (q : Q v H) : rDG (.ref m) (.str k) H Q :=
  ⟨m, v, rfl, by rw [← e]; exact DGet.k (k := .inr k) h, q⟩
theorem w_dpS {k : Str} {kvs kvs' : List (Key × V)} {m : Addr} (h : H m = some (.dK kvs)) (e : putK kvs (.inr k) v = kvs') (hl : kvs.length < sizeLine) {Q : Hp → Prop} (q : ∀ H', Keep H H' → H' m = some (.dK kvs') → Q H') : rDP (.ref m) (.str k) v H Q := by
  subst e
  exact ⟨m, _, rfl, DPut.k (k := .inr k) h hl, q _ (keep_dict h) upd_same⟩
theorem w_dput {td ty tv : TE} (h : tv σ H fun v H1 => td σ H1 fun x H2 => ty σ H2 fun y H3 => rDP x y v H3 (D.nx σ)) : sDPut td ty tv D σ H := h
theorem w_par {a b : Nat} {ta : TA} (h : ta σ H fun vs H1 => r2V vs fun v w => D.nx ((σ.set a (some v)).set b (some w)) H1) : tPar a b ta D σ H := h
theorem w_par2 {v w : V} {A : V → V → Prop} (h : A v w) : r2V [v, w] A := ⟨v, w, rfl, h⟩
def r3V (vs : List V) (A : V → V → V → Prop) : Prop := ∃ u v w, vs = [u, v, w] ∧ A u v w
theorem w_par3 {a b c : Nat} {ta : TA} (h : ta σ H fun vs H1 => r3V vs fun u v w => D.nx (((σ.set a (some u)).set b (some v)).set c (some w)) H1) : tPar3 a b c ta D σ H := h
theorem w_par33 {u v w : V} {A : V → V → V → Prop} (h : A u v w) : r3V [u, v, w] A := ⟨u, v, w, rfl, h⟩
theorem w_eqB {a b : Bool} (q1 : a = b → Q (.bl true) H) (q2 : a ≠ b → Q (.bl false) H) : rEq (.bl a) (.bl b) H Q := ⟨rfl, by
  by_cases h : a = b
  · subst h; rw [decide_eq_true rfl]; exact q1 rfl
  · rw [decide_eq_false (fun z => h (V.bl.inj z))]; exact q2 h⟩
theorem w_neB {a b : Bool} (q1 : a = b → Q (.bl false) H) (q2 : a ≠ b → Q (.bl true) H) : rNe (.bl a) (.bl b) H Q := ⟨rfl, by
  by_cases h : a = b
  · subst h; rw [decide_eq_true rfl]; exact q1 rfl
  · rw [decide_eq_false (fun z => h (V.bl.inj z))]; exact q2 h⟩
theorem w_aug {te : TE} {ti : TIp} (h : σ[i]? = some (some x)) (q : te σ H fun y H1 => ti x y H1 fun z H2 => D.nx (σ.set i (some z)) H2) : tAug i te ti D σ H := ⟨x, h, q⟩
theorem w_gTup {n : Nat} {tg : TGs} {Q : L2.St → Hp → Prop} {a : Addr} {xs : List V} (hs : SqT K H a xs) (hn : xs.length = n) (q : tg xs σ H Q) : gTup K n tg (.ref a) σ H Q := ⟨a, xs, rfl, hs, hn, q⟩
theorem w_gTup2 {i j : Nat} {Q : L2.St → Hp → Prop} {d e : PyData} (h : Dp K H v (.tuple [d, e])) (q : ∀ v1 v2, Dp K H v1 d → Dp K H v2 e → Q ((σ.set i (some v1)).set j (some v2)) H) : gTup K 2 (gCons (gName i) (gCons (gName j) gNil)) v σ H Q := by
  obtain ⟨a, xs, rfl, hs, ha⟩ := dp_tup h
  cases ha with
  | cons h1 h2 => cases h2 with
    | cons h3 h4 => cases h4; exact ⟨a, _, rfl, hs, rfl, _, _, rfl, _, _, rfl, rfl, q _ _ h1 h3⟩
theorem w_slice {r : V → Option Int → Option Int → Hp → VK → Prop} {tl th : TO} (h : te σ H fun x H1 => tl σ H1 fun l H2 => th σ H2 fun u H3 => r x l u H3 Q) : tSl r te tl th σ H Q := h
theorem w_noPart {Q : Option Int → Hp → Prop} (h : Q none H) : tNoPart σ H Q := h
theorem w_part {Q : Option Int → Hp → Prop} (h : te σ H fun x H1 => rPI x fun o => Q o H1) : tPart te σ H Q := h
theorem w_pint {n : Int} {A : Option Int → Prop} (h : A (some n)) : rPI (.int n) A := ⟨n, rfl, h⟩
theorem w_slL {lo hi : Option Int} {ds' : List PyData} (h : Dp K H v (.list ds)) (hc : ∀ xs, xs.length = ds.length → DpAll K H xs ds → DpAll K H (cutV xs lo hi) ds') (q : ∀ p H' xs, H p = none → Same H H' → H' p = some (.lst xs) → Dp K H' (.ref p) (.list ds') → Q (.ref p) H') : rSlL K v lo hi H Q := by
  obtain ⟨a, xs, rfl, hs, ha⟩ := dp_lst h
  exact ⟨a, xs, rfl, hs, fun p hp => q p _ _ hp (same_new hp) upd_same (dp_newL upd_same (dpa_same (same_new hp) (hc xs (dpa_len ha) ha)))⟩
end
/-- a text's signs, a text of signs -/
theorem wideX {i j : Int} {a b : Nat} (ha : i.natAbs < 2 ^ a) (hb : j.natAbs < 2 ^ b) (h : a + b ≤ 134217728) : CMulX i j := mulx_ok ha hb h
theorem mulS {i j : Int} (ha : -(2 ^ 250) < i ∧ i < 2 ^ 250) (hb : -(2 ^ 250) < j ∧ j < 2 ^ 250) : CMulX i j := mulx_ok (a := 250) (b := 250) (by omega) (by omega) (by decide)
theorem divS {i j : Int} (h : 0 < j ∧ j < 2 ^ 250) : CDivW i j := wide_div (b := 250) h.1 (by omega) (by decide) (by decide)
end Tw
namespace Tw
open PySem PySem.Spec PyProof.Rows L2
def rMod : R2 := rI (fun _ j => 0 < j) fun i j => .int (i % j)
theorem op_modD {X : Cx} : OpR X (binaryOp .Mod) rMod := op_mod
theorem w_rMod {H : Hp} {Q : VK} {i j : Int} (hc : 0 < j) (q : Q (.int (i % j)) H) : rMod (.int i) (.int j) H Q := ⟨i, j, rfl, rfl, hc, q⟩
/-- the rest as a letter -/
theorem w_rModA {H : Hp} {Q : VK} {i j : Int} (hc : 0 < j) (q : ∀ r, r = i % j → 0 ≤ r → r < j → Q (.int r) H) : rMod (.int i) (.int j) H Q :=
  ⟨i, j, rfl, rfl, hc, q _ rfl (Int.emod_nonneg _ (by omega)) (Int.emod_lt_of_pos _ hc)⟩
theorem w_rModB {H : Hp} {Q : VK} {i j : Int} (hc : 0 < j) (q : ∀ r, 0 ≤ r → r < j → Q (.int r) H) : rMod (.int i) (.int j) H Q :=
  w_rModA hc fun r _ => q r
def rWB (W : Nat → L2.St → Hp → Prop) (m : Nat) (tb : TS) (D : Ends) (σ : L2.St) (H1 : Hp) : Prop := ∃ N : L2.St → Hp → Prop, (∀ σ' H', N σ' H' → ∃ m', m' < m ∧ W m' σ' H') ∧ tb { D with nx := N, ct := N, bk := D.nx } σ H1
theorem w_wb {W : Nat → L2.St → Hp → Prop} {m : Nat} {tb : TS} {D : Ends} {σ : L2.St} {H1 : Hp} (h : tb { D with nx := fun σ' H' => ∃ m', m' < m ∧ W m' σ' H', ct := fun σ' H' => ∃ m', m' < m ∧ W m' σ' H', bk := D.nx } σ H1) : rWB W m tb D σ H1 :=
  ⟨_, fun _ _ h => h, h⟩
theorem whl_by {c : TT} {tb : TS} {D : Ends} {σ : L2.St} {H : Hp} (W : Nat → L2.St → Hp → Prop) (m0 : Nat) (h0 : W m0 σ H) (hs : ∀ m σ H, W m σ H → c σ H fun b H1 => if b = true then rWB W m tb D σ H1 else D.nx σ H1) : tWhile c tb D σ H :=
  ⟨W, ⟨m0, h0⟩, hs⟩
/-- two ways of an expression meet behind it -/
theorem w_meet {t : TE} {σ : L2.St} {H : Hp} {Q : VK} (Pm : V → Hp → Prop) (h : ∀ Q' : VK, (∀ v H', Pm v H' → Q' v H') → t σ H Q') (k : ∀ v H', Pm v H' → Q v H') : t σ H Q := h Q k
/-- .. of a statement -/
theorem w_meetS {t : TS} {D : Ends} {σ : L2.St} {H : Hp} (Pm : L2.St → Hp → Prop) (h : ∀ nx' : L2.St → Hp → Prop, (∀ σ' H', Pm σ' H' → nx' σ' H') → t { D with nx := nx' } σ H) (k : ∀ σ' H', Pm σ' H' → D.nx σ' H') : t D σ H := h D.nx k
theorem cxK {CX : CXT} {P : Program} {w : World} {K : PySem.W.Frag} {mg : Str → Option Value} {base : Heap} {N : List Str} {qual : Str} {scope : Scope} {f : Addr} {cd : Value} {A : Around} {outer : List Env} {s : Shared} {H : Hp} {E : XK} :
    (cxOf CX P w K mg base N qual scope f cd A outer s H E).nox.K = K := rfl
end Tw
namespace Tw
open PySem PySem.Spec PyProof.Rows L2
/-! ### slices, for -/
def cutD {α : Type} (ds : List α) (lo hi : Option Int) : List α := (ds.drop (HT.sIx ds.length 0 lo)).take (HT.sIx ds.length ds.length hi - HT.sIx ds.length 0 lo)
theorem cutD_len {α : Type} (ds : List α) (lo hi : Option Int) : (cutD ds lo hi).length ≤ ds.length := by
  unfold cutD; rw [List.length_take, List.length_drop]; omega
theorem cutD_map {α β : Type} (f : α → β) (ds : List α) (lo hi : Option Int) : cutD (ds.map f) lo hi = (cutD ds lo hi).map f := by
  unfold cutD; rw [List.length_map, List.map_take, List.map_drop]
theorem cutD_from {α : Type} (ds : List α) {k : Int} (h : 0 ≤ k) : cutD ds (some k) none = ds.drop k.toNat := by
  obtain ⟨n, rfl⟩ := Int.eq_ofNat_of_zero_le h
  unfold cutD
  rw [show HT.sIx ds.length 0 (some (n : Int)) = min n ds.length from HT.sIx_nat _ _ _, HT.sIx_none, Int.toNat_natCast]
  by_cases hn : n ≤ ds.length
  · rw [Nat.min_eq_left hn, List.take_of_length_le (by rw [List.length_drop]; omega)]
  · rw [Nat.min_eq_right (by omega), List.drop_eq_nil_of_le (Nat.le_refl _), List.drop_eq_nil_of_le (by omega)]
    simp
theorem cutD_to {α : Type} (ds : List α) {k : Int} (h : 0 ≤ k) : cutD ds none (some k) = ds.take k.toNat := by
  obtain ⟨n, rfl⟩ := Int.eq_ofNat_of_zero_le h
  unfold cutD
  rw [show HT.sIx ds.length ds.length (some (n : Int)) = min n ds.length from HT.sIx_nat _ _ _, HT.sIx_none, Int.toNat_natCast, Nat.sub_zero, List.drop_zero]
  by_cases hn : n ≤ ds.length
  · rw [Nat.min_eq_left hn]
  · rw [Nat.min_eq_right (by omega), List.take_length, List.take_of_length_le (by omega)]
theorem cutD_both {α : Type} (ds : List α) {a b : Int} (h : 0 ≤ a) (h2 : 0 ≤ b) : cutD ds (some a) (some b) = (ds.take b.toNat).drop a.toNat := by
  obtain ⟨n, rfl⟩ := Int.eq_ofNat_of_zero_le h
  obtain ⟨k, rfl⟩ := Int.eq_ofNat_of_zero_le h2
  unfold cutD
  rw [show HT.sIx ds.length 0 (some (n : Int)) = min n ds.length from HT.sIx_nat _ _ _, show HT.sIx ds.length ds.length (some (k : Int)) = min k ds.length from HT.sIx_nat _ _ _, Int.toNat_natCast, Int.toNat_natCast, ← List.drop_take]
  have e1 : List.take (min k ds.length) ds = List.take k ds := by
    by_cases hk : k ≤ ds.length
    · rw [Nat.min_eq_left hk]
    · rw [Nat.min_eq_right (show ds.length ≤ k by omega), List.take_length, List.take_of_length_le (show ds.length ≤ k by omega)]
  rw [e1]
  by_cases hn : n ≤ ds.length
  · rw [Nat.min_eq_left hn]
  · rw [Nat.min_eq_right (show ds.length ≤ n by omega), List.drop_eq_nil_of_le (by rw [List.length_take]; omega), List.drop_eq_nil_of_le (by rw [List.length_take]; omega)]
theorem cutD_butlast {α : Type} (ds : List α) : cutD ds none (some (-1)) = ds.dropLast := by
  unfold cutD
  rw [HT.sIx_none]
  show (List.drop 0 ds).take ((if (-1 : Int) < 0 then ((-1 : Int) + (ds.length : Int)).toNat else min (-1 : Int).toNat ds.length) - 0) = _
  rw [if_pos (by decide), List.drop_zero, List.dropLast_eq_take]
  congr 1
  omega
theorem cutV_D (xs : List V) (lo hi : Option Int) : cutV xs lo hi = cutD xs lo hi := rfl
section
variable {K : PySem.W.Frag} {σ : L2.St} {H : Hp} {Q : VK} {D : Ends} {v x y z : V} {d e : PyData} {ds es : List PyData} {tl te : TE} {ta : TA} {tb : TS} {g : TG} {lo hi : Option Int}
theorem dpa_cut {vs : List V} (h : DpAll K H vs ds) : DpAll K H (cutD vs lo hi) (cutD ds lo hi) := by
  unfold cutD
  rw [dpa_len h]
  exact dpa_take _ (dpa_drop _ h)
theorem w_slD (h : Dp K H v (.list ds)) (q : ∀ p H' xs, H p = none → Same H H' → H' p = some (.lst xs) → Dp K H' (.ref p) (.list (cutD ds lo hi)) → Q (.ref p) H') : rSlL K v lo hi H Q := by
  obtain ⟨a, xs, rfl, hs, ha⟩ := dp_lst h
  exact ⟨a, xs, rfl, hs, fun p hp => q p _ _ hp (same_new hp) upd_same (dp_newL upd_same (dpa_same (same_new hp) (dpa_cut ha)))⟩
theorem w_slV {a : Addr} {xs : List V} (h : SqL K H a xs) (q : ∀ p H', H p = none → Same H H' → H' p = some (.lst (cutD xs lo hi)) → Q (.ref p) H') : rSlL K (.ref a) lo hi H Q :=
  ⟨a, xs, rfl, h, fun p hp => q p _ hp (same_new hp) upd_same⟩
theorem w_slT (h : Dp K H v (.tuple ds)) (q : ∀ p H', Same H H' → Dp K H' (.ref p) (.tuple (cutD ds lo hi)) → Q (.ref p) H') (hne : ¬ (HT.sIx ds.length 0 lo = 0 ∧ HT.sIx ds.length ds.length hi = ds.length)) : ∃ a xs, v = .ref a ∧ SqT K H a xs := by
  obtain ⟨a, xs, rfl, hs, ha⟩ := dp_tup h
  exact ⟨a, xs, rfl, hs⟩
/-- strings -/
theorem w_slS {s : Str} (hz : s.length ≤ sizeLine) (q : Q (.str ⟨(cutD s.cps.toList lo hi).toArray⟩) H) : rSlS (.str s) lo hi H Q := ⟨s, rfl, hz, q⟩
def rForL (K : PySem.W.Frag) (g : TG) (tb : TS) (D : Ends) (σ : L2.St) (x : V) (H1 : Hp) : Prop := ∃ a, x = .ref a ∧ (∃ xs, SqL K H1 a xs) ∧ ∃ W : Nat → Nat → L2.St → Hp → Prop, (∃ m, W 0 m σ H1) ∧ ∀ i m σ H, W i m σ H →
  ((Itl K a).stop i H ∧ D.nx σ H) ∨ ((Itl K a).go i H ∧ ∃ N : L2.St → Hp → Prop, (∀ σ' H', N σ' H' → ∃ m', m' < m ∧ W (i + 1) m' σ' H') ∧ ∀ x H', (Itl K a).yld i H x H' → g x σ H' fun σ2 H2 => tb { D with nx := N, ct := N, bk := D.nx } σ2 H2)
theorem w_forL (h : tl σ H fun x H1 => rForL K g tb D σ x H1) : tFor (iList K tl) g tb D σ H := h
def rForT (K : PySem.W.Frag) (g : TG) (tb : TS) (D : Ends) (σ : L2.St) (x : V) (H1 : Hp) : Prop := ∃ a, x = .ref a ∧ (∃ xs, SqT K H1 a xs) ∧ ∃ W : Nat → Nat → L2.St → Hp → Prop, (∃ m, W 0 m σ H1) ∧ ∀ i m σ H, W i m σ H →
  ((Itt K a).stop i H ∧ D.nx σ H) ∨ ((Itt K a).go i H ∧ ∃ N : L2.St → Hp → Prop, (∀ σ' H', N σ' H' → ∃ m', m' < m ∧ W (i + 1) m' σ' H') ∧ ∀ x H', (Itt K a).yld i H x H' → g x σ H' fun σ2 H2 => tb { D with nx := N, ct := N, bk := D.nx } σ2 H2)
theorem w_forT (h : tl σ H fun x H1 => rForT K g tb D σ x H1) : tFor (iTup K tl) g tb D σ H := h
def rForR (g : TG) (tb : TS) (D : Ends) (σ : L2.St) (lo : Int) (n : Nat) (H1 : Hp) : Prop := ∃ W : Nat → Nat → L2.St → Hp → Prop, (∃ m, W 0 m σ H1) ∧ ∀ i m σ H, W i m σ H →
  ((Itr lo n).stop i H ∧ D.nx σ H) ∨ ((Itr lo n).go i H ∧ ∃ N : L2.St → Hp → Prop, (∀ σ' H', N σ' H' → ∃ m', m' < m ∧ W (i + 1) m' σ' H') ∧ ∀ x H', (Itr lo n).yld i H x H' → g x σ H' fun σ2 H2 => tb { D with nx := N, ct := N, bk := D.nx } σ2 H2)
def rForR1 (g : TG) (tb : TS) (D : Ends) (σ : L2.St) (vs : List V) (H1 : Hp) : Prop := ∃ j : Int, vs = [.int j] ∧ -(2 ^ 62) ≤ j ∧ j < 2 ^ 62 ∧ rForR g tb D σ 0 j.toNat H1
def rForR2 (g : TG) (tb : TS) (D : Ends) (σ : L2.St) (vs : List V) (H1 : Hp) : Prop := ∃ i j : Int, vs = [.int i, .int j] ∧ (-(2 ^ 62) ≤ i ∧ i < 2 ^ 62 ∧ -(2 ^ 62) ≤ j ∧ j < 2 ^ 62) ∧ rForR g tb D σ i (j - i).toNat H1
theorem w_forR1 (h : ta σ H fun vs H1 => rForR1 g tb D σ vs H1) : tFor (iRng1 ta) g tb D σ H := h
theorem w_forR2 (h : ta σ H fun vs H1 => rForR2 g tb D σ vs H1) : tFor (iRng2 ta) g tb D σ H := h
def rForS (g : TG) (tb : TS) (D : Ends) (σ : L2.St) (v : V) (H1 : Hp) : Prop := ∃ x, v = .str x ∧ ∃ W : Nat → Nat → L2.St → Hp → Prop, (∃ m, W 0 m σ H1) ∧ ∀ i m σ H, W i m σ H →
  ((Its x).stop i H ∧ D.nx σ H) ∨ ((Its x).go i H ∧ ∃ N : L2.St → Hp → Prop, (∀ σ' H', N σ' H' → ∃ m', m' < m ∧ W (i + 1) m' σ' H') ∧ ∀ x' H', (Its x).yld i H x' H' → g x' σ H' fun σ2 H2 => tb { D with nx := N, ct := N, bk := D.nx } σ2 H2)
theorem w_forS (h : te σ H fun v H1 => rForS g tb D σ v H1) : tFor (iStr te) g tb D σ H := h
/-- a list walked: at each turn an item by its data -/
theorem forL_by (Pv : Nat → L2.St → Hp → Prop) (src : Dp K H x (.list ds)) (h0 : Pv 0 σ H) (hk : ∀ i σ' H', i ≤ ds.length → Pv i σ' H' → Keep H H')
    (hs : ∀ i d y σ' H', ds[i]? = some d → Dp K H' y d → Pv i σ' H' → g y σ' H' fun σ2 H2 => tb { D with nx := Pv (i + 1), ct := Pv (i + 1), bk := D.nx } σ2 H2) (hd : ∀ σ' H', Pv ds.length σ' H' → D.nx σ' H') : rForL K g tb D σ x H := by
  obtain ⟨a, xs, rfl, hq, ha⟩ := dp_lst src
  have hl := dpa_len ha
  refine ⟨a, rfl, ⟨xs, hq⟩, for_list (xs := xs) Pv h0 (fun i σ' H' hi p => (hk i σ' H' (by omega) p).seqL hq) (fun i y σ' H' hi p => ?_) (fun σ' H' p => hd σ' H' (by rw [← hl]; exact p))⟩
  obtain ⟨d, e1, e2⟩ := dpa_get2 ha hi
  exact hs i d y σ' H' e1 (dp_keep (hk i σ' H' (by have := (List.getElem?_eq_some_iff.mp e1).1; omega) p) e2) p
theorem forT_by (Pv : Nat → L2.St → Hp → Prop) (src : Dp K H x (.tuple ds)) (h0 : Pv 0 σ H) (hk : ∀ i σ' H', i ≤ ds.length → Pv i σ' H' → Keep H H')
    (hs : ∀ i d y σ' H', ds[i]? = some d → Dp K H' y d → Pv i σ' H' → g y σ' H' fun σ2 H2 => tb { D with nx := Pv (i + 1), ct := Pv (i + 1), bk := D.nx } σ2 H2) (hd : ∀ σ' H', Pv ds.length σ' H' → D.nx σ' H') : rForT K g tb D σ x H := by
  obtain ⟨a, xs, rfl, hq, ha⟩ := dp_tup src
  have hl := dpa_len ha
  refine ⟨a, rfl, ⟨xs, hq⟩, for_tup (xs := xs) Pv h0 (fun i σ' H' hi p => (hk i σ' H' (by omega) p).seqT hq) (fun i y σ' H' hi p => ?_) (fun σ' H' p => hd σ' H' (by rw [← hl]; exact p))⟩
  obtain ⟨d, e1, e2⟩ := dpa_get2 ha hi
  exact hs i d y σ' H' e1 (dp_keep (hk i σ' H' (by have := (List.getElem?_eq_some_iff.mp e1).1; omega) p) e2) p
theorem forR1_by {k : Int} (Pv : Nat → L2.St → Hp → Prop) (hz : -(2 ^ 62) ≤ k ∧ k < 2 ^ 62) (h0 : Pv 0 σ H)
    (hs : ∀ (i : Nat) σ' H', (i : Int) < k → Pv i σ' H' → g (.int (i : Int)) σ' H' fun σ2 H2 => tb { D with nx := Pv (i + 1), ct := Pv (i + 1), bk := D.nx } σ2 H2) (hd : ∀ σ' H', Pv k.toNat σ' H' → D.nx σ' H') : rForR1 g tb D σ [.int k] H :=
  ⟨k, rfl, hz.1, hz.2, for_range (lo := 0) (n := k.toNat) Pv h0 (fun i σ' H' hi p => by rw [Int.zero_add]; exact hs i σ' H' (by omega) p) hd⟩
theorem forR2_by {lo k : Int} (Pv : Nat → L2.St → Hp → Prop) (hz : -(2 ^ 62) ≤ lo ∧ lo < 2 ^ 62 ∧ -(2 ^ 62) ≤ k ∧ k < 2 ^ 62) (h0 : Pv 0 σ H)
    (hs : ∀ (i : Nat) σ' H', lo + (i : Int) < k → Pv i σ' H' → g (.int (lo + (i : Int))) σ' H' fun σ2 H2 => tb { D with nx := Pv (i + 1), ct := Pv (i + 1), bk := D.nx } σ2 H2) (hd : ∀ σ' H', Pv (k - lo).toNat σ' H' → D.nx σ' H') : rForR2 g tb D σ [.int lo, .int k] H :=
  ⟨lo, k, rfl, hz, for_range (lo := lo) (n := (k - lo).toNat) Pv h0 (fun i σ' H' hi p => hs i σ' H' (by omega) p) hd⟩
theorem forS_by {s : Str} (Pv : Nat → L2.St → Hp → Prop) (h0 : Pv 0 σ H)
    (hs : ∀ (i : Nat) c σ' H', s.cps.toList[i]? = some c → Pv i σ' H' → g (.str ⟨#[c]⟩) σ' H' fun σ2 H2 => tb { D with nx := Pv (i + 1), ct := Pv (i + 1), bk := D.nx } σ2 H2) (hd : ∀ σ' H', Pv s.length σ' H' → D.nx σ' H') : rForS g tb D σ (.str s) H := by
  refine ⟨s, rfl, fun i m σ H => m = s.length - i ∧ i ≤ s.length ∧ Pv i σ H, ⟨s.length, by simp, Nat.zero_le _, h0⟩, ?_⟩
  rintro i m σ H ⟨rfl, hi, p⟩
  by_cases hlt : i < s.length
  · refine .inr ⟨hlt, Pv (i + 1), fun σ' H' p' => ⟨s.length - (i + 1), by omega, rfl, hlt, p'⟩, fun x H' y => ?_⟩
    obtain ⟨e, c, hc, rfl⟩ := y
    subst e
    exact hs i c σ _ (by simpa using hc) p
  · have e : i = s.length := by omega
    subst e
    exact .inl ⟨Nat.le_refl _, hd σ H p⟩
theorem w_gName {j : Nat} {Q : L2.St → Hp → Prop} (q : Q (σ.set j (some v)) H) : gName j v σ H Q := q
theorem w_pw {P : Prop} (h : P) : P := h
end
end Tw
namespace Tw
open PySem PySem.Spec PyProof.Rows L2
/-! ### data without bools and dicts: == is equality -/
def pln : Nat → PyData → Bool
  | _, .none => true
  | _, .int _ => true
  | _, .str x => PyData.strOk x
  | k + 1, .list ds => ds.all (pln k)
  | k + 1, .tuple ds => ds.all (pln k)
  | _, _ => false
theorem pln_shape : ∀ (k : Nat) (d : PyData), pln k d = true → d.canLay0 = true ∧ d.depth ≤ k := by
  intro k
  induction k with
  | zero =>
    intro d h
    cases d <;> simp [pln] at h <;> simp [PyData.canLay0, PyData.depth, h]
  | succ k ih =>
    have all : ∀ ds : List PyData, ds.all (pln k) = true → PyData.canLayAll0 ds = true ∧ PyData.depthAll ds ≤ k := by
      intro ds
      induction ds with
      | nil => intro _; exact ⟨rfl, Nat.zero_le _⟩
      | cons d ds ihd =>
        intro h
        rw [List.all_cons, Bool.and_eq_true] at h
        obtain ⟨a, b⟩ := ih d h.1
        obtain ⟨a', b'⟩ := ihd h.2
        exact ⟨by simp [PyData.canLayAll0, a, a'], by simp only [PyData.depthAll]; omega⟩
    intro d h
    cases d with
    | list ds =>
      obtain ⟨a, b⟩ := all ds (by simpa [pln] using h)
      exact ⟨by simpa [PyData.canLay0] using a, by simp only [PyData.depth]; omega⟩
    | tuple ds =>
      obtain ⟨a, b⟩ := all ds (by simpa [pln] using h)
      exact ⟨by simpa [PyData.canLay0] using a, by simp only [PyData.depth]; omega⟩
    | none => simp [PyData.canLay0, PyData.depth]
    | int i => simp [PyData.canLay0, PyData.depth]
    | str x => simp [pln] at h; simp [PyData.canLay0, PyData.depth, h]
    | bool b => simp [pln] at h
    | dict kvs => simp [pln] at h
theorem pln_shaped {k : Nat} {d : PyData} (h : pln k d = true) (hk : k ≤ 64) : SeqAt.shaped d = true := by
  obtain ⟨a, b⟩ := pln_shape k d h
  unfold SeqAt.shaped
  rw [a, Bool.true_and, decide_eq_true]
  omega
theorem pln_eqv : ∀ (k l : Nat) (d e : PyData), pln k d = true → pln l e = true → (PyData.eqv d e = true ↔ d = e) := by
  intro k
  induction k with
  | zero =>
    intro l d e h1 h2
    cases d <;> simp [pln] at h1 <;> cases e <;> simp [PyData.eqv] <;> cases l <;> simp [pln] at h2
  | succ k ih =>
    have all : ∀ (l : Nat) (ds es : List PyData), ds.all (pln k) = true → es.all (pln l) = true → (PyData.eqvAll ds es = true ↔ ds = es) := by
      intro l ds
      induction ds with
      | nil => intro es _ _; cases es <;> simp [PyData.eqvAll]
      | cons d ds ihd =>
        intro es h1 h2
        cases es with
        | nil => simp [PyData.eqvAll]
        | cons e es =>
          rw [List.all_cons, Bool.and_eq_true] at h1 h2
          simp only [PyData.eqvAll, Bool.and_eq_true, List.cons.injEq]
          rw [ih l d e h1.1 h2.1, ihd es h1.2 h2.2]
    intro l d e h1 h2
    cases d with
    | list ds =>
      cases e with
      | list es =>
        cases l with
        | zero => simp [pln] at h2
        | succ l =>
          have := all l ds es (by simpa [pln] using h1) (by simpa [pln] using h2)
          simpa [PyData.eqv] using this
      | _ => simp [PyData.eqv]
    | tuple ds =>
      cases e with
      | tuple es =>
        cases l with
        | zero => simp [pln] at h2
        | succ l =>
          have := all l ds es (by simpa [pln] using h1) (by simpa [pln] using h2)
          simpa [PyData.eqv] using this
      | _ => simp [PyData.eqv]
    | none => cases e <;> simp [PyData.eqv]
    | int i => cases e <;> simp [PyData.eqv] <;> (cases l <;> simp [pln] at h2)
    | str x => cases e <;> simp [PyData.eqv]
    | bool b => simp [pln] at h1
    | dict kvs => simp [pln] at h1
theorem pln_ints {k : Nat} (ns : List Int) : pln (k + 1) (.list (ns.map PyData.int)) = true := by
  cases k <;> simp [pln, List.all_eq_true]
theorem pln_intsT {k : Nat} (ns : List Int) : pln (k + 1) (.tuple (ns.map PyData.int)) = true := by
  cases k <;> simp [pln, List.all_eq_true]
section
variable {K : PySem.W.Frag} {H : Hp} {Q : VK} {x y : V} {d e : PyData}
theorem w_eqP (h1 : Dp K H x d) (h2 : Dp K H y e) (p1 : pln 9 d = true) (p2 : pln 9 e = true) (q1 : d = e → Q (.bl true) H) (q2 : d ≠ e → Q (.bl false) H) : rEqD K x y H Q := by
  refine ⟨d, e, h1, h2, pln_shaped p1 (by decide), pln_shaped p2 (by decide), ?_⟩
  have r := pln_eqv _ _ d e p1 p2
  cases he : PyData.eqv d e with
  | true => exact q1 (r.mp he)
  | false => exact q2 (fun z => by rw [r.mpr z] at he; cases he)
theorem w_neP (h1 : Dp K H x d) (h2 : Dp K H y e) (p1 : pln 9 d = true) (p2 : pln 9 e = true) (q1 : d = e → Q (.bl false) H) (q2 : d ≠ e → Q (.bl true) H) : rNeD K x y H Q := by
  refine ⟨d, e, h1, h2, pln_shaped p1 (by decide), pln_shaped p2 (by decide), ?_⟩
  have r := pln_eqv _ _ d e p1 p2
  cases he : PyData.eqv d e with
  | true => exact q1 (r.mp he)
  | false => exact q2 (fun z => by rw [r.mpr z] at he; cases he)
end
/-! ### a dict written out -/
def rDisp (p : Addr) (ps : List (V × V)) (H2 : Hp) (Q : VK) : Prop := H2 p = some (.dK []) ∧ ∃ kvs : List (Key × V), ps = kvs.map (fun kv => (kV kv.1, kv.2)) ∧ kvs.length ≤ 15 ∧ Q (.ref p) (upd H2 p (.dK (mergeK [] kvs)))
theorem w_disp {σ : L2.St} {H : Hp} {Q : VK} {trs : List (TE × TE)} (h : ∀ p H0, H p = none → Same H H0 → H0 p = some (.dK []) → tPairs trs σ H0 fun ps H2 => rDisp p ps H2 Q) : tDisp trs σ H Q := fun p hp => h p _ hp (same_new hp) upd_same
theorem w_pp {σ : L2.St} {H : Hp} {Q : List (V × V) → Hp → Prop} {tk tv : TE} {r : List (TE × TE)} (h : tk σ H fun x H1 => tv σ H1 fun y H2 => tPairs r σ H2 fun ps H3 => Q ((x, y) :: ps) H3) : tPairs ((tk, tv) :: r) σ H Q := h
theorem w_pp0 {σ : L2.St} {H : Hp} {Q : List (V × V) → Hp → Prop} (h : Q [] H) : tPairs [] σ H Q := h
theorem pg_tupK {X : Cx} {K : PySem.W.Frag} {es : List Expr} {k : Nat} {t : TGs} {n : Nat} {pos : Pos} (hc : X.calm = true) (hh : PGs X es t) (h : X.K = K := by rfl)
    (hn : (assignEach es X.env).length = n := by rfl) (hst : (assignEach es X.env).findIdx? (·.1) = none := by rfl) : PG X (.Tuple es k pos) (gTup K n t) := h ▸ pg_tup hc hh hn hst
end Tw
namespace Tw
open PySem PySem.Spec PyProof.Rows L2
/-! ### the law's own drawing: its dict -/
def moKvs (left seed : Int) (c : Addr) (spot : Int) : List (Key × V) := [(.inr "left", .int left), (.inr "seed", .int seed), (.inr "cells", .ref c), (.inr "spot", .int spot)]
theorem mo_len {l s : Int} {c : Addr} {p : Int} : (moKvs l s c p).length < sizeLine := by show 4 < sizeLine; decide
/-- a number of the script, or a little more -/
structure Big (n : Int) : Prop where
  lt : n.natAbs < 2 ^ 1048600
theorem Big.mul {i j : Int} (h : Big i) (hb : -(2 ^ 250) < j ∧ j < 2 ^ 250) : CMulX i j := mulx_ok (a := 1048600) (b := 250) h.lt (by omega) (by decide)
theorem Big.bits {n : Int} (h : Builtin.Int.intBits n ≤ 1048576) : Big n := by
  have h1 : n.natAbs < 2 ^ Builtin.Int.intBits n := by
    by_cases h0 : n = 0
    · subst h0; decide
    · unfold Builtin.Int.intBits
      rw [if_neg (by simpa using h0)]
      exact Nat.lt_log2_self
  exact ⟨Nat.lt_of_lt_of_le h1 (Nat.pow_le_pow_right (by decide) (by omega))⟩
theorem Big.small {n : Int} (h : -(2 ^ 250) < n ∧ n < 2 ^ 250) : Big n := by
  exact ⟨Nat.lt_of_lt_of_le (show n.natAbs < 2 ^ 250 by omega) (Nat.pow_le_pow_right (by decide) (by decide))⟩
/-- the dict of the law's draws, at most b of which were made; its cells at c -/
def Mo (H : Hp) (m c : Addr) (b : Nat) : Prop := ∃ (left seed spot : Int) (ns : List Int),
  H m = some (.dK (moKvs left seed c spot)) ∧ H c = some (.lst (ns.map V.int)) ∧ 0 < ns.length ∧ ns.length ≤ 100 ∧ (∀ n ∈ ns, Big n) ∧ 0 ≤ seed ∧ seed < 2147483647 ∧ 0 ≤ spot ∧ spot ≤ b
theorem k_left_seed : ¬ Str.ofString "left" = Str.ofString "seed" := by decide +kernel
theorem k_left_cells : ¬ Str.ofString "left" = Str.ofString "cells" := by decide +kernel
theorem k_left_spot : ¬ Str.ofString "left" = Str.ofString "spot" := by decide +kernel
theorem k_seed_cells : ¬ Str.ofString "seed" = Str.ofString "cells" := by decide +kernel
theorem k_seed_spot : ¬ Str.ofString "seed" = Str.ofString "spot" := by decide +kernel
theorem k_cells_spot : ¬ Str.ofString "cells" = Str.ofString "spot" := by decide +kernel
theorem mo_left {l s : Int} {c : Addr} {p : Int} : valV (moKvs l s c p) (.inr "left") = some (.int l) := by simp [valV, moKvs]
theorem mo_seed {l s : Int} {c : Addr} {p : Int} : valV (moKvs l s c p) (.inr "seed") = some (.int s) := by simp [valV, moKvs, k_left_seed]
theorem mo_cells {l s : Int} {c : Addr} {p : Int} : valV (moKvs l s c p) (.inr "cells") = some (.ref c) := by simp [valV, moKvs, k_left_cells, k_seed_cells]
theorem mo_spot {l s : Int} {c : Addr} {p : Int} : valV (moKvs l s c p) (.inr "spot") = some (.int p) := by simp [valV, moKvs, k_left_spot, k_seed_spot, k_cells_spot]
theorem mo_put_left {l s : Int} {c : Addr} {p z : Int} : putK (moKvs l s c p) (.inr "left") (.int z) = moKvs z s c p := by
  simp [putK, moKvs, k_left_seed, k_left_cells, k_left_spot, Ne.symm k_left_seed, Ne.symm k_left_cells, Ne.symm k_left_spot]
theorem mo_put_spot {l s : Int} {c : Addr} {p z : Int} : putK (moKvs l s c p) (.inr "spot") (.int z) = moKvs l s c z := by
  simp [putK, moKvs, k_left_spot, k_seed_spot, k_cells_spot]
theorem Mo.mono {H : Hp} {m c : Addr} {a b : Nat} (h : Mo H m c a) (l : a ≤ b) : Mo H m c b := by
  obtain ⟨left, seed, spot, ns, h1, h2, h3, h4, h5, h6, h7, h8, h9⟩ := h
  exact ⟨left, seed, spot, ns, h1, h2, h3, h4, h5, h6, h7, h8, by omega⟩
theorem Mo.same {H H' : Hp} {m c : Addr} {a : Nat} (e : Same H H') (h : Mo H m c a) : Mo H' m c a := by
  obtain ⟨left, seed, spot, ns, h1, h2, h⟩ := h
  exact ⟨left, seed, spot, ns, e _ _ h1, e _ _ h2, h⟩
theorem Mo.ne {H : Hp} {m c : Addr} {a : Nat} {D : Addr} (h : Mo H m c a) (hD : H D = none) : c ≠ D := by
  obtain ⟨left, seed, spot, ns, h1, h2, h⟩ := h
  exact ne_of_none h2 hD
theorem Mo.upd {H : Hp} {m c : Addr} {a : Nat} {D : Addr} {o : HO} {xs : List V} (h : Mo H m c a) (hD : H D = some (.lst xs)) (n : c ≠ D) : Mo (upd H D o) m c a := by
  obtain ⟨left, seed, spot, ns, h1, h2, h⟩ := h
  refine ⟨left, seed, spot, ns, ?_, ?_, h⟩
  · rw [upd_ne (ne_of h1 hD (fun z => nomatch z))]; exact h1
  · rw [upd_ne n]; exact h2
theorem Mo.new {H : Hp} {m c : Addr} {a : Nat} {D : Addr} {o : HO} (h : Mo H m c a) (hD : H D = none) : Mo (L2.upd H D o) m c a := h.same (same_new hD)
/-! ### data without lists -/
mutual
def noL : PyData → Bool
  | .list _ => false
  | .dict _ => false
  | .tuple ds => noLs ds
  | .none => true
  | .bool _ => true
  | .int _ => true
  | .str _ => true
def noLs : List PyData → Bool
  | [] => true
  | d :: ds => noL d && noLs ds
end
mutual
theorem dp_upd {K : PySem.W.Frag} {H : Hp} {D : Addr} {o : HO} {xs0 : List V} (hD : H D = some (.lst xs0)) : ∀ (d : PyData) (v : V), noL d = true → Dp K H v d → Dp K (upd H D o) v d
  | .none, _, _, h => by cases h; exact .non
  | .bool b, _, _, h => by cases h; exact .bl b
  | .int i, _, _, h => by cases h; exact .int i
  | .str x, _, _, h => by cases h; exact .str x
  | .list ds, _, n, h => by simp [noL] at n
  | .tuple ds, _, n, h => by
    cases h with
    | tup hs ha =>
      refine .tup ?_ (dpa_upd hD ds _ (by simpa [noL] using n) ha)
      rcases hs with (hs | ⟨ob, hs⟩) | hs
      · exact .inl (.inl (by rw [upd_ne (ne_of hs hD (fun z => nomatch z))]; exact hs))
      · exact .inl (.inr ⟨ob, by rw [upd_ne (ne_of hs hD (fun z => nomatch z))]; exact hs⟩)
      · exact .inr hs
  | .dict _, _, n, h => by cases h
theorem dpa_upd {K : PySem.W.Frag} {H : Hp} {D : Addr} {o : HO} {xs0 : List V} (hD : H D = some (.lst xs0)) : ∀ (ds : List PyData) (vs : List V), noLs ds = true → DpAll K H vs ds → DpAll K (upd H D o) vs ds
  | [], _, _, h => by cases h; exact .nil
  | d :: ds, _, n, h => by
    simp only [noLs, Bool.and_eq_true] at n
    cases h with
    | cons h1 h2 => exact .cons (dp_upd hD d _ n.1 h1) (dpa_upd hD ds _ n.2 h2)
end
theorem noLs_app : ∀ {ds es : List PyData}, noLs ds = true → noLs es = true → noLs (ds ++ es) = true
  | [], _, _, h => h
  | d :: ds, es, n, h => by
    simp only [noLs, Bool.and_eq_true] at n
    simp only [List.cons_append, noLs, Bool.and_eq_true]
    exact ⟨n.1, noLs_app n.2 h⟩
theorem noLs_one {d : PyData} (h : noL d = true) : noLs [d] = true := by simp [noLs, h]

/-! ### comprehensions -/
section
variable {K : PySem.W.Frag} {σ : L2.St} {H H1 : Hp} {Q : VK} {x : V} {ds : List PyData} {j : Nat} {vs : List Nat} {tt : TT} {te tl : TE} {ta : TA}
/-- what holds between two turns of a comprehension: i turns, the data made so far, the heap -/
structure LcJ (H1 : Hp) (J : Nat → List PyData → Hp → Prop) : Prop where
  start : ∀ D, H1 D = none → J 0 [] (L2.upd H1 D (.lst []))
  keep : ∀ i es H', J i es H' → Keep H1 H'
  upd : ∀ i es H' D xs o, H1 D = none → H' D = some (.lst xs) → J i es H' → J i es (L2.upd H' D o)
def LcP (K : PySem.W.Frag) (J : Nat → List PyData → Hp → Prop) (D : Addr) (i : Nat) (H' : Hp) : Prop :=
  ∃ vs es, H' D = some (.lst vs) ∧ DpAll K H' vs es ∧ noLs es = true ∧ es.length ≤ i ∧ J i es H'
def LcTurn (K : PySem.W.Frag) (J : Nat → List PyData → Hp → Prop) (tt : TT) (te : TE) (σx : L2.St) (i : Nat) (es : List PyData) (H' : Hp) : Prop :=
  ∀ (Yes : VK) (No : Hp → Prop), (∀ z H4 e, Keep H' H4 → noL e = true → Dp K H4 z e → J (i + 1) (es ++ [e]) H4 → Yes z H4) → (∀ H3, Keep H' H3 → J (i + 1) es H3 → No H3) →
    tt σx H' fun b H3 => if b = true then te σx H3 Yes else No H3
theorem lc_turn {J : Nat → List PyData → Hp → Prop} (lj : LcJ H1 J) {D : Addr} (hD : H1 D = none) {i : Nat} (hi : i < 1000000) {H' : Hp} {σx : L2.St} (p : LcP K J D i H') (turn : ∀ es, J i es H' → LcTurn K J tt te σx i es H') :
    tt σx H' fun b H3 => if b = true then te σx H3 fun y H4 => ∃ acc, H4 D = some (.lst acc) ∧ acc.length < sizeLine ∧ LcP K J D (i + 1) (L2.upd H4 D (.lst (acc ++ [y]))) else LcP K J D (i + 1) H3 := by
  obtain ⟨vs, es, p1, p2, p3, p4, p5⟩ := p
  have hs : sizeLine = 16777216 := sizeLine_eq
  refine turn es p5 _ _ (fun z H4 e k n dz j => ?_) (fun H3 k j => ?_)
  · have l := dpa_len p2
    refine ⟨vs, k.l p1, by omega, _, es ++ [e], upd_same, ?_, noLs_app p3 (noLs_one n), by simp; omega, lj.upd _ _ _ _ vs _ hD (k.l p1) j⟩
    exact dpa_app (dpa_upd (k.l p1) _ _ p3 (dpa_keep k p2)) (dpa_one (dp_upd (k.l p1) _ _ n dz))
  · exact ⟨vs, es, k.l p1, dpa_keep k p2, p3, by omega, j⟩
def rLcL (K : PySem.W.Frag) (j : Nat) (tt : TT) (te : TE) (vs : List Nat) (σ : L2.St) (x : V) (H1 : Hp) (Q : VK) : Prop := ∃ a, x = .ref a ∧ (∃ xs, SqL K H1 a xs) ∧ ∀ D, H1 D = none → ∃ W : Nat → Nat → Hp → Prop, (∃ m, W 0 m (L2.upd H1 D (.lst []))) ∧ ∀ i m H, W i m H →
  ((Itl K a).stop i H ∧ Q (.ref D) H) ∨ ((Itl K a).go i H ∧ ∃ Nx : Hp → Prop, (∀ H', Nx H' → ∃ m', m' < m ∧ W (i + 1) m' H') ∧ ∀ x H', (Itl K a).yld i H x H' → gName j x (wipe σ vs) H' fun σ2 H2 => wipe σ2 vs = wipe σ vs ∧ tt σ2 H2 fun b H3 =>
    if b = true then te σ2 H3 fun y H4 => ∃ acc, H4 D = some (.lst acc) ∧ acc.length < sizeLine ∧ Nx (L2.upd H4 D (.lst (acc ++ [y]))) else Nx H3)
theorem w_lcL (h : tl σ H fun x H1 => rLcL K j tt te vs σ x H1 Q) : tLc (iList K tl) (gName j) tt te vs σ H Q := h
theorem lc_list_by (J : Nat → List PyData → Hp → Prop) (lj : LcJ H1 J) (src : Dp K H1 x (.list ds)) (hz : ds.length ≤ 1000000) (hw : ∀ x, wipe ((wipe σ vs).set j (some x)) vs = wipe σ vs)
    (turn : ∀ i d y H' es, ds[i]? = some d → Dp K H' y d → J i es H' → LcTurn K J tt te ((wipe σ vs).set j (some y)) i es H')
    (done : ∀ p H' vs es, H1 p = none → Keep H1 H' → H' p = some (.lst vs) → Dp K H' (.ref p) (.list es) → J ds.length es H' → Q (.ref p) H') : rLcL K j tt te vs σ x H1 Q := by
  obtain ⟨a, xs, rfl, hs, ha⟩ := dp_lst src
  have hl := dpa_len ha
  refine ⟨a, rfl, ⟨xs, hs⟩, fun D hD => lc_list (xs := xs) (LcP K J D) ⟨[], [], upd_same, .nil, rfl, Nat.le_refl _, lj.start D hD⟩ (fun i H' _ p => ?_) (fun i y H' hi p => ⟨hw y, lc_turn lj hD ?_ p fun es q => ?_⟩) fun H' p => ?_⟩
  · obtain ⟨vs, es, p1, p2, p3, p4, p5⟩ := p
    exact (lj.keep _ _ _ p5).seqL hs
  · have := (List.getElem?_eq_some_iff.mp hi).1; omega
  · obtain ⟨d, e1, e2⟩ := dpa_get2 ha hi
    exact turn i d y H' es e1 (dp_keep (lj.keep _ _ _ q) e2) q
  · obtain ⟨vs, es, p1, p2, p3, p4, p5⟩ := p
    rw [hl] at p5
    exact done D H' vs es hD (lj.keep _ _ _ p5) p1 (dp_newL p1 p2) p5
def rLcT (K : PySem.W.Frag) (j : Nat) (tt : TT) (te : TE) (vs : List Nat) (σ : L2.St) (x : V) (H1 : Hp) (Q : VK) : Prop := ∃ a, x = .ref a ∧ (∃ xs, SqT K H1 a xs) ∧ ∀ D, H1 D = none → ∃ W : Nat → Nat → Hp → Prop, (∃ m, W 0 m (L2.upd H1 D (.lst []))) ∧ ∀ i m H, W i m H →
  ((Itt K a).stop i H ∧ Q (.ref D) H) ∨ ((Itt K a).go i H ∧ ∃ Nx : Hp → Prop, (∀ H', Nx H' → ∃ m', m' < m ∧ W (i + 1) m' H') ∧ ∀ x H', (Itt K a).yld i H x H' → gName j x (wipe σ vs) H' fun σ2 H2 => wipe σ2 vs = wipe σ vs ∧ tt σ2 H2 fun b H3 =>
    if b = true then te σ2 H3 fun y H4 => ∃ acc, H4 D = some (.lst acc) ∧ acc.length < sizeLine ∧ Nx (L2.upd H4 D (.lst (acc ++ [y]))) else Nx H3)
theorem w_lcT (h : tl σ H fun x H1 => rLcT K j tt te vs σ x H1 Q) : tLc (iTup K tl) (gName j) tt te vs σ H Q := h
theorem lc_tup_by (J : Nat → List PyData → Hp → Prop) (lj : LcJ H1 J) (src : Dp K H1 x (.tuple ds)) (hz : ds.length ≤ 1000000) (hw : ∀ x, wipe ((wipe σ vs).set j (some x)) vs = wipe σ vs)
    (turn : ∀ i d y H' es, ds[i]? = some d → Dp K H' y d → J i es H' → LcTurn K J tt te ((wipe σ vs).set j (some y)) i es H')
    (done : ∀ p H' vs es, H1 p = none → Keep H1 H' → H' p = some (.lst vs) → Dp K H' (.ref p) (.list es) → J ds.length es H' → Q (.ref p) H') : rLcT K j tt te vs σ x H1 Q := by
  obtain ⟨a, xs, rfl, hs, ha⟩ := dp_tup src
  have hl := dpa_len ha
  refine ⟨a, rfl, ⟨xs, hs⟩, fun D hD => lc_tup (xs := xs) (LcP K J D) ⟨[], [], upd_same, .nil, rfl, Nat.le_refl _, lj.start D hD⟩ (fun i H' _ p => ?_) (fun i y H' hi p => ⟨hw y, lc_turn lj hD ?_ p fun es q => ?_⟩) fun H' p => ?_⟩
  · obtain ⟨vs, es, p1, p2, p3, p4, p5⟩ := p
    exact (lj.keep _ _ _ p5).seqT hs
  · have := (List.getElem?_eq_some_iff.mp hi).1; omega
  · obtain ⟨d, e1, e2⟩ := dpa_get2 ha hi
    exact turn i d y H' es e1 (dp_keep (lj.keep _ _ _ q) e2) q
  · obtain ⟨vs, es, p1, p2, p3, p4, p5⟩ := p
    rw [hl] at p5
    exact done D H' vs es hD (lj.keep _ _ _ p5) p1 (dp_newL p1 p2) p5
def rLcR (j : Nat) (tt : TT) (te : TE) (us : List Nat) (σ : L2.St) (lo : Int) (n : Nat) (H1 : Hp) (Q : VK) : Prop := ∀ D, H1 D = none → ∃ W : Nat → Nat → Hp → Prop, (∃ m, W 0 m (L2.upd H1 D (.lst []))) ∧ ∀ i m H, W i m H →
  ((Itr lo n).stop i H ∧ Q (.ref D) H) ∨ ((Itr lo n).go i H ∧ ∃ Nx : Hp → Prop, (∀ H', Nx H' → ∃ m', m' < m ∧ W (i + 1) m' H') ∧ ∀ x H', (Itr lo n).yld i H x H' → gName j x (wipe σ us) H' fun σ2 H2 => wipe σ2 us = wipe σ us ∧ tt σ2 H2 fun b H3 =>
    if b = true then te σ2 H3 fun y H4 => ∃ acc, H4 D = some (.lst acc) ∧ acc.length < sizeLine ∧ Nx (L2.upd H4 D (.lst (acc ++ [y]))) else Nx H3)
def rLcR1 (j : Nat) (tt : TT) (te : TE) (us : List Nat) (σ : L2.St) (vs : List V) (H1 : Hp) (Q : VK) : Prop := ∃ k : Int, vs = [.int k] ∧ -(2 ^ 62) ≤ k ∧ k < 2 ^ 62 ∧ rLcR j tt te us σ 0 k.toNat H1 Q
def rLcR2 (j : Nat) (tt : TT) (te : TE) (us : List Nat) (σ : L2.St) (vs : List V) (H1 : Hp) (Q : VK) : Prop := ∃ i k : Int, vs = [.int i, .int k] ∧ (-(2 ^ 62) ≤ i ∧ i < 2 ^ 62 ∧ -(2 ^ 62) ≤ k ∧ k < 2 ^ 62) ∧ rLcR j tt te us σ i (k - i).toNat H1 Q
theorem w_lcR1 (h : ta σ H fun ws H1 => rLcR1 j tt te vs σ ws H1 Q) : tLc (iRng1 ta) (gName j) tt te vs σ H Q := h
theorem w_lcR2 (h : ta σ H fun ws H1 => rLcR2 j tt te vs σ ws H1 Q) : tLc (iRng2 ta) (gName j) tt te vs σ H Q := h
theorem lc_rng_by {lo : Int} {n : Nat} (J : Nat → List PyData → Hp → Prop) (lj : LcJ H1 J) (hz : n ≤ 1000000) (hw : ∀ x, wipe ((wipe σ vs).set j (some x)) vs = wipe σ vs)
    (turn : ∀ (i : Nat) H' es, i < n → J i es H' → LcTurn K J tt te ((wipe σ vs).set j (some (.int (lo + (i : Int))))) i es H')
    (done : ∀ p H' vs es, H1 p = none → Keep H1 H' → H' p = some (.lst vs) → Dp K H' (.ref p) (.list es) → J n es H' → Q (.ref p) H') : rLcR j tt te vs σ lo n H1 Q := by
  refine fun D hD => lc_range (lo := lo) (n := n) (LcP K J D) ⟨[], [], upd_same, .nil, rfl, Nat.le_refl _, lj.start D hD⟩ (fun i H' hi p => ⟨hw _, lc_turn lj hD (by omega) p fun es q => turn i H' es hi q⟩) fun H' p => ?_
  obtain ⟨vs, es, p1, p2, p3, p4, p5⟩ := p
  exact done D H' vs es hD (lj.keep _ _ _ p5) p1 (dp_newL p1 p2) p5
theorem lc_rng1_by {k : Int} (J : Nat → List PyData → Hp → Prop) (lj : LcJ H1 J) (hz : 0 ≤ k ∧ k ≤ 1000000) (hw : ∀ x, wipe ((wipe σ vs).set j (some x)) vs = wipe σ vs)
    (turn : ∀ (i : Nat) H' es, (i : Int) < k → J i es H' → LcTurn K J tt te ((wipe σ vs).set j (some (.int (i : Int)))) i es H')
    (done : ∀ p H' vs es, H1 p = none → Keep H1 H' → H' p = some (.lst vs) → Dp K H' (.ref p) (.list es) → J k.toNat es H' → Q (.ref p) H') : rLcR1 j tt te vs σ [.int k] H1 Q := by
  refine ⟨k, rfl, by omega, by omega, lc_rng_by (K := K) J lj (by omega) hw (fun i H' es hi q => ?_) done⟩
  rw [Int.zero_add]
  exact turn i H' es (by omega) q
theorem lc_rng2_by {lo k : Int} (J : Nat → List PyData → Hp → Prop) (lj : LcJ H1 J) (hz : -1000000 ≤ lo ∧ lo ≤ 1000000 ∧ -1000000 ≤ k ∧ k ≤ 1000000 ∧ k - lo ≤ 1000000) (hw : ∀ x, wipe ((wipe σ vs).set j (some x)) vs = wipe σ vs)
    (turn : ∀ (i : Nat) H' es, lo + (i : Int) < k → J i es H' → LcTurn K J tt te ((wipe σ vs).set j (some (.int (lo + (i : Int))))) i es H')
    (done : ∀ p H' vs es, H1 p = none → Keep H1 H' → H' p = some (.lst vs) → Dp K H' (.ref p) (.list es) → J (k - lo).toNat es H' → Q (.ref p) H') : rLcR2 j tt te vs σ [.int lo, .int k] H1 Q :=
  ⟨lo, k, rfl, by omega, lc_rng_by (K := K) J lj (by omega) hw (fun i H' es hi q => turn i H' es (by omega) q) done⟩
theorem w_tYes {Q : Bool → Hp → Prop} (q : Q true H) : tYes σ H Q := q
/-- nothing but new objects: a word about the turns and the data -/
def JP (H1 : Hp) (R : Nat → List PyData → Prop) (i : Nat) (es : List PyData) (H' : Hp) : Prop := Same H1 H' ∧ R i es
theorem JP.ok {R : Nat → List PyData → Prop} (r0 : R 0 []) : LcJ H1 (JP H1 R) where
  start := fun D hD => ⟨same_new hD, r0⟩
  keep := fun _ _ _ h => Keep.of h.1
  upd := fun _ _ _ _ _ _ hD _ h => ⟨same_mut h.1 hD, h.2⟩
/-- .. and draws, at most n a turn -/
def JM (H1 : Hp) (m c : Addr) (b n : Nat) (R : Nat → List PyData → Prop) (i : Nat) (es : List PyData) (H' : Hp) : Prop := Keep H1 H' ∧ Mo H' m c (b + n * i) ∧ R i es
theorem JM.ok {m c : Addr} {b n : Nat} {R : Nat → List PyData → Prop} (hm : Mo H1 m c b) (r0 : R 0 []) : LcJ H1 (JM H1 m c b n R) where
  start := fun D hD => ⟨Keep.of (same_new hD), hm.new hD, r0⟩
  keep := fun _ _ _ h => h.1
  upd := fun _ _ _ _ _ _ hD hx h => ⟨keep_mut h.1 hD, h.2.1.upd hx (hm.ne hD), h.2.2⟩
end
end Tw
namespace Tw
open PySem PySem.Spec PyProof.Rows L2
/-! ### texts as lists of codes -/
def Sg (l : List Nat) : Str := ⟨l.toArray⟩
theorem sg_tl (l : List Nat) : (Sg l).cps.toList = l := by simp [Sg]
theorem sg_len (l : List Nat) : (Sg l).length = l.length := by simp [Sg, Str.length]
theorem sg_app (a b : List Nat) : Sg a ++ Sg b = Sg (a ++ b) := by
  show Str.append (Sg a) (Sg b) = _
  simp [Sg, Str.append]
theorem sg_inj {a b : List Nat} (h : Sg a = Sg b) : a = b := by
  have := congrArg (fun s : Str => s.cps.toList) h
  simpa [Sg] using this
theorem sg_eq {a b : List Nat} : Sg a = Sg b ↔ a = b := ⟨sg_inj, fun h => by rw [h]⟩
theorem sg_one (c : Nat) : (⟨#[c]⟩ : Str) = Sg [c] := rfl
theorem sg_of (s : Str) : ∃ l, s = Sg l := ⟨s.cps.toList, by simp [Sg]⟩
theorem sg_V {a b : List Nat} : (V.str (Sg a) = V.str (Sg b)) ↔ a = b := by
  constructor
  · intro h; exact sg_inj (V.str.inj h)
  · intro h; rw [h]
theorem sg_join (ys : List (List Nat)) : Txt.join (Sg []) (ys.map Sg) = Sg ys.flatten := by
  rw [TL.join_eq]
  induction ys with
  | nil => rfl
  | cons a r ih =>
    cases r with
    | nil => simp [Str.join]
    | cons b r =>
      show Str.append (Str.append (Sg a) (Sg [])) (Str.join (Sg []) (Sg b :: r.map Sg)) = _
      rw [show Sg b :: r.map Sg = (b :: r).map Sg from rfl, ih]
      simp [Sg, Str.append]
theorem sg_empty : Str.ofString "" = Sg [] := by decide +kernel
theorem sg_cut (l : List Nat) (lo hi : Option Int) : (⟨(cutD (Sg l).cps.toList lo hi).toArray⟩ : Str) = Sg (cutD l lo hi) := by simp [Sg]
section
variable {K : PySem.W.Frag} {H : Hp} {Q : VK} {v : V} {lo hi : Option Int}
theorem w_ixSg {l : List Nat} {n : Int} (hz : l.length ≤ 1000000) (h0 : 0 ≤ n) (h1 : n < (l.length : Int)) (q : ∀ c, l[n.toNat]? = some c → Q (.str (Sg [c])) H) : rIxS (.str (Sg l)) (.int n) H Q := by
  have hl : n.toNat < l.length := by omega
  have hs : sizeLine = 16777216 := sizeLine_eq
  exact w_ixS (j := n.toNat) (c := l[n.toNat]) (by rw [sg_len]; omega) (by omega) (by rw [sg_tl]; exact List.getElem?_eq_getElem hl) (q _ (List.getElem?_eq_getElem hl))
theorem w_ixSgLast {l : List Nat} (hz : l.length ≤ 1000000) (h1 : l ≠ []) (q : Q (.str (Sg [l.getLast h1])) H) : rIxS (.str (Sg l)) (.int (-1)) H Q := by
  have hs : sizeLine = 16777216 := sizeLine_eq
  refine ⟨Sg l, -1, l.getLast h1, rfl, rfl, by rw [sg_len]; omega, ?_, q⟩
  rw [sg_tl]
  have e : l = l.dropLast ++ [l.getLast h1] := (List.dropLast_concat_getLast h1).symm
  rw [show atI l (-1) = atI (l.dropLast ++ [l.getLast h1]) (-1) by rw [← e]]
  exact atI_last _ _
theorem w_lenSg {l : List Nat} (h : l.length ≤ 1000000) (q : Q (.int (l.length : Int)) H) : rLen K [.str (Sg l)] H Q := by
  have hs : sizeLine = 16777216 := sizeLine_eq
  refine w_lenS (by rw [sg_len]; omega) ?_
  rw [sg_len]; exact q
theorem w_addSg {a b : List Nat} (h : a.length + b.length ≤ 1000000) (q : Q (.str (Sg (a ++ b))) H) : rAddStr (.str (Sg a)) (.str (Sg b)) H Q := by
  have hs : sizeLine = 16777216 := sizeLine_eq
  refine w_addS (by rw [sg_len, sg_len]; omega) ?_
  rw [sg_app]; exact q
theorem w_slSg {l : List Nat} (h : l.length ≤ 1000000) (q : Q (.str (Sg (cutD l lo hi))) H) : rSlS (.str (Sg l)) lo hi H Q := by
  have hs : sizeLine = 16777216 := sizeLine_eq
  refine w_slS (by rw [sg_len]; omega) ?_
  rw [sg_cut]; exact q
theorem w_eqSg {a b : List Nat} (q1 : a = b → Q (.bl true) H) (q2 : a ≠ b → Q (.bl false) H) : rEq (.str (Sg a)) (.str (Sg b)) H Q := by
  refine ⟨rfl, ?_⟩
  by_cases h : a = b
  · rw [decide_eq_true (sg_V.mpr h)]; exact q1 h
  · rw [decide_eq_false (fun z => h (sg_V.mp z))]; exact q2 h
theorem w_neSg {a b : List Nat} (q1 : a = b → Q (.bl false) H) (q2 : a ≠ b → Q (.bl true) H) : rNe (.str (Sg a)) (.str (Sg b)) H Q := by
  refine ⟨rfl, ?_⟩
  by_cases h : a = b
  · rw [decide_eq_true (sg_V.mpr h)]; exact q1 h
  · rw [decide_eq_false (fun z => h (sg_V.mp z))]; exact q2 h
theorem w_joinSg {ys : List (List Nat)} (h : Dp K H v (.list (ys.map fun y => PyData.str (Sg y)))) (hz : ys.flatten.length ≤ 1000000) (q : Q (.str (Sg ys.flatten)) H) : rJoin K (.str (Sg [])) [v] H Q := by
  refine w_join (ys := ys.map Sg) (by rw [List.map_map]; exact h) ?_ (by rw [sg_join]; exact q)
  rw [List.map_map, sg_len, List.length_nil, Nat.mul_zero, Nat.add_zero]
  have e : (ys.map ((·.length) ∘ Sg)).sum = ys.flatten.length := by
    rw [List.length_flatten]
    congr 1
    first
    | done
    | (apply List.map_congr_left; intro a _; exact sg_len a)
  omega
end
section
variable {K : PySem.W.Frag} {H : Hp} {Q : VK} {v x : V} {ds : List PyData}
theorem cl_isi {X : Cx} {K : PySem.W.Frag} (h : X.K = K := by rfl) : CallR X (.builtin "isinstance") (rIsi K) := h ▸ call_isi
theorem w_isiY {t n : String} (ty : TyX K H x (.type t)) (h : kitB t n = some true) (q : Q (.bl true) H) : rIsi K [x, .ty n] H Q := ⟨x, .ty n, .type t, .type n, true, rfl, .ty n, ty, kit_ty h, q⟩
theorem w_isiN {t n : String} (ty : TyX K H x (.type t)) (h : kitB t n = some false) (q : Q (.bl false) H) : rIsi K [x, .ty n] H Q := ⟨x, .ty n, .type t, .type n, false, rfl, .ty n, ty, kit_ty h, q⟩
theorem ty_tup (h : Dp K H v (.tuple ds)) : TyX K H v (.type "tuple") := by
  obtain ⟨a, xs, rfl, hs, ha⟩ := dp_tup h
  rcases hs with (hs | ⟨o, hs⟩) | ⟨o, its, n, e, c, _⟩
  · exact .base (.tup hs)
  · exact .fTuple hs
  · exact .kTuple e c
theorem ty_lst (h : Dp K H v (.list ds)) : TyX K H v (.type "list") := by
  obtain ⟨a, xs, rfl, hs, ha⟩ := dp_lst h
  rcases hs with (hs | ⟨o, hs⟩) | ⟨o, its, n, e, c, _⟩
  · exact .base (.lst hs)
  · exact .base (.frz hs)
  · exact .kList e c
theorem ty_int {i : Int} : TyX K H (.int i) (.type "int") := .base (.int i)
theorem ty_non : TyX K H .non (.type "NoneType") := .base .non
theorem ty_bl {b : Bool} : TyX K H (.bl b) (.type "bool") := .base (.bl b)
theorem ty_str {s : Str} : TyX K H (.str s) (.type "str") := .base (.str s)
end
end Tw
namespace Tw
open PySem PySem.Spec PyProof.Rows L2
/-! ### ratios in lowest terms -/
def red (p q : Nat) : Nat × Nat := (p / Nat.gcd p q, q / Nat.gcd p q)
theorem red_pos {p q : Nat} (h : 0 < q) : 0 < (red p q).2 := Nat.div_pos (Nat.le_of_dvd h (Nat.gcd_dvd_right p q)) (Nat.gcd_pos_of_pos_right p h)
theorem red_coprime {p q : Nat} (h : 0 < q) : Nat.Coprime (red p q).1 (red p q).2 := Nat.coprime_div_gcd_div_gcd (Nat.gcd_pos_of_pos_right p h)
theorem red_cross {p q : Nat} : (red p q).1 * q = p * (red p q).2 := by
  have h1 := Nat.gcd_dvd_left p q
  have h2 := Nat.gcd_dvd_right p q
  show p / Nat.gcd p q * q = p * (q / Nat.gcd p q)
  rw [← Nat.mul_div_assoc p h2, Nat.div_mul_right_comm h1]
theorem red_unique {a b c d : Nat} (hb : 0 < b) (hd : 0 < d) (h1 : Nat.Coprime a b) (h2 : Nat.Coprime c d) (h : a * d = c * b) : a = c ∧ b = d := by
  have e1 : b ∣ d := h1.symm.dvd_of_dvd_mul_left (by rw [h]; exact Nat.dvd_mul_left b c)
  have e2 : d ∣ b := h2.symm.dvd_of_dvd_mul_left (by rw [← h]; exact Nat.dvd_mul_left d a)
  have e3 := Nat.dvd_antisymm e1 e2
  subst e3
  exact ⟨Nat.eq_of_mul_eq_mul_right hb h, rfl⟩
theorem red_eq {p q p' q' : Nat} (hq : 0 < q) (hq' : 0 < q') (h : p * q' = p' * q) : red p q = red p' q' := by
  have e := red_unique (red_pos (p := p) hq) (red_pos (p := p') hq') (red_coprime hq) (red_coprime hq') (by
    have h1 := red_cross (p := p) (q := q)
    have h2 := red_cross (p := p') (q := q')
    have h3 : (red p q).1 * (red p' q').2 * (q * q') = (red p' q').1 * (red p q).2 * (q * q') := by grind
    exact Nat.eq_of_mul_eq_mul_right (Nat.mul_pos hq hq') h3)
  exact Prod.ext e.1 e.2
theorem red_self {p q : Nat} (h : Nat.Coprime p q) : red p q = (p, q) := by
  unfold red
  rw [show Nat.gcd p q = 1 from h, Nat.div_one, Nat.div_one]
theorem red_of {x : Nat × Nat} {p q : Nat} (hx : Nat.Coprime x.1 x.2) (h0 : 0 < x.2) (hq : 0 < q) (h : x.1 * q = p * x.2) : red p q = x := by
  rw [← red_eq h0 hq h, red_self hx]
theorem red_le {p q : Nat} : (red p q).2 ≤ q := Nat.div_le_self _ _
theorem red_le1 {p q : Nat} : (red p q).1 ≤ p := Nat.div_le_self _ _
theorem red_dvd {p q : Nat} : (red p q).2 ∣ q := Nat.div_dvd_of_dvd (Nat.gcd_dvd_right p q)
theorem red_lt {p q : Nat} (h : p < q) : (red p q).1 < (red p q).2 := Nat.div_lt_div_of_lt_of_dvd (Nat.gcd_dvd_right p q) h
/-! ### places -/
def CN : Nat := 56525307072677432455503587098948920087821904549333509463754043204567040000
theorem CN_pos : 0 < CN := by decide +kernel
theorem CN_lt : CN < 2 ^ 250 := by decide +kernel
theorem CN_dvdAll : ∀ m : Fin 24, ∀ n : Fin 25, 1 ≤ n.val → m.val + n.val ≤ 24 → CN % (2 ^ m.val * (2 ^ n.val - 1)) = 0 := by decide +kernel
theorem CN_dvd {m n : Nat} (hn : 1 ≤ n) (h : m + n ≤ 24) : 2 ^ m * (2 ^ n - 1) ∣ CN := Nat.dvd_of_mod_eq_zero (CN_dvdAll ⟨m, by omega⟩ ⟨n, by omega⟩ hn h)
theorem two_pow_pos (n : Nat) : 0 < 2 ^ n := Nat.pow_pos (by decide)
theorem bot_pos {m n : Nat} (hn : 1 ≤ n) : 0 < 2 ^ m * (2 ^ n - 1) := by
  have h1 : 2 ≤ 2 ^ n := by
    calc 2 = 2 ^ 1 := rfl
      _ ≤ 2 ^ n := Nat.pow_le_pow_right (by decide) hn
  exact Nat.mul_pos (two_pow_pos m) (by omega)
theorem bot_lt {m n : Nat} (h : m + n ≤ 24) : 2 ^ m * (2 ^ n - 1) < 2 ^ 24 := by
  have h0 := two_pow_pos n
  have h1 := two_pow_pos m
  calc 2 ^ m * (2 ^ n - 1) < 2 ^ m * 2 ^ n := Nat.mul_lt_mul_of_pos_left (by omega) h1
    _ = 2 ^ (m + n) := (Nat.pow_add 2 m n).symm
    _ ≤ 2 ^ 24 := Nat.pow_le_pow_right (by decide) h
/-- a place -/
structure Plc (x : Nat × Nat) : Prop where
  lt : x.1 < x.2
  cop : Nat.Coprime x.1 x.2
  bot : ∃ m n, 1 ≤ n ∧ m + n ≤ 24 ∧ x.2 ∣ 2 ^ m * (2 ^ n - 1)
section
variable {x y z a b : Nat × Nat}
theorem Plc.dvd (h : Plc x) : x.2 ∣ CN := by
  obtain ⟨m, n, h1, h2, h3⟩ := h.bot
  exact Nat.dvd_trans h3 (CN_dvd h1 h2)
theorem Plc.pos (h : Plc x) : 0 < x.2 := Nat.lt_of_le_of_lt (Nat.zero_le _) h.lt
theorem Plc.small (h : Plc x) : x.2 < 2 ^ 24 := by
  obtain ⟨m, n, h1, h2, h3⟩ := h.bot
  exact Nat.lt_of_le_of_lt (Nat.le_of_dvd (bot_pos h1) h3) (bot_lt h2)
/-- steps of 1 / CN from zero -/
def sz (x : Nat × Nat) : Nat := x.1 * (CN / x.2)
theorem sz_mul (h : Plc x) : sz x * x.2 = x.1 * CN := by
  unfold sz
  rw [Nat.mul_assoc, Nat.div_mul_cancel h.dvd]
theorem sz_lt (h : Plc x) : sz x < CN := by
  have h1 := sz_mul h
  have h2 : sz x * x.2 < CN * x.2 := by
    rw [h1, Nat.mul_comm CN]
    exact Nat.mul_lt_mul_of_pos_right h.lt CN_pos
  exact Nat.lt_of_mul_lt_mul_right h2
theorem sz_red (h : Plc x) : red (sz x) CN = x := red_of h.cop h.pos CN_pos (sz_mul h).symm
theorem sz_inj (h : Plc x) (h' : Plc y) (e : sz x = sz y) : x = y := by rw [← sz_red h, ← sz_red h', e]
theorem sz_less (h : Plc x) (h' : Plc y) : (x.1 * y.2 < y.1 * x.2 ↔ sz x < sz y) := by
  have h1 := sz_mul h
  have h2 := sz_mul h'
  have p := h.pos
  have p' := h'.pos
  have e1 : x.1 * y.2 * CN = sz x * (x.2 * y.2) := by grind
  have e2 : y.1 * x.2 * CN = sz y * (x.2 * y.2) := by grind
  constructor
  · intro l
    have : x.1 * y.2 * CN < y.1 * x.2 * CN := Nat.mul_lt_mul_of_pos_right l CN_pos
    rw [e1, e2] at this
    exact Nat.lt_of_mul_lt_mul_right this
  · intro l
    have : sz x * (x.2 * y.2) < sz y * (x.2 * y.2) := Nat.mul_lt_mul_of_pos_right l (Nat.mul_pos p p')
    rw [← e1, ← e2] at this
    exact Nat.lt_of_mul_lt_mul_right this
/-- the way up from a to b -/
def wu (a b : Nat × Nat) : Nat := (sz b + (CN - sz a)) % CN
theorem wu_lt : wu a b < CN := Nat.mod_lt _ CN_pos
theorem wu_eq (ha : Plc a) (hb : Plc b) : wu a b = if sz a ≤ sz b then sz b - sz a else sz b + CN - sz a := by
  have h1 := sz_lt ha
  have h2 := sz_lt hb
  unfold wu
  split
  · rw [show sz b + (CN - sz a) = (sz b - sz a) + CN by omega, Nat.add_mod_right, Nat.mod_eq_of_lt (by omega)]
  · rw [Nat.mod_eq_of_lt (by omega)]; omega
theorem wu_int (ha : Plc a) (hb : Plc b) : ((sz b : Int) - sz a) % (CN : Int) = (wu a b : Int) := by
  have h1 := sz_lt ha
  have h2 := sz_lt hb
  rw [wu_eq ha hb]
  split
  · rw [Int.emod_eq_of_lt (by omega) (by omega)]; omega
  · rw [← Int.add_emod_right, Int.emod_eq_of_lt (by omega) (by omega)]; omega
def arcN (a b : Nat × Nat) : Nat × Nat := red (wu a b) CN
/-- the mirrored place -/
def mirN (x : Nat × Nat) : Nat × Nat := (if x.1 = 0 then 0 else x.2 - x.1, x.2)
theorem mir_plc (h : Plc x) : Plc (mirN x) := by
  have h1 := h.lt
  refine ⟨?_, ?_, h.bot⟩
  · show (if x.1 = 0 then 0 else x.2 - x.1) < x.2
    split <;> omega
  · show Nat.Coprime (if x.1 = 0 then 0 else x.2 - x.1) x.2
    have hc := h.cop
    split
    · rename_i e
      rw [e] at hc
      exact hc
    · unfold Nat.Coprime at hc ⊢
      rw [Nat.gcd_comm, Nat.gcd_self_sub_right (Nat.le_of_lt h1), Nat.gcd_comm]
      exact hc
theorem mir_sz (h : Plc x) : sz (mirN x) = if sz x = 0 then 0 else CN - sz x := by
  have h1 := sz_mul h
  have h3 := sz_mul (mir_plc h)
  have hp := h.pos
  have hl := h.lt
  have hs := sz_lt h
  have e2 : (mirN x).2 = x.2 := rfl
  have e1 : (mirN x).1 = if x.1 = 0 then 0 else x.2 - x.1 := rfl
  rw [e2, e1] at h3
  by_cases h0 : x.1 = 0
  · have : sz x = 0 := by unfold sz; rw [h0, Nat.zero_mul]
    rw [if_pos this]
    rw [if_pos h0, Nat.zero_mul] at h3
    rcases Nat.mul_eq_zero.mp h3 with h | h
    · exact h
    · omega
  · have hn : sz x ≠ 0 := by
      intro z
      rw [z, Nat.zero_mul] at h1
      rcases Nat.mul_eq_zero.mp h1.symm with h | h
      · exact h0 h
      · have := CN_pos; omega
    rw [if_neg hn]
    rw [if_neg h0, Nat.sub_mul, ← h1] at h3
    have e : sz (mirN x) * x.2 = (CN - sz x) * x.2 := by rw [h3, Nat.sub_mul, Nat.mul_comm CN]
    exact Nat.eq_of_mul_eq_mul_right hp e
theorem mir_wu (ha : Plc a) (hb : Plc b) : wu (mirN b) (mirN a) = wu a b := by
  have h1 := sz_lt ha
  have h2 := sz_lt hb
  rw [wu_eq (mir_plc hb) (mir_plc ha), wu_eq ha hb, mir_sz ha, mir_sz hb]
  (repeat' split) <;> omega
end
def pd (x : Nat × Nat) : PyData := .tuple [.int x.1, .int x.2]
theorem pd_inj {x y : Nat × Nat} (h : pd x = pd y) : x = y := by
  simp only [pd, PyData.tuple.injEq, List.cons.injEq, PyData.int.injEq, and_true] at h
  exact Prod.ext (by omega) (by omega)
theorem pd_pln {k : Nat} (x : Nat × Nat) : pln (k + 1) (pd x) = true := by
  cases k <;> simp [pd, pln]
theorem pd_noL (x : Nat × Nat) : noL (pd x) = true := rfl
end Tw
namespace Tw
open PySem PySem.Spec PyProof.Rows L2
theorem mir_int {x : Nat × Nat} (h : x.1 < x.2) : (-(x.1 : Int)) % (x.2 : Int) = ((mirN x).1 : Int) := by
  show _ = (((if x.1 = 0 then 0 else x.2 - x.1) : Nat) : Int)
  split
  · rename_i e; rw [e]; simp
  · rw [← Int.add_emod_right, Int.emod_eq_of_lt (by omega) (by omega)]; omega
/-! ### doubling -/
def dblN (x : Nat × Nat) : Nat × Nat := if x.2 % 2 = 0 then (x.1 % (x.2 / 2), x.2 / 2) else (2 * x.1 % x.2, x.2)
theorem odd_of_dvd {b n : Nat} (hn : 1 ≤ n) (h : b ∣ 2 ^ 0 * (2 ^ n - 1)) : b % 2 = 1 := by
  obtain ⟨k, hk⟩ := h
  rw [Nat.pow_zero, Nat.one_mul] at hk
  have h1 : 2 ^ n = 2 * 2 ^ (n - 1) := by rw [← Nat.pow_succ']; congr 1; omega
  have h0 := two_pow_pos (n - 1)
  rcases Nat.mod_two_eq_zero_or_one b with hb | hb
  · have hb2 : b = 2 * (b / 2) := by omega
    rw [hb2, Nat.mul_assoc] at hk
    omega
  · exact hb
theorem dbl_plc {x : Nat × Nat} (h : Plc x) : Plc (dblN x) := by
  obtain ⟨m, n, h1, h2, h3⟩ := h.bot
  have hp := h.pos
  have hl := h.lt
  have hc := h.cop
  unfold dblN
  split
  · rename_i e
    have hx : x.2 = 2 * (x.2 / 2) := by omega
    have hq : 0 < x.2 / 2 := by omega
    have hm : 1 ≤ m := by
      cases m with
      | zero => have := odd_of_dvd h1 h3; omega
      | succ m => omega
    refine ⟨Nat.mod_lt _ hq, ?_, m - 1, n, h1, by omega, ?_⟩
    · show Nat.Coprime (x.1 % (x.2 / 2)) (x.2 / 2)
      have hd : Nat.gcd x.1 (x.2 / 2) ∣ Nat.gcd x.1 x.2 := Nat.dvd_gcd (Nat.gcd_dvd_left _ _) (Nat.dvd_trans (Nat.gcd_dvd_right _ _) ⟨2, by omega⟩)
      rw [show Nat.gcd x.1 x.2 = 1 from hc] at hd
      unfold Nat.Coprime
      rw [← Nat.gcd_rec, Nat.gcd_comm]
      exact Nat.dvd_one.mp hd
    · show x.2 / 2 ∣ _
      have e2 : 2 ^ m = 2 * 2 ^ (m - 1) := by rw [← Nat.pow_succ']; congr 1; omega
      rw [hx, e2, Nat.mul_assoc] at h3
      exact Nat.dvd_of_mul_dvd_mul_left (by decide) h3
  · rename_i e
    refine ⟨Nat.mod_lt _ hp, ?_, m, n, h1, h2, h3⟩
    show Nat.Coprime (2 * x.1 % x.2) x.2
    unfold Nat.Coprime
    rw [← Nat.gcd_rec]
    have h2c : Nat.Coprime x.2 2 := by
      unfold Nat.Coprime
      rw [Nat.gcd_comm, Nat.gcd_rec, show x.2 % 2 = 1 by omega]
      rfl
    exact Nat.Coprime.mul_right h2c hc.symm
/-! ### digits -/
def bv (l : List Nat) : Nat := l.foldl (fun s c => 2 * s + (c - 48)) 0
def Dg (l : List Nat) : Prop := ∀ c ∈ l, c = 48 ∨ c = 49
theorem bv_snoc (l : List Nat) (c : Nat) : bv (l ++ [c]) = 2 * bv l + (c - 48) := by simp [bv, List.foldl_append]
theorem bv_lt : ∀ (l : List Nat), Dg l → bv l < 2 ^ l.length := by
  intro l
  induction hn : l.length generalizing l with
  | zero => intro _; rw [List.length_eq_zero_iff.mp hn]; decide
  | succ n ih =>
    intro h
    have hne : l ≠ [] := fun z => by rw [z] at hn; simp at hn
    have hl : l.dropLast.length = n := by rw [List.length_dropLast]; omega
    have h1 := ih l.dropLast hl (fun c hc => h c (List.dropLast_subset l hc))
    have h2 := h (l.getLast hne) (List.getLast_mem hne)
    rw [← List.dropLast_concat_getLast hne, bv_snoc, Nat.pow_succ]
    omega
def botN (h c : List Nat) : Nat := 2 ^ h.length * (2 ^ c.length - 1)
def binN (h c : List Nat) : Nat × Nat := red ((bv h * (2 ^ c.length - 1) + bv c) % botN h c) (botN h c)
theorem botN_pos {h c : List Nat} (hc : c ≠ []) : 0 < botN h c := bot_pos (List.length_pos_iff.mpr hc)
theorem bin_plc {h c : List Nat} (hc : c ≠ []) (hl : h.length + c.length ≤ 24) : Plc (binN h c) :=
  ⟨red_lt (Nat.mod_lt _ (botN_pos hc)), red_coprime (botN_pos hc), h.length, c.length, List.length_pos_iff.mpr hc, hl, red_dvd⟩
/-! ### what readings ask -/
section
variable {K : PySem.W.Frag} {σ : L2.St} {H : Hp} {Q : VK} {v y : V} {x : Nat × Nat} {p q : Nat}
theorem w_gcdN (h : Q (.int ((Nat.gcd p q : Nat) : Int)) H) : rGcd [.int (p : Int), .int (q : Int)] H Q := ⟨p, q, rfl, by simpa using h⟩
theorem w_ix0 (h : Dp K H v (pd x)) (q : Q (.int (x.1 : Int)) H) : rIxT K v (.int 0) H Q := w_ixT (j := 0) h rfl rfl fun v' hv => by cases hv; exact q
theorem w_ix1 (h : Dp K H v (pd x)) (q : Q (.int (x.2 : Int)) H) : rIxT K v (.int 1) H Q := w_ixT (j := 1) h rfl rfl fun v' hv => by cases hv; exact q
theorem w_gTupP {i j : Nat} {Q : L2.St → Hp → Prop} (h : Dp K H v (pd x)) (q : Q ((σ.set i (some (.int (x.1 : Int)))).set j (some (.int (x.2 : Int)))) H) : gTup K 2 (gCons (gName i) (gCons (gName j) gNil)) v σ H Q :=
  w_gTup2 h fun v1 v2 h1 h2 => by cases h1; cases h2; exact q
def rAbs : List V → Hp → VK → Prop := fun xs H Q => ∃ i, xs = [.int i] ∧ Q (.int (if i < 0 then -i else i)) H
theorem cl_abs {X : Cx} : CallR X (.builtin "abs") rAbs := call_abs
theorem w_absN (h : Q (.int (p : Int)) H) : rAbs [.int (p : Int)] H Q := ⟨p, rfl, by rw [if_neg (by omega)]; exact h⟩
theorem w_absI {i : Int} (h : Q (.int (i.natAbs : Int)) H) : rAbs [.int i] H Q := ⟨i, rfl, by
  rw [show (if i < 0 then -i else i) = (i.natAbs : Int) by split <;> omega]; exact h⟩
def rIntS : List V → Hp → VK → Prop := fun xs H Q => ∃ a n, xs = [.str a] ∧ PySem.intText? a = some n ∧ a.length ≤ 640 ∧ Q (.int n) H
theorem cl_intS {X : Cx} : CallR X (.type "int") rIntS := call_int_str
theorem int_0 : PySem.intText? (Sg [48]) = some 0 := by decide +kernel
theorem int_1 : PySem.intText? (Sg [49]) = some 1 := by decide +kernel
theorem w_intS {c : Nat} (hc : c = 48 ∨ c = 49) (h : Q (.int ((c - 48 : Nat) : Int)) H) : rIntS [.str (Sg [c])] H Q := by
  rcases hc with rfl | rfl
  · exact ⟨Sg [48], 0, rfl, int_0, by decide, h⟩
  · exact ⟨Sg [49], 1, rfl, int_1, by decide, h⟩
theorem op_inDK {X : Cx} {K : PySem.W.Frag} (hu : X.A.units + 65 < cLine) (h : X.K = K := by rfl) : OpR X (compareOp .In) (rInD K) := h ▸ op_inD hu
theorem op_notInDK {X : Cx} {K : PySem.W.Frag} (hu : X.A.units + 65 < cLine) (h : X.K = K := by rfl) : OpR X (compareOp .NotIn) (rNotInD K) := h ▸ op_notInD hu
theorem any_eqv {d : PyData} {ds : List PyData} (hd : pln 8 d = true) (hs : ∀ z ∈ ds, pln 8 z = true) : (ds.any fun z => PyData.eqv z d) = true ↔ d ∈ ds := by
  rw [List.any_eq_true]
  constructor
  · rintro ⟨z, hz, e⟩
    rw [(pln_eqv 8 8 z d (hs z hz) hd).mp e] at hz
    exact hz
  · intro h
    exact ⟨d, h, (pln_eqv 8 8 d d hd hd).mpr rfl⟩
theorem pln_list {k : Nat} {ds : List PyData} (h : ∀ z ∈ ds, pln k z = true) : pln (k + 1) (.list ds) = true := by simpa [pln] using h
theorem pln_tuple {k : Nat} {ds : List PyData} (h : ∀ z ∈ ds, pln k z = true) : pln (k + 1) (.tuple ds) = true := by simpa [pln] using h
theorem w_inP {d : PyData} {ds : List PyData} (h1 : Dp K H v d) (h2 : Dp K H y (.list ds)) (p1 : pln 8 d = true) (p2 : ∀ z ∈ ds, pln 8 z = true) (q1 : d ∈ ds → Q (.bl true) H) (q2 : d ∉ ds → Q (.bl false) H) : rInD K v y H Q := by
  refine ⟨d, ds, h1, h2, pln_shaped p1 (by decide), pln_shaped (pln_list p2) (by decide), ?_⟩
  have r := any_eqv p1 p2
  cases he : (ds.any fun z => PyData.eqv z d) with
  | true => exact q1 (r.mp he)
  | false => exact q2 (fun z => by rw [r.mpr z] at he; cases he)
theorem w_notInP {d : PyData} {ds : List PyData} (h1 : Dp K H v d) (h2 : Dp K H y (.list ds)) (p1 : pln 8 d = true) (p2 : ∀ z ∈ ds, pln 8 z = true) (q1 : d ∈ ds → Q (.bl false) H) (q2 : d ∉ ds → Q (.bl true) H) : rNotInD K v y H Q := by
  refine ⟨d, ds, h1, h2, pln_shaped p1 (by decide), pln_shaped (pln_list p2) (by decide), ?_⟩
  have r := any_eqv p1 p2
  cases he : (ds.any fun z => PyData.eqv z d) with
  | true => exact q1 (r.mp he)
  | false => exact q2 (fun z => by rw [r.mpr z] at he; cases he)
theorem Room65 {k : Nat} {A : Around} (r : Room k A) : A.units + 65 < cLine := by have := r.un; omega
end
/-! ### Euclid's steps -/
structure Eu (a b : Nat) (i a' b' : Nat) : Prop where
  g : Nat.gcd a' b' = Nat.gcd a b
  s : i = 0 → b' = b
  l : 1 ≤ i → b' < a' ∧ a' * b' * 2 ^ (i - 1) < 2 ^ 380 ∨ b' = 0
theorem Eu.start (a b : Nat) : Eu a b 0 a b := ⟨rfl, fun _ => rfl, fun h => by omega⟩
theorem Eu.step {a b i a' b' : Nat} (hb : b < 2 ^ 190) (h : Eu a b i a' b') (h0 : b' ≠ 0) : Eu a b (i + 1) b' (a' % b') := by
  have hlt : a' % b' < b' := Nat.mod_lt _ (by omega)
  refine ⟨?_, fun z => by omega, fun _ => ?_⟩
  · rw [← h.g, Nat.gcd_comm b', ← Nat.gcd_rec, Nat.gcd_comm]
  · left
    refine ⟨hlt, ?_⟩
    rw [Nat.add_sub_cancel]
    by_cases hi : i = 0
    · subst hi
      have e := h.s rfl
      subst e
      rw [Nat.pow_zero, Nat.mul_one]
      calc b' * (a' % b') ≤ b' * b' := Nat.mul_le_mul_left _ (Nat.le_of_lt hlt)
        _ < 2 ^ 190 * 2 ^ 190 := Nat.mul_lt_mul'' hb hb
        _ = 2 ^ 380 := by rw [← Nat.pow_add]
    · rcases h.l (by omega) with ⟨h1, h2⟩ | h1
      · have h3 : 2 * (a' % b') ≤ a' := by
          have := Nat.div_add_mod a' b'
          have : 1 ≤ a' / b' := Nat.div_pos (by omega) (by omega)
          have : b' * 1 ≤ b' * (a' / b') := Nat.mul_le_mul_left _ this
          omega
        have e : 2 ^ i = 2 * 2 ^ (i - 1) := by rw [← Nat.pow_succ']; congr 1; omega
        calc b' * (a' % b') * 2 ^ i = b' * (2 * (a' % b')) * 2 ^ (i - 1) := by rw [e]; grind
          _ ≤ b' * a' * 2 ^ (i - 1) := Nat.mul_le_mul_right _ (Nat.mul_le_mul_left _ h3)
          _ = a' * b' * 2 ^ (i - 1) := by rw [Nat.mul_comm b']
          _ < 2 ^ 380 := h2
      · exact absurd h1 h0
theorem Eu.done {a b i a' b' : Nat} (h : Eu a b i a' b') (hi : 382 ≤ i) : a' = Nat.gcd a b := by
  have : b' = 0 := by
    rcases h.l (by omega) with ⟨h1, h2⟩ | h1
    · by_cases hb : b' = 0
      · exact hb
      · exfalso
        have h3 : 1 ≤ a' * b' := Nat.mul_pos (by omega) (by omega)
        have h4 : 2 ^ 380 ≤ 2 ^ (i - 1) := Nat.pow_le_pow_right (by decide) (by omega)
        have h5 : 1 * 2 ^ (i - 1) ≤ a' * b' * 2 ^ (i - 1) := Nat.mul_le_mul_right _ h3
        omega
    · exact h1
  rw [← h.g, this, Nat.gcd_zero_right]
theorem Eu.zero {a b i a' : Nat} (h : Eu a b i a' 0) : a' = Nat.gcd a b := by rw [← h.g, Nat.gcd_zero_right]
end Tw
namespace Tw
open PySem PySem.Spec PyProof.Rows L2
/-- x lies between a and b, going up from a (by the law's own look) -/
def btw (a x b : Nat × Nat) : Prop := if sz a < sz b then sz a < sz x ∧ sz x < sz b else sz a < sz x ∨ sz x < sz b
instance {a x b : Nat × Nat} : Decidable (btw a x b) := by unfold btw; infer_instance
theorem btw_wu {a x b : Nat × Nat} (ha : Plc a) (hx : Plc x) (hb : Plc b) (h1 : x ≠ a) (h2 : x ≠ b) (h3 : a ≠ b) : btw a x b ↔ (0 < wu a x ∧ wu a x < wu a b) := by
  have s1 := sz_lt ha
  have s2 := sz_lt hx
  have s3 := sz_lt hb
  have n1 : sz x ≠ sz a := fun z => h1 (sz_inj hx ha z)
  have n2 : sz x ≠ sz b := fun z => h2 (sz_inj hx hb z)
  have n3 : sz a ≠ sz b := fun z => h3 (sz_inj ha hb z)
  rw [wu_eq ha hx, wu_eq ha hb]
  unfold btw
  (repeat' split) <;> omega
theorem wu_self {a : Nat × Nat} (ha : Plc a) : wu a a = 0 := by rw [wu_eq ha ha]; simp
theorem arc_top {a b : Nat × Nat} (ha : Plc a) (hb : Plc b) : ∃ n : Nat, (if 0 ≤ (b.1 : Int) * a.2 - (a.1 : Int) * b.2 then (b.1 : Int) * a.2 - (a.1 : Int) * b.2 else (b.1 : Int) * a.2 - (a.1 : Int) * b.2 + (a.2 : Int) * b.2) = (n : Int) ∧ n * CN = wu a b * (a.2 * b.2) := by
  have e1 := sz_mul ha
  have e2 := sz_mul hb
  have p1 := ha.lt
  have p2 := hb.lt
  have hl : (a.1 * b.2 ≤ b.1 * a.2 ↔ sz a ≤ sz b) := by
    have := sz_less hb ha
    omega
  have u1 : b.1 * a.2 * CN = sz b * (a.2 * b.2) := by grind
  have u2 : a.1 * b.2 * CN = sz a * (a.2 * b.2) := by grind
  have hab : a.1 * b.2 ≤ a.2 * b.2 := Nat.mul_le_mul_right _ (Nat.le_of_lt p1)
  have c1 : (b.1 : Int) * a.2 = ((b.1 * a.2 : Nat) : Int) := rfl
  have c2 : (a.1 : Int) * b.2 = ((a.1 * b.2 : Nat) : Int) := rfl
  have c3 : (a.2 : Int) * b.2 = ((a.2 * b.2 : Nat) : Int) := rfl
  rw [c1, c2, c3, wu_eq ha hb]
  have s1 := sz_lt ha
  by_cases h : sz a ≤ sz b
  · have h' := hl.mpr h
    refine ⟨b.1 * a.2 - a.1 * b.2, by rw [if_pos (by omega)]; omega, ?_⟩
    rw [if_pos h, Nat.sub_mul, Nat.sub_mul, u1, u2]
  · have h' : ¬ a.1 * b.2 ≤ b.1 * a.2 := fun z => h (hl.mp z)
    refine ⟨b.1 * a.2 + a.2 * b.2 - a.1 * b.2, by rw [if_neg (by omega)]; omega, ?_⟩
    rw [if_neg h, Nat.sub_mul, Nat.add_mul, u1, u2, Nat.sub_mul, Nat.add_mul, Nat.mul_comm CN]
/-- sums of arcs -/
theorem red_add {n k : Nat} {x y : Nat × Nat} (hx : x = red n CN) (hy : y = red k CN) : red (x.1 * y.2 + y.1 * x.2) (x.2 * y.2) = red (n + k) CN := by
  have h1 := red_cross (p := n) (q := CN)
  have h2 := red_cross (p := k) (q := CN)
  have p1 := red_pos (p := n) CN_pos
  have p2 := red_pos (p := k) CN_pos
  rw [← hx] at h1 p1
  rw [← hy] at h2 p2
  refine red_eq (Nat.mul_pos p1 p2) CN_pos ?_
  grind
theorem red_one : red CN CN = (1, 1) := by
  unfold red; rw [Nat.gcd_self, Nat.div_self CN_pos]
theorem red_two : red (2 * CN) CN = (2, 1) := by
  unfold red
  rw [Nat.gcd_comm, Nat.gcd_mul_left_right, Nat.div_self CN_pos, Nat.mul_div_cancel _ CN_pos]
theorem red_ne {n k : Nat} (h : red n CN = red k CN) : n = k := by
  have h1 := red_cross (p := n) (q := CN)
  have h2 := red_cross (p := k) (q := CN)
  have p1 := red_pos (p := n) CN_pos
  rw [h] at h1
  rw [h] at p1
  have := h1.symm.trans h2
  exact Nat.eq_of_mul_eq_mul_right p1 this
theorem arc_bd {a b : Nat × Nat} (ha : Plc a) (hb : Plc b) : 0 < (arcN a b).2 ∧ (arcN a b).2 < 2 ^ 48 ∧ (arcN a b).1 < 2 ^ 48 := by
  have p1 := ha.small
  have p3 := hb.small
  have hd : a.2 * b.2 < 2 ^ 48 := by
    calc a.2 * b.2 < 2 ^ 24 * 2 ^ 24 := Nat.mul_lt_mul'' p1 p3
      _ = 2 ^ 48 := by rw [← Nat.pow_add]
  have hpos : 0 < a.2 * b.2 := Nat.mul_pos ha.pos hb.pos
  obtain ⟨n, _, hn⟩ := arc_top ha hb
  have e : arcN a b = red n (a.2 * b.2) := (red_eq hpos CN_pos hn).symm
  have h1 := red_le (p := n) (q := a.2 * b.2)
  have h2 := red_pos (p := n) hpos
  have h3 : (arcN a b).1 < (arcN a b).2 := red_lt wu_lt
  rw [← e] at h1 h2
  omega
theorem wu_back {a b : Nat × Nat} (ha : Plc a) (hb : Plc b) (h : a ≠ b) : wu a b + wu b a = CN := by
  have s1 := sz_lt ha
  have s3 := sz_lt hb
  have n3 : sz a ≠ sz b := fun z => h (sz_inj ha hb z)
  rw [wu_eq ha hb, wu_eq hb ha]
  (repeat' split) <;> omega
theorem arc_mir {a b : Nat × Nat} (ha : Plc a) (hb : Plc b) : arcN (mirN b) (mirN a) = arcN a b := by unfold arcN; rw [mir_wu ha hb]
theorem sum_bd {a x b : Nat × Nat} (ha : Plc a) (hx : Plc x) (hb : Plc b) :
    0 < (red ((arcN a x).1 * (arcN x b).2 + (arcN x b).1 * (arcN a x).2) ((arcN a x).2 * (arcN x b).2)).2 ∧ (red ((arcN a x).1 * (arcN x b).2 + (arcN x b).1 * (arcN a x).2) ((arcN a x).2 * (arcN x b).2)).2 < 2 ^ 96 ∧
    (red ((arcN a x).1 * (arcN x b).2 + (arcN x b).1 * (arcN a x).2) ((arcN a x).2 * (arcN x b).2)).1 < 2 ^ 97 := by
  have b1 := arc_bd ha hx
  have b2 := arc_bd hx hb
  have hq : (arcN a x).2 * (arcN x b).2 < 2 ^ 96 := by
    calc (arcN a x).2 * (arcN x b).2 < 2 ^ 48 * 2 ^ 48 := Nat.mul_lt_mul'' b1.2.1 b2.2.1
      _ = 2 ^ 96 := by rw [← Nat.pow_add]
  have h1 : (arcN a x).1 * (arcN x b).2 < 2 ^ 96 := by
    calc (arcN a x).1 * (arcN x b).2 < 2 ^ 48 * 2 ^ 48 := Nat.mul_lt_mul'' b1.2.2 b2.2.1
      _ = 2 ^ 96 := by rw [← Nat.pow_add]
  have h2 : (arcN x b).1 * (arcN a x).2 < 2 ^ 96 := by
    calc (arcN x b).1 * (arcN a x).2 < 2 ^ 48 * 2 ^ 48 := Nat.mul_lt_mul'' b2.2.2 b1.2.1
      _ = 2 ^ 96 := by rw [← Nat.pow_add]
  exact ⟨red_pos (Nat.mul_pos b1.1 b2.1), Nat.lt_of_le_of_lt red_le hq, Nat.lt_of_le_of_lt red_le1 (by omega)⟩
end Tw
namespace Tw
open PySem PySem.Spec PyProof.Rows L2
theorem pe_ownInit {X : Cx} {e : Expr} {es : List Expr} {ta : TA} {p1 p2 pos : Pos} {pl : Sem Bool} {x : Str} {D : Addr} (hg : Gl X x) (hm : X.mg x = some (.ref D))
    (sp : PySem.W.specialIn X.K (.ref D) "__getattribute__" = some (some (.builtin "type.__getattribute__"))) (tp : PySem.W.typeIn X.K (.ref D) = some (.type "type")) (rd : PySem.W.readsIn X.K D (.type "type") = true)
    (fc : PySem.W.findCls X.K (.ref D) (.type "type") "__init__" = some (.val (.builtin "ValueError.__init__"))) (ha : PA X (e :: es) ta) (hd : (x == ("__debug__" : Str)) = false := by rfl)
    (he : eval (.Call (.Attribute (.Name x p1) "__init__" p2) (e :: es) [] pos) X.env = (do
      let ov ← eval (.Name x p1) X.env
      standAt p2.atName
      let (f, first) ← holding [ov] (getMethod ov "__init__" pl)
      callWith pos f first (backTo pos (starEach (e :: es) X.env)) (backToKw pos (keywordEach [] X.env))) := by rfl)
    (h1 : starEach (e :: es) X.env = (false, eval e X.env) :: starEach es X.env := by rfl) (h2 : (backTo pos (starEach es X.env)).any (·.1) = false := by rfl) :
    PE X (.Call (.Attribute (.Name x p1) "__init__" p2) (e :: es) [] pos) (tVeI X.K ta) where
  run := fun pins s σ H Q I h => by
    obtain ⟨m, fr⟩ := I.fr
    have kin := I.ok.mod.kin
    refine PySem.W.methodCall_KW (ld_glob I hg hm ?_ hd) he
    refine PySem.W.method_of_cls fr kin sp (PySem.W.cls_val fr kin tp rd fc (by rfl) ?_)
    refine callWith_method1 (thn (ha.run pos pins _ σ H _ (I.tok _) h) fun us s' z => ?_) h1 h2
    obtain ⟨vs, H', I', rv, a, C, ws, rfl, hl, ox, hx, q⟩ := z
    cases rv with
    | cons r1 r2 =>
      cases r1
      refine oinit_ok ox I' hx ?_ fun s2 I2 => ⟨.non, H', I2, rfl, q⟩
      have := r2.length
      rw [sizeLine_eq]
      omega
/-- a call of a def that may raise, where it doesn't -/
theorem passF {P : Program} {w : World} {X : Cx} : Passes (CX P w) X (fun _ _ _ => False) := by
  intro pins σ H s e s' I h
  obtain ⟨_, _, _, _, _, _, _, _, _, _, _, _, h⟩ := h
  exact h.elim
/-- what the top says of an own class of errors at C -/
structure ExK (K : PySem.W.Frag) (C : Addr) : Prop where
  o : OexC K C
  f : XfC K C
/-- .. of one whose __init__ is called by name -/
structure ExB (K : PySem.W.Frag) (D : Addr) : Prop where
  sp : PySem.W.specialIn K (.ref D) "__getattribute__" = some (some (.builtin "type.__getattribute__"))
  tp : PySem.W.typeIn K (.ref D) = some (.type "type")
  rd : PySem.W.readsIn K D (.type "type") = true
  fc : PySem.W.findCls K (.ref D) (.type "type") "__init__" = some (.val (.builtin "ValueError.__init__"))
section
variable {K : PySem.W.Frag} {σ : L2.St} {H : Hp} {Q : VK} {D : Ends}
theorem w_vei {ta : TA} (h : ta σ H fun vs H1 => ∃ a C ws, vs = V.ref a :: ws ∧ ws.length ≤ 1000 ∧ OexC K C ∧ H1 a = some (exo a C none) ∧ Q V.non H1) : tVeI K ta σ H Q := h
theorem w_ost {f : Str} {to te : TE} (h : te σ H fun y H1 => to σ H1 fun x H2 => ∃ a C, x = V.ref a ∧ OexC K C ∧ PySem.W.findIn K (Value.ref C) f = some none ∧
      ((H2 a = some (exo a C none) ∧ ∀ dx : Addr, H2 dx = none → dx ≠ a → D.nx σ (upd (upd H2 dx (exd dx [(f, y)])) a (exo a C (some dx)))) ∨
        ∃ dx fs, H2 a = some (exo a C (some dx)) ∧ H2 dx = some (exd dx fs) ∧ fs.length ≤ 900 ∧ D.nx σ (upd H2 dx (exd dx ((f, y) :: fs))))) : tOst K f to te D σ H := h
theorem w_js {t : TE} {ts : List TE} {acc : Str} {Q : Str → Hp → Prop} (h : t σ H fun x H1 => ∃ y : Str, x = .str y ∧ (acc ++ y).length ≤ sizeLine ∧ tJs ts (acc ++ y) σ H1 Q) : tJs (t :: ts) acc σ H Q := h
theorem w_jsN {acc : Str} {Q : Str → Hp → Prop} (h : Q acc H) : tJs [] acc σ H Q := h
theorem w_fmt {te : TE} (h : te σ H fun x H1 => (∃ y, x = V.str y ∧ y.length ≤ sizeLine ∧ Q (V.str y) H1) ∨ ∃ i, x = V.int i ∧ i.natAbs.log2 < 1920 ∧ Q (V.str (Str.ofString (toString i))) H1) : tFmt te σ H Q := h
end
theorem exm_ofS {K : PySem.W.Frag} {C S : Addr} {b : Bool} (h1 : PySem.W.subIn K (.ref S) (.type "BaseException") = some true) (h2 : PySem.W.isClsIn K S = true) (h3 : PySem.W.typeIn K (.ref S) = some (.type "type")) (h4 : PySem.W.subIn K (.ref C) (.ref S) = some b) :
    PySem.W.exmOne K (.ref C) (.ref S) = some b := by
  have e1 : (PySem.W.subIn K (.ref S) (.type "BaseException") == some true) = true := by rw [h1] <;> rfl
  have e2 : ((PySem.W.clsIn K S).isSome && PySem.W.typeIn K (.ref S) == some (.type "type")) = true := by
    have h2' : (PySem.W.clsIn K S).isSome = true := h2
    rw [h2', h3] <;> rfl
  show (if (PySem.W.subIn K (.ref S) (.type "BaseException") == some true) = true then (if ((PySem.W.clsIn K S).isSome && PySem.W.typeIn K (.ref S) == some (.type "type")) = true then PySem.W.subIn K (.ref C) (.ref S) else none) else none) = some b
  rw [if_pos e1, if_pos e2]
  exact h4
theorem str_app (a b : Str) : (a ++ b).length = a.length + b.length := by
  show (a.cps ++ b.cps).size = _
  exact Array.size_append
theorem log2_ok {n : Int} (h0 : 0 ≤ n) (h1 : n < 1000000) : n.natAbs.log2 < 1920 := by
  by_cases z : n.natAbs = 0
  · rw [z]; decide
  · rw [Nat.log2_lt z]
    exact Nat.lt_of_lt_of_le (show n.natAbs < 2 ^ 20 by omega) (Nat.pow_le_pow_right (by decide) (by decide))
theorem strI_len {n : Int} (h0 : 0 ≤ n) (h1 : n < 1000000) : (Str.ofString (toString n)).length ≤ 6 := toString_length_le h0 (by decide) (by omega)
section
variable {K : PySem.W.Frag} {σ : L2.St} {H : Hp} {D : Ends} {C : Addr}
theorem w_mko {sp : Sp} {dvs : List V} {ta : TA} {Q : XK} (h : ta σ H fun vs H1 => vs.length ≤ 1000 ∧ ∀ a : Addr, H1 a = none → sp (V.ref a :: (vs ++ dvs)) (upd H1 a (exo a C none))
      (fun v H2 => v = V.non ∧ ∃ d fs, H2 a = some (exo a C (some d)) ∧ H2 d = some (exd d fs) ∧ H1 d = none ∧ Q (Value.ref C) (some d) (upd (del H2 a) d (HO.xd fs))) fun _ _ _ => False) : tMkO C sp dvs ta σ H Q := h
/-- the error's dict beside what stood -/
theorem raise_same {H : Hp} {a dx : Addr} {o1 o2 o3 o4 : HO} (ha : H a = none) (hd : H dx = none) : Same H (upd (del (upd (upd (upd H a o1) dx o2) a o3) a) dx o4) := fun b o e => by
  have h1 : b ≠ a := fun z => by rw [z, ha] at e; cases e
  have h2 : b ≠ dx := fun z => by rw [z, hd] at e; cases e
  rw [upd_ne h2, del_ne h1, upd_ne h1, upd_ne h2, upd_ne h1]
  exact e
end
section
variable {K : PySem.W.Frag} {σ : L2.St} {H : Hp} {Q : VK}
theorem w_callS {sp : Sp} {E : L2.St → XK} {ta : TA} (h : ta σ H fun vs H1 => sp vs H1 Q (E σ)) : tCallS sp E ta σ H Q := h
theorem w_xf {a C : Addr} {cls : Value} {d : Option Addr} {f : Str} {te : TE} (h : te σ H fun x H1 => x = V.ref a ∧ cls = Value.ref C ∧ ∃ dd fs v, d = some dd ∧ H1 dd = some (HO.xd fs) ∧ List.lookup f fs = some v ∧ Q v H1) : tXf a cls d C f te σ H Q := h
end
end Tw
namespace Tw
open PySem PySem.Spec PyProof.Rows L2
/-! ### marks counted from 1, for ever -/
def mk (l : List Nat) (k : Int) : Nat := l.getD ((k - 1) % (l.length : Int)).toNat 0
theorem mk_at {l : List Nat} {k : Int} {c : Nat} (h : l[((k - 1) % (l.length : Int)).toNat]? = some c) : c = mk l k := by
  unfold mk; rw [List.getD_eq_getElem?_getD, h]; rfl
theorem mk_per (l : List Nat) (k : Int) : mk l (k + l.length) = mk l k := by
  unfold mk
  rw [show k + (l.length : Int) - 1 = (k - 1) + l.length by omega, Int.add_emod_right]
theorem mk_last {l : List Nat} (h : l ≠ []) : mk l l.length = l.getLast h := by
  have hl : 0 < l.length := List.length_pos_iff.mpr h
  unfold mk
  rw [Int.emod_eq_of_lt (by omega) (by omega), List.getLast_eq_getElem, List.getD_eq_getElem?_getD, List.getElem?_eq_getElem (by omega)]
  simp only [Option.getD_some]
  congr 1
  omega
theorem mk_lt {l : List Nat} {k : Int} (h0 : 1 ≤ k) (h1 : k < l.length) (h : l ≠ []) : mk l k ∈ l.dropLast := by
  unfold mk
  have hl : (k - 1).toNat < l.dropLast.length := by rw [List.length_dropLast]; omega
  rw [Int.emod_eq_of_lt (by omega) (by omega), List.getD_eq_getElem?_getD, List.getElem?_eq_getElem (by omega)]
  simp only [Option.getD_some]
  rw [show l[(k - 1).toNat] = l.dropLast[(k - 1).toNat] by rw [List.getElem_dropLast]]
  exact List.getElem_mem _
theorem mk_dbl (l : List Nat) (k : Int) (h : l ≠ []) : mk (l ++ l) k = mk l k := by
  have hl : 0 < l.length := List.length_pos_iff.mpr h
  unfold mk
  rw [List.length_append]
  have e1 : (k - 1) % (l.length : Int) = ((k - 1) % ((l.length + l.length : Nat) : Int)) % (l.length : Int) := by
    rw [Int.emod_emod_of_dvd]
    exact ⟨2, by push_cast; omega⟩
  have h0 := Int.emod_nonneg (k - 1) (b := ((l.length + l.length : Nat) : Int)) (by omega)
  have h1 := Int.emod_lt_of_pos (k - 1) (b := ((l.length + l.length : Nat) : Int)) (by omega)
  generalize (k - 1) % ((l.length + l.length : Nat) : Int) = z at *
  rw [e1, List.getD_eq_getElem?_getD, List.getD_eq_getElem?_getD]
  by_cases hz : z < l.length
  · rw [List.getElem?_append_left (by omega), Int.emod_eq_of_lt h0 hz]
  · rw [List.getElem?_append_right (by omega)]
    have e2 : z % (l.length : Int) = z - l.length := by
      rw [← Int.emod_eq_of_lt (show 0 ≤ z - (l.length : Int) by omega) (show z - (l.length : Int) < l.length by omega), Int.sub_emod_right]
    rw [e2]
    congr 2
    omega
def Un (l : List Nat) (m : Int) : Option Int → Prop
  | some k => m < k ∧ mk l k ≠ mk l (k - m) ∧ ∀ j, m < j → j < k → mk l j = mk l (j - m)
  | none => ∀ j, m < j → mk l j = mk l (j - m)
theorem Un.unique {l : List Nat} {m : Int} {r r' : Option Int} (h : Un l m r) (h' : Un l m r') : r = r' := by
  cases r with
  | none =>
    cases r' with
    | none => rfl
    | some k => exact absurd (h k h'.1) h'.2.1
  | some k =>
    cases r' with
    | none => exact absurd (h' k h.1) h.2.1
    | some k' =>
      obtain ⟨a, b, c⟩ := h
      obtain ⟨a', b', c'⟩ := h'
      congr 1
      rcases Int.lt_trichotomy k k' with z | z | z
      · exact absurd (c' k a z) b
      · exact z
      · exact absurd (c k' a' z) b'
theorem scan_none {l : List Nat} {m : Int} (hl : l ≠ []) (h : ∀ j, m < j → j ≤ m + l.length → mk l j = mk l (j - m)) : Un l m none := by
  have hp : 0 < l.length := List.length_pos_iff.mpr hl
  have all : ∀ n : Nat, ∀ j, m < j → j ≤ m + n → mk l j = mk l (j - m) := by
    intro n
    induction n with
    | zero => intro j h1 h2; omega
    | succ n ih =>
      intro j h1 h2
      by_cases hj : j ≤ m + l.length
      · exact h j h1 hj
      · have := ih (j - l.length) (by omega) (by omega)
        rw [← mk_per l (j - l.length), show j - (l.length : Int) + l.length = j by omega, ← mk_per l (j - l.length - m), show j - (l.length : Int) - m + l.length = j - m by omega] at this
        exact this
  intro j h1
  exact all (j - m).toNat j h1 (by omega)
theorem Un.bound {l : List Nat} {m k : Int} (hl : l ≠ []) (h : Un l m (some k)) : k ≤ m + l.length := by
  by_cases hk : k ≤ m + l.length
  · exact hk
  · exact absurd (scan_none hl (fun j h1 h2 => h.2.2 j h1 (by omega)) k h.1) h.2.1
theorem Un.dbl {l : List Nat} {m : Int} {r : Option Int} (hl : l ≠ []) (h : Un l m r) : Un (l ++ l) m r := by
  cases r with
  | none => intro j hj; rw [mk_dbl _ _ hl, mk_dbl _ _ hl]; exact h j hj
  | some k =>
    refine ⟨h.1, ?_, fun j h1 h2 => ?_⟩
    · rw [mk_dbl _ _ hl, mk_dbl _ _ hl]; exact h.2.1
    · rw [mk_dbl _ _ hl, mk_dbl _ _ hl]; exact h.2.2 j h1 h2
/-- the numbers from one on, each unlike the last -/
inductive Chn (l : List Nat) (most : Int) : Option Int → List Int → Prop
  | no : Chn l most none []
  | stop {k : Int} : most < k → Chn l most (some k) []
  | go {k : Int} {r : Option Int} {ns : List Int} : k ≤ most → Un l k r → Chn l most r ns → Chn l most (some k) (k :: ns)
theorem Chn.unique {l : List Nat} {most : Int} {o : Option Int} {ns : List Int} (h : Chn l most o ns) : ∀ {ms : List Int}, Chn l most o ms → ns = ms := by
  induction h with
  | no => intro ms h'; cases h'; rfl
  | stop hk => intro ms h'; cases h' with
    | stop _ => rfl
    | go h1 _ _ => omega
  | go hk hu _ ih => intro ms h'; cases h' with
    | stop h1 => omega
    | go h1 h2 h3 => rw [hu.unique h2] at ih; rw [ih h3]
theorem Chn.le {l : List Nat} {most : Int} {o : Option Int} {ns : List Int} (h : Chn l most o ns) : ∀ n ∈ ns, n ≤ most := by
  induction h with
  | no => intro n hn; cases hn
  | stop _ => intro n hn; cases hn
  | go hk _ _ ih => intro n hn; rcases List.mem_cons.mp hn with rfl | hn; exact hk; exact ih n hn
theorem Chn.gt {l : List Nat} {most : Int} {o : Option Int} {ns : List Int} (h : Chn l most o ns) : ∀ k, o = some k → ∀ n ∈ ns, k ≤ n := by
  induction h with
  | no => intro k e n hn; cases hn
  | stop _ => intro k e n hn; cases hn
  | @go k r ns hk hu hc ih =>
    intro k' e n hn
    cases e
    rcases List.mem_cons.mp hn with rfl | hn
    · exact Int.le_refl _
    · cases r with
      | none => cases hc; cases hn
      | some k2 => have := ih k2 rfl n hn; have := hu.1; omega
theorem Chn.asc {l : List Nat} {most : Int} {o : Option Int} {ns : List Int} (h : Chn l most o ns) : ns.Pairwise (· < ·) := by
  induction h with
  | no => exact .nil
  | stop _ => exact .nil
  | @go k r ns hk hu hc ih =>
    refine .cons (fun n hn => ?_) ih
    cases r with
    | none => cases hc; cases hn
    | some k2 => have := hc.gt k2 rfl n hn; have := hu.1; omega
/-- a star word: its last mark alone is a star -/
def StarW (l : List Nat) : Prop := ∃ h : l ≠ [], l.getLast h = 42 ∧ ∀ c ∈ l.dropLast, c ≠ 42
theorem starW_mk {pre : List Nat} (h : ∀ c ∈ pre, c ≠ 42) : StarW (pre ++ [42]) := ⟨by simp, by simp, by simpa using h⟩
theorem Chn.star {l : List Nat} (hs : StarW l) {o : Option Int} {ns : List Int} (h : Chn l l.length o ns) : ∀ k, o = some k → 1 ≤ k → k ≤ l.length → ns.getLast? = some (l.length : Int) := by
  obtain ⟨hl, h1, h2⟩ := hs
  induction h with
  | no => intro k e; cases e
  | stop hk => intro k e _ h3; cases e; omega
  | @go k r ns hk hu hc ih =>
    intro k' e hk1 hk2
    cases e
    by_cases hkn : k = l.length
    · subst hkn
      cases r with
      | none => cases hc; rfl
      | some k2 => cases hc with
        | stop _ => rfl
        | go h3 _ _ => have := hu.1; omega
    · have bad : mk l l.length ≠ mk l (l.length - k) := by
        rw [mk_last hl, h1]
        exact (h2 _ (mk_lt (by omega) (by omega) hl)).symm
      cases r with
      | none => exact absurd (hu l.length (by omega)) bad
      | some k2 =>
        have hk3 : k2 ≤ l.length := by
          by_cases z : k2 ≤ l.length
          · exact z
          · exact absurd (hu.2.2 l.length (by omega) (by omega)) bad
        have := ih k2 rfl (by have := hu.1; omega) hk3
        rw [List.getLast?_cons, this]
        rfl
def ov : Option Int → V
  | none => .non
  | some k => .int k
end Tw
namespace Tw
open PySem PySem.Spec PyProof.Rows L2
def rInT (K : PySem.W.Frag) : R2 := fun x y H Q => ∃ d ds, Dp K H x d ∧ Dp K H y (.tuple ds) ∧ SeqAt.shaped d = true ∧ SeqAt.shaped (.tuple ds) = true ∧ Q (.bl (ds.any fun z => PyData.eqv z d)) H
def rNotInT (K : PySem.W.Frag) : R2 := fun x y H Q => ∃ d ds, Dp K H x d ∧ Dp K H y (.tuple ds) ∧ SeqAt.shaped d = true ∧ SeqAt.shaped (.tuple ds) = true ∧ Q (.bl (!(ds.any fun z => PyData.eqv z d))) H
theorem op_inT {X : Cx} {K : PySem.W.Frag} (hu : X.A.units + 65 < cLine) (hK : X.K = K := by rfl) : OpR X (compareOp .In) (rInT K) := by
  subst hK
  intro pins s σ H x y v u Q I rx ry h
  obtain ⟨d, ds, h1, h2, h3, h4, q⟩ := h
  obtain ⟨as, r1⟩ := L2.Dp.reads I d x v h1 rx
  obtain ⟨bs, r2⟩ := L2.Dp.reads I _ y u h2 ry
  refine SeqAt.in_tuple_reads r2 r1 (SeqAt.canLay_of_shaped h4) (SeqAt.canLay_of_shaped h3) (room_in_shaped h3 hu) ?_
  exact ⟨.bl _, H, I, rfl, q⟩
theorem op_notInT {X : Cx} {K : PySem.W.Frag} (hu : X.A.units + 65 < cLine) (hK : X.K = K := by rfl) : OpR X (compareOp .NotIn) (rNotInT K) := by
  subst hK
  intro pins s σ H x y v u Q I rx ry h
  obtain ⟨d, ds, h1, h2, h3, h4, q⟩ := h
  obtain ⟨as, r1⟩ := L2.Dp.reads I d x v h1 rx
  obtain ⟨bs, r2⟩ := L2.Dp.reads I _ y u h2 ry
  refine SeqAt.notIn_tuple_reads r2 r1 (SeqAt.canLay_of_shaped h4) (SeqAt.canLay_of_shaped h3) (room_in_shaped h3 hu) ?_
  exact ⟨.bl _, H, I, rfl, q⟩
section
variable {K : PySem.W.Frag} {H : Hp} {Q : VK} {x y : V} {d : PyData} {ds : List PyData}
/-- x in y, y a tuple of data without bools -/
theorem w_inT (h1 : Dp K H x d) (h2 : Dp K H y (.tuple ds)) (p1 : pln 8 d = true) (p2 : pln 9 (.tuple ds) = true) (q1 : d ∈ ds → Q (.bl true) H) (q2 : d ∉ ds → Q (.bl false) H) : rInT K x y H Q := by
  have hs : ∀ z ∈ ds, pln 8 z = true := List.all_eq_true.mp p2
  have e := any_eqv p1 hs
  refine ⟨d, ds, h1, h2, pln_shaped p1 (by decide), pln_shaped p2 (by decide), ?_⟩
  cases hc : ds.any fun z => PyData.eqv z d with
  | true => exact q1 (e.mp hc)
  | false => exact q2 fun z => by rw [e.mpr z] at hc; cases hc
theorem w_notInT (h1 : Dp K H x d) (h2 : Dp K H y (.tuple ds)) (p1 : pln 8 d = true) (p2 : pln 9 (.tuple ds) = true) (q1 : d ∈ ds → Q (.bl false) H) (q2 : d ∉ ds → Q (.bl true) H) : rNotInT K x y H Q := by
  have hs : ∀ z ∈ ds, pln 8 z = true := List.all_eq_true.mp p2
  have e := any_eqv p1 hs
  refine ⟨d, ds, h1, h2, pln_shaped p1 (by decide), pln_shaped p2 (by decide), ?_⟩
  cases hc : ds.any fun z => PyData.eqv z d with
  | true => exact q1 (e.mp hc)
  | false => exact q2 fun z => by rw [e.mpr z] at hc; cases hc
end
end Tw
namespace Tw
open PySem PySem.Spec PyProof.Rows L2
/-! ### more rules: any, all, two fors in a comprehension -/
section
variable {X : Cx} {K : PySem.W.Frag}
def rAnyK (K : PySem.W.Frag) : List V → Hp → VK → Prop := fun vs H Q => ∃ a, ∃ bs : List Bool, vs = [.ref a] ∧ SqL K H a (bs.map V.bl) ∧ Q (.bl (bs.any id)) H
theorem cl_any (hc : X.calm = true) (h : X.K = K := by rfl) : CallR X (.builtin "any") (rAnyK K) := h ▸ cr_any hc
def rAllK (K : PySem.W.Frag) : List V → Hp → VK → Prop := fun vs H Q => ∃ a, ∃ bs : List Bool, vs = [.ref a] ∧ SqL K H a (bs.map V.bl) ∧ Q (.bl (bs.all id)) H
theorem cl_all (hc : X.calm = true) (h : X.K = K := by rfl) : CallR X (.builtin "all") (rAllK K) := h ▸ cr_all hc
def rSumK (K : PySem.W.Frag) : List V → Hp → VK → Prop := fun vs H Q => ∃ a, ∃ ns : List Int, vs = [.ref a] ∧ SqL K H a (ns.map V.int) ∧ Q (.int ns.sum) H
theorem cl_sum (hc : X.calm = true) (h : X.K = K := by rfl) : CallR X (.builtin "sum") (rSumK K) := h ▸ cr_sum hc
end
section
variable {K : PySem.W.Frag} {σ : L2.St} {H H1 : Hp} {Q : VK} {x v : V} {ds : List PyData} {j j1 : Nat} {vs vs1 : List Nat} {tl ts te : TE}
theorem dpa_bools : ∀ (ns : List Bool), DpAll K H (ns.map V.bl) (ns.map PyData.bool)
  | [] => .nil
  | n :: ns => .cons (.bl n) (dpa_bools ns)
theorem dpa_bools_inv : ∀ {vs : List V} {ns : List Bool}, DpAll K H vs (ns.map PyData.bool) → vs = ns.map V.bl
  | _, [], h => by cases h; rfl
  | _, n :: ns, h => by
    cases h with
    | cons h1 h2 => cases h1; rw [dpa_bools_inv h2]; rfl
theorem w_any {bs : List Bool} (h : Dp K H v (.list (bs.map PyData.bool))) (q : Q (.bl (bs.any id)) H) : rAnyK K [v] H Q := by
  obtain ⟨a, xs, rfl, hs, ha⟩ := dp_lst h
  rw [dpa_bools_inv ha] at hs
  exact ⟨a, bs, rfl, hs, q⟩
theorem w_all {bs : List Bool} (h : Dp K H v (.list (bs.map PyData.bool))) (q : Q (.bl (bs.all id)) H) : rAllK K [v] H Q := by
  obtain ⟨a, xs, rfl, hs, ha⟩ := dp_lst h
  rw [dpa_bools_inv ha] at hs
  exact ⟨a, bs, rfl, hs, q⟩
theorem w_sum {ns : List Int} (h : Dp K H v (.list (ns.map PyData.int))) (q : Q (.int ns.sum) H) : rSumK K [v] H Q := by
  obtain ⟨a, xs, rfl, hs, ha⟩ := dp_lst h
  rw [dpa_ints_inv ha] at hs
  exact ⟨a, ns, rfl, hs, q⟩
/-- [e for x in a list for c in a text] -/
def rLc2 (K : PySem.W.Frag) (j j1 : Nat) (ts te : TE) (vs vs1 : List Nat) (σ : L2.St) (x : V) (H1 : Hp) (Q : VK) : Prop :=
  tLc2 (iList K (tC x)) (gName j) tYes (iStr ts) (gName j1) tYes te vs vs1 σ H1 Q
theorem w_lc2 (h : tl σ H fun x H1 => rLc2 K j j1 ts te vs vs1 σ x H1 Q) : tLc2 (iList K tl) (gName j) tYes (iStr ts) (gName j1) tYes te vs vs1 σ H Q := h
/-- a comprehension's turn over data: what one turn makes -/
theorem lc2_by (f : PyData → Nat → PyData) (cs : List Nat) (src : Dp K H1 x (.list ds)) (hz : ds.length * cs.length ≤ 1000000)
    (hf : ∀ d ∈ ds, ∀ c ∈ cs, noL (f d c) = true)
    (hw : ∀ x, wipe ((wipe σ vs).set j (some x)) vs = wipe σ vs) (hw1 : ∀ x y, wipe ((wipe ((wipe σ vs).set j (some x)) vs1).set j1 (some y)) vs1 = wipe ((wipe σ vs).set j (some x)) vs1)
    (text : ∀ y d H', d ∈ ds → Dp K H' y d → ∀ R : VK, R (.str (Sg cs)) H' → ts ((wipe σ vs).set j (some y)) H' R)
    (turn : ∀ y d c H', d ∈ ds → c ∈ cs → Dp K H' y d → ∀ R : VK, (∀ z H4, Same H' H4 → Dp K H4 z (f d c) → R z H4) → te ((wipe ((wipe σ vs).set j (some y)) vs1).set j1 (some (.str (Sg [c])))) H' R)
    (done : ∀ p H' ws, H1 p = none → Same H1 H' → H' p = some (.lst ws) → Dp K H' (.ref p) (.list (ds.flatMap fun d => cs.map (f d))) → Q (.ref p) H') : rLc2 K j j1 ts te vs vs1 σ x H1 Q := by
  obtain ⟨a, xs, rfl, hs, ha⟩ := dp_lst src
  have hl := dpa_len ha
  have hline : sizeLine = 16777216 := sizeLine_eq
  have nof : ∀ (es : List PyData), (∀ d ∈ es, noL d = true) → noLs es = true := by
    intro es
    induction es with
    | nil => intro _; rfl
    | cons e es ih => intro h; simp only [noLs, Bool.and_eq_true]; exact ⟨h e List.mem_cons_self, ih fun d hd => h d (List.mem_cons_of_mem _ hd)⟩
  have fml : ∀ es : List PyData, (es.flatMap fun d => cs.map (f d)).length = es.length * cs.length := by
    intro es
    induction es with
    | nil => simp
    | cons e es ih => rw [List.flatMap_cons, List.length_append, ih, List.length_map, List.length_cons, Nat.succ_mul]; omega
  have nol : ∀ (i : Nat), noLs ((ds.take i).flatMap fun d => cs.map (f d)) = true := fun i => nof _ fun e he => by
    obtain ⟨d, hd, he⟩ := List.mem_flatMap.mp he
    obtain ⟨c, hc, rfl⟩ := List.mem_map.mp he
    exact hf d (List.mem_of_mem_take hd) c hc
  refine ⟨a, rfl, ⟨xs, hs⟩, fun D hD => ?_⟩
  refine ⟨fun i m H' => m = xs.length - i ∧ i ≤ xs.length ∧ Same H1 H' ∧ ∃ ws, H' D = some (.lst ws) ∧ DpAll K H' ws ((ds.take i).flatMap fun d => cs.map (f d)), ⟨xs.length, by simp, Nat.zero_le _, same_new hD, [], upd_same, by simp; exact .nil⟩, ?_⟩
  rintro i m H' ⟨rfl, hi, k1, ws, e1, d1⟩
  have q := k1.seq hs
  by_cases hlt : i < xs.length
  · refine .inr ⟨⟨xs, xs[i], q, by simp [hlt]⟩, fun H2 => Same H1 H2 ∧ ∃ ws, H2 D = some (.lst ws) ∧ DpAll K H2 ws ((ds.take (i + 1)).flatMap fun d => cs.map (f d)), fun H2 p => ⟨xs.length - (i + 1), by omega, rfl, hlt, p⟩, fun y H2 hy => ?_⟩
    obtain ⟨rfl, hy⟩ := hy
    have hyi := hy xs q
    obtain ⟨d, ed, dy0⟩ := dpa_get2 ha hyi
    have hdm : d ∈ ds := List.mem_of_getElem? ed
    have ht : ds.take (i + 1) = ds.take i ++ [d] := by rw [List.take_add_one, ed]; rfl
    refine ⟨hw y, ?_⟩
    refine text y d H2 hdm (dp_same k1 dy0) _ ⟨Sg cs, rfl, ?_⟩
    refine ⟨fun jj k H3 => k = cs.length - jj ∧ jj ≤ cs.length ∧ Same H1 H3 ∧ ∃ ws, H3 D = some (.lst ws) ∧ DpAll K H3 ws (((ds.take i).flatMap fun d => cs.map (f d)) ++ (cs.take jj).map (f d)), ⟨cs.length, by simp, Nat.zero_le _, k1, ws, e1, by simpa using d1⟩, ?_⟩
    rintro jj k H3 ⟨rfl, hj, k3, ws3, e3, d3⟩
    by_cases hjl : jj < cs.length
    · have hc : cs[jj]? = some cs[jj] := by simp [hjl]
      have htc : cs.take (jj + 1) = cs.take jj ++ [cs[jj]] := by rw [List.take_add_one, hc]; rfl
      refine .inr ⟨by show jj < (Sg cs).cps.size; simpa [Sg] using hjl, fun H4 => Same H1 H4 ∧ ∃ ws, H4 D = some (.lst ws) ∧ DpAll K H4 ws (((ds.take i).flatMap fun d => cs.map (f d)) ++ (cs.take (jj + 1)).map (f d)), fun H4 p => ⟨cs.length - (jj + 1), by omega, rfl, hjl, p⟩, fun z H4 hz4 => ?_⟩
      obtain ⟨rfl, c, hc4, rfl⟩ := hz4
      have hcc : c = cs[jj] := by simpa [Sg, hjl] using hc4.symm
      subst hcc
      refine ⟨hw1 _ _, ?_⟩
      refine turn y d cs[jj] H4 hdm (List.getElem_mem hjl) (dp_same k3 dy0) _ fun z H5 k5 d5 => ?_
      have e5 := k5 _ _ e3
      have len3 := dpa_len d3
      have le1 : (((ds.take i).flatMap fun d => cs.map (f d)) ++ (cs.take jj).map (f d)).length ≤ ds.length * cs.length := by
        rw [List.length_append, fml, List.length_map, List.length_take, List.length_take]
        have : min i ds.length + 1 ≤ ds.length := by omega
        have := Nat.mul_le_mul_right cs.length this
        rw [Nat.succ_mul] at this
        omega
      have no3 : noLs (((ds.take i).flatMap fun d => cs.map (f d)) ++ (cs.take jj).map (f d)) = true := noLs_app (nol i) (nof _ fun e he => by
        obtain ⟨c, hc, rfl⟩ := List.mem_map.mp he
        exact hf d hdm c (List.mem_of_mem_take hc))
      refine ⟨ws3, e5, by omega, same_mut (k3.trans k5) hD, _, upd_same, ?_⟩
      rw [htc, List.map_append, ← List.append_assoc]
      exact dpa_app (dpa_upd e5 _ _ no3 (dpa_same k5 d3)) (dpa_one (dp_upd e5 _ _ (hf d hdm _ (List.getElem_mem hjl)) d5))
    · have : jj = cs.length := by omega
      subst this
      refine .inl ⟨by show (Sg cs).cps.size ≤ cs.length; simp [Sg], k3, ws3, e3, ?_⟩
      rw [ht, List.flatMap_append]
      simpa using d3
  · have e : i = xs.length := by omega
    subst e
    refine .inl ⟨⟨xs, q, Nat.le_refl _⟩, done D H' ws hD k1 e1 (dp_newL e1 ?_)⟩
    rw [hl, List.take_length] at d1
    exact d1
/-- [e for c in a text] -/
def rLcS (j : Nat) (tt : TT) (te : TE) (vs : List Nat) (σ : L2.St) (x : V) (H1 : Hp) (Q : VK) : Prop := tLc (iStr (tC x)) (gName j) tt te vs σ H1 Q
theorem w_lcS {tt : TT} (h : ts σ H fun x H1 => rLcS j tt te vs σ x H1 Q) : tLc (iStr ts) (gName j) tt te vs σ H Q := h
theorem lc_str_by {tt : TT} {l : List Nat} (J : Nat → List PyData → Hp → Prop) (lj : LcJ H1 J) (hz : l.length ≤ 1000000) (hw : ∀ x, wipe ((wipe σ vs).set j (some x)) vs = wipe σ vs)
    (turn : ∀ i c H' es, l[i]? = some c → J i es H' → LcTurn K J tt te ((wipe σ vs).set j (some (.str (Sg [c])))) i es H')
    (done : ∀ p H' ws es, H1 p = none → Keep H1 H' → H' p = some (.lst ws) → Dp K H' (.ref p) (.list es) → J l.length es H' → Q (.ref p) H') : rLcS j tt te vs σ (.str (Sg l)) H1 Q := by
  refine ⟨Sg l, rfl, fun D hD => ?_⟩
  refine ⟨fun i m H' => m = l.length - i ∧ i ≤ l.length ∧ LcP K J D i H', ⟨l.length, by simp, Nat.zero_le _, [], [], upd_same, .nil, rfl, Nat.le_refl _, lj.start D hD⟩, ?_⟩
  rintro i m H' ⟨rfl, hi, p⟩
  by_cases hlt : i < l.length
  · refine .inr ⟨by show i < (Sg l).cps.size; simpa [Sg] using hlt, LcP K J D (i + 1), fun H2 p2 => ⟨l.length - (i + 1), by omega, rfl, hlt, p2⟩, fun x H2 y => ?_⟩
    obtain ⟨rfl, c, hc, rfl⟩ := y
    have hc2 : l[i]? = some c := by simpa [Sg] using hc
    exact ⟨hw _, lc_turn lj hD (by omega) p fun es q => turn i c H2 es hc2 q⟩
  · have e : i = l.length := by omega
    subst e
    obtain ⟨ws, es, p1, p2, p3, p4, p5⟩ := p
    exact .inl ⟨by show (Sg l).cps.size ≤ l.length; simp [Sg], done D H' ws es hD (lj.keep _ _ _ p5) p1 (dp_newL p1 p2) p5⟩
end
end Tw
namespace Tw
open PySem PySem.Spec PyProof.Rows L2
/-! ### the next unlike number, reckoned -/
def nxt (l : List Nat) (m : Nat) : Nat :=
  match (List.range l.length).find? (fun i => l.getD ((m + i) % l.length) 0 != l.getD (i % l.length) 0) with
  | some i => m + 1 + i
  | none => 0
theorem mk_nat {l : List Nat} (k : Nat) : mk l ((k : Int) + 1) = l.getD (k % l.length) 0 := by
  unfold mk
  congr 1
  rw [show ((k : Int) + 1 - 1) = (k : Int) by omega]
  omega
theorem StarW.pos {l : List Nat} (h : StarW l) : 0 < l.length := by
  obtain ⟨h, _⟩ := h
  exact List.length_pos_iff.mpr h
theorem StarW.ne {l : List Nat} (h : StarW l) : l ≠ [] := h.1
theorem StarW.bad {l : List Nat} (hs : StarW l) {k : Int} (h1 : 1 ≤ k) (h2 : k < l.length) : mk l l.length ≠ mk l (l.length - k) := by
  obtain ⟨hl, e1, e2⟩ := hs
  rw [mk_last hl, e1]
  exact (e2 _ (mk_lt (by omega) (by omega) hl)).symm
theorem un_nxt {l : List Nat} (hs : StarW l) {m : Nat} (h1 : 1 ≤ m) (h2 : m < l.length) : Un l m (some (nxt l m : Int)) ∧ m < nxt l m ∧ nxt l m ≤ l.length := by
  have hp := hs.pos
  have key : ∀ i : Nat, (l.getD ((m + i) % l.length) 0 != l.getD (i % l.length) 0) = decide (mk l ((m : Int) + 1 + i) ≠ mk l (1 + (i : Int))) := by
    intro i
    rw [show (m : Int) + 1 + i = ((m + i : Nat) : Int) + 1 by push_cast; omega, show 1 + (i : Int) = (i : Int) + 1 by omega, mk_nat, mk_nat]
    by_cases z : l.getD ((m + i) % l.length) 0 = l.getD (i % l.length) 0
    · rw [z]; simp
    · rw [show decide (l.getD ((m + i) % l.length) 0 ≠ l.getD (i % l.length) 0) = true from decide_eq_true z]
      exact bne_iff_ne.mpr z
  unfold nxt
  cases hf : (List.range l.length).find? (fun i => l.getD ((m + i) % l.length) 0 != l.getD (i % l.length) 0) with
  | none =>
    rw [List.find?_eq_none] at hf
    have := hf (l.length - m - 1) (List.mem_range.mpr (by omega))
    rw [key, decide_eq_true_eq] at this
    refine absurd ?_ this
    have := hs.bad (k := m) (by omega) (by omega)
    rw [show (m : Int) + 1 + ((l.length - m - 1 : Nat) : Int) = l.length by omega, show 1 + ((l.length - m - 1 : Nat) : Int) = l.length - (m : Int) by omega]
    exact this
  | some i =>
    rw [List.find?_range_eq_some] at hf
    obtain ⟨p, hi, hj⟩ := hf
    rw [List.mem_range] at hi
    rw [key, decide_eq_true_eq] at p
    dsimp only
    have first : ∀ j : Int, (m : Int) < j → j < (m : Int) + 1 + i → mk l j = mk l (j - m) := by
      intro j a b
      have := hj (j - m - 1).toNat (by omega)
      rw [key] at this
      simp only [Bool.not_eq_true', decide_eq_false_iff_not, Decidable.not_not] at this
      rw [show (m : Int) + 1 + ((j - m - 1).toNat : Int) = j by omega, show 1 + ((j - m - 1).toNat : Int) = j - m by omega] at this
      exact this
    have hle : m + 1 + i ≤ l.length := by
      apply Nat.le_of_not_lt
      intro z
      exact hs.bad (k := m) (by omega) (by omega) (first l.length (by omega) (by omega))
    refine ⟨⟨by push_cast; omega, ?_, fun j a b => first j a (by push_cast at b; omega)⟩, by omega, hle⟩
    push_cast
    rw [show (m : Int) + 1 + i - m = 1 + i by omega]
    exact p
theorem un_is {l : List Nat} (hs : StarW l) {m : Nat} (h1 : 1 ≤ m) (h2 : m < l.length) {r : Option Int} (h : Un l m r) : r = some (nxt l m : Int) := h.unique (un_nxt hs h1 h2).1
/-! ### the numbers from one on, reckoned -/
def comes (l : List Nat) (m : Nat) : Nat → Nat → Bool
  | 0, b => b == m
  | f + 1, b => if b < m then comes l m f (nxt l b) else b == m
theorem comes_more {l : List Nat} (hs : StarW l) {m : Nat} (hm : m < l.length) : ∀ (f g b : Nat), 1 ≤ b → m ≤ b + f → m ≤ b + g → comes l m f b = comes l m g b := by
  intro f
  induction f with
  | zero =>
    intro g b h1 h2 h3
    cases g with
    | zero => rfl
    | succ g => simp only [comes]; rw [if_neg (by omega)]
  | succ f ih =>
    intro g b h1 h2 h3
    cases g with
    | zero => simp only [comes]; rw [if_neg (by omega)]
    | succ g =>
      simp only [comes]
      by_cases h : b < m
      · rw [if_pos h, if_pos h]
        have := un_nxt hs h1 (by omega)
        exact ih g _ (by omega) (by omega) (by omega)
      · rw [if_neg h, if_neg h]
/-- whether m comes, from b on -/
def comesBy (l : List Nat) (b m : Nat) : Bool := comes l m m b
theorem comesBy_step {l : List Nat} (hs : StarW l) {b m : Nat} (hm : m < l.length) (h1 : 1 ≤ b) (h : b < m) : comesBy l b m = comesBy l (nxt l b) m := by
  obtain ⟨k, rfl⟩ : ∃ k, m = k + 1 := ⟨m - 1, by omega⟩
  unfold comesBy
  rw [show comes l (k + 1) (k + 1) b = comes l (k + 1) k (nxt l b) by rw [comes, if_pos h]]
  have := un_nxt hs h1 (by omega)
  exact comes_more hs hm _ _ _ (by omega) (by omega) (by omega)
theorem comesBy_end {l : List Nat} {b m : Nat} (h : m ≤ b) : comesBy l b m = (b == m) := by
  unfold comesBy
  cases m with
  | zero => rfl
  | succ k => rw [comes, if_neg (by omega)]
theorem chn_comes {l : List Nat} (hs : StarW l) {m : Nat} (hm : m < l.length) {o : Option Int} {ns : List Int} (h : Chn l m o ns) : ∀ b : Nat, 1 ≤ b → o = some (b : Int) → ((m : Int) ∈ ns ↔ comesBy l b m = true) := by
  induction h with
  | no => intro b _ e; cases e
  | stop hk =>
    intro b h1 e
    cases e
    rw [comesBy_end (by omega)]
    simp
    omega
  | @go k r ns hk hu hc ih =>
    intro b h1 e
    cases e
    have hr := un_is hs h1 (by omega) hu
    subst hr
    have n1 := un_nxt hs h1 (by omega)
    by_cases hb : b < m
    · rw [comesBy_step hs hm h1 hb, ← ih _ (by omega) rfl, List.mem_cons]
      constructor
      · rintro (h | h)
        · omega
        · exact h
      · exact .inr
    · rw [comesBy_end (by omega)]
      have : b = m := by omega
      subst this
      simp
/-! ### the numbers at which a word fails -/
def fails (l : List Nat) (m : Nat) : Bool :=
  !((List.range (m - 1)).any fun i => m % (i + 1) == 0 && decide (m < nxt l (i + 1))) && comesBy l ((nxt l m - 1) % m + 1) m
def failAt (l : List Nat) (m : Nat) : Bool := !comesBy l 1 m && fails l m
def failO (l : List Nat) : Option Nat := ((List.range (l.length - 1)).find? fun i => failAt l (i + 1)).map (· + 1)
def fo (l : List Nat) : Option Int := (failO l).map fun (n : Nat) => (n : Int)
/-- the first number found is the one -/
theorem failO_first {l : List Nat} {m : Nat} (h1 : 1 ≤ m) (h2 : m < l.length) (h : failAt l m = true) (hb : ∀ j, 1 ≤ j → j < m → failAt l j = false) : fo l = some (m : Int) := by
  unfold fo failO
  have : (List.range (l.length - 1)).find? (fun i => failAt l (i + 1)) = some (m - 1) := by
    rw [List.find?_range_eq_some]
    refine ⟨by rw [show m - 1 + 1 = m by omega]; exact h, List.mem_range.mpr (by omega), fun j hj => by rw [hb _ (by omega) (by omega)]; rfl⟩
  rw [this]
  simp
  omega
theorem failO_none {l : List Nat} (h : ∀ j, 1 ≤ j → j < l.length → failAt l j = false) : fo l = none := by
  unfold fo failO
  have : (List.range (l.length - 1)).find? (fun i => failAt l (i + 1)) = none := by
    rw [List.find?_eq_none]
    intro i hi
    rw [List.mem_range] at hi
    rw [h _ (by omega) (by omega)]
    exact Bool.false_ne_true
  rw [this]
  rfl
theorem chn_addr {l : List Nat} (hs : StarW l) {m : Nat} (h1 : 1 ≤ m) (hm : m < l.length) {ns : List Int} (h : Chn l l.length (some 1) ns) : (m : Int) ∈ ns ↔ comesBy l 1 m = true := by
  have gen : ∀ {o : Option Int} {ns : List Int}, Chn l l.length o ns → ∀ b : Nat, 1 ≤ b → o = some (b : Int) → ((m : Int) ∈ ns ↔ comesBy l b m = true) := by
    intro o ns h
    induction h with
    | no => intro b _ e; cases e
    | stop hk =>
      intro b h1 e
      cases e
      rw [comesBy_end (by omega)]
      simp
      omega
    | @go k r ns hk hu hc ih =>
      intro b h1 e
      cases e
      by_cases hb : b < m
      · have hr := un_is hs h1 (by omega) hu
        subst hr
        have n1 := un_nxt hs h1 (by omega)
        rw [comesBy_step hs hm h1 hb, ← ih _ (by omega) rfl, List.mem_cons]
        constructor
        · rintro (h | h)
          · omega
          · exact h
        · exact .inr
      · rw [comesBy_end (by omega), List.mem_cons]
        constructor
        · rintro (h | h)
          · have : b = m := by omega
            subst this; simp
          · have : b < m ∨ b = m ∨ m < b := by omega
            rcases this with z | z | z
            · omega
            · subst z; simp
            · exfalso
              cases r with
              | none => cases hc; cases h
              | some k2 => have := hc.gt k2 rfl _ h; have := hu.1; omega
        · intro h
          left
          have : b = m := by simpa using h
          omega
  exact gen h 1 (by omega) rfl
/-! ### all words of a few marks -/
def bits : Nat → List (List Nat)
  | 0 => [[]]
  | n + 1 => (bits n).flatMap fun s => [48 :: s, 49 :: s]
theorem mem_bits : ∀ (s : List Nat), (∀ x ∈ s, x = 48 ∨ x = 49) → s ∈ bits s.length := by
  intro s
  induction s with
  | nil => intro _; simp [bits]
  | cons x s ih =>
    intro h
    rw [List.length_cons, bits, List.mem_flatMap]
    refine ⟨s, ih fun y hy => h y (List.mem_cons_of_mem _ hy), ?_⟩
    rcases h x List.mem_cons_self with rfl | rfl <;> simp
/-- a word of the drawing: the star alone, or "1", some digits and the star -/
def WordW (l : List Nat) : Prop := l = [42] ∨ ∃ s : List Nat, l = 49 :: (s ++ [42]) ∧ ∀ x ∈ s, x = 48 ∨ x = 49
theorem WordW.star {l : List Nat} (h : WordW l) : StarW l := by
  rcases h with rfl | ⟨s, rfl, hs⟩
  · exact ⟨by simp, rfl, by simp⟩
  · exact starW_mk (pre := 49 :: s) (fun c hc => by
      rcases List.mem_cons.mp hc with rfl | hc
      · omega
      · have := hs c hc; omega)
/-- all words of at most so many marks -/
def wordsTo (n : Nat) : List (List Nat) := [42] :: (List.range (n - 1)).flatMap fun k => (bits k).map fun s => 49 :: (s ++ [42])
theorem mem_wordsTo {n : Nat} {l : List Nat} (h : WordW l) (hl : l.length ≤ n) : l ∈ wordsTo n := by
  rcases h with rfl | ⟨s, rfl, hs⟩
  · exact List.mem_cons_self
  · refine List.mem_cons_of_mem _ (List.mem_flatMap.mpr ⟨s.length, List.mem_range.mpr (by simp at hl; omega), List.mem_map.mpr ⟨s, mem_bits s hs, rfl⟩⟩)
/-! ### the upper mark, words copied -/
def nxO (l : List Nat) (m : Nat) : Option Nat :=
  ((List.range l.length).find? (fun i => l.getD ((m + i) % l.length) 0 != l.getD (i % l.length) 0)).map (m + 1 + ·)
theorem un_nxO {l : List Nat} (hl : l ≠ []) {m : Nat} (h1 : 1 ≤ m) : Un l m ((nxO l m).map fun (n : Nat) => (n : Int)) := by
  have hp : 0 < l.length := List.length_pos_iff.mpr hl
  have key : ∀ i : Nat, (l.getD ((m + i) % l.length) 0 != l.getD (i % l.length) 0) = decide (mk l ((m : Int) + 1 + i) ≠ mk l (1 + (i : Int))) := by
    intro i
    rw [show (m : Int) + 1 + i = ((m + i : Nat) : Int) + 1 by push_cast; omega, show 1 + (i : Int) = (i : Int) + 1 by omega, mk_nat, mk_nat]
    by_cases z : l.getD ((m + i) % l.length) 0 = l.getD (i % l.length) 0
    · rw [z]; simp
    · rw [show decide (l.getD ((m + i) % l.length) 0 ≠ l.getD (i % l.length) 0) = true from decide_eq_true z]
      exact bne_iff_ne.mpr z
  unfold nxO
  cases hf : (List.range l.length).find? (fun i => l.getD ((m + i) % l.length) 0 != l.getD (i % l.length) 0) with
  | none =>
    rw [List.find?_eq_none] at hf
    refine scan_none hl fun j a b => ?_
    have := hf (j - m - 1).toNat (List.mem_range.mpr (by omega))
    rw [key] at this
    simp only [decide_eq_true_eq, Decidable.not_not] at this
    rw [show (m : Int) + 1 + ((j - m - 1).toNat : Int) = j by omega, show 1 + ((j - m - 1).toNat : Int) = j - m by omega] at this
    exact this
  | some i =>
    rw [List.find?_range_eq_some] at hf
    obtain ⟨p, hi, hj⟩ := hf
    rw [key, decide_eq_true_eq] at p
    refine ⟨by push_cast; omega, ?_, fun j a b => ?_⟩
    · push_cast
      rw [show (m : Int) + 1 + i - m = 1 + i by omega]
      exact p
    · push_cast at b
      have := hj (j - m - 1).toNat (by omega)
      rw [key] at this
      simp only [Bool.not_eq_true', decide_eq_false_iff_not, Decidable.not_not] at this
      rw [show (m : Int) + 1 + ((j - m - 1).toNat : Int) = j by omega, show 1 + ((j - m - 1).toNat : Int) = j - m by omega] at this
      exact this
theorem nxO_gt {l : List Nat} {m k : Nat} (h : nxO l m = some k) : m < k := by
  unfold nxO at h
  rw [Option.map_eq_some_iff] at h
  obtain ⟨a, _, rfl⟩ := h
  omega
def chnL (l : List Nat) (most : Nat) : Nat → Option Nat → List Nat
  | _, none => []
  | 0, _ => []
  | f + 1, some k => if k ≤ most then k :: chnL l most f (nxO l k) else []
theorem chn_chnL {l : List Nat} (hl : l ≠ []) {most : Nat} : ∀ (f : Nat) (o : Option Nat), (∀ k, o = some k → 1 ≤ k ∧ most < k + f) → Chn l most (o.map fun (n : Nat) => (n : Int)) ((chnL l most f o).map fun (n : Nat) => (n : Int)) := by
  intro f
  induction f with
  | zero =>
    intro o h
    cases o with
    | none => exact .no
    | some k => exact .stop (show (most : Int) < (k : Int) by have := h k rfl; omega)
  | succ f ih =>
    intro o h
    cases o with
    | none => exact .no
    | some k =>
      have hk := h k rfl
      simp only [chnL]
      by_cases z : k ≤ most
      · rw [if_pos z]
        refine .go (show (k : Int) ≤ (most : Int) by omega) (un_nxO hl hk.1) (ih _ fun k2 e => ?_)
        have := nxO_gt e
        omega
      · rw [if_neg z]; exact .stop (show (most : Int) < (k : Int) by omega)
/-- the address, reckoned -/
def addrL (l : List Nat) : List Nat := chnL l l.length (l.length + 1) (some 1)
theorem chn_is {l : List Nat} (hl : l ≠ []) {ns : List Int} (h : Chn l l.length (some 1) ns) : ns = (addrL l).map fun (n : Nat) => (n : Int) :=
  h.unique (chn_chnL hl (l.length + 1) (some 1) fun k e => by cases e; omega)
def upM (l : List Nat) : Nat := if (addrL (l.dropLast ++ [49])).contains l.length then 49 else 48
def lowM (l : List Nat) : Nat := if upM l = 49 then 48 else 49
def copiedC (l : List Nat) (c : Nat) : List Nat := l.dropLast ++ [if c = 49 then upM l else if c = 48 then lowM l else 42]
def copiedL (l o : List Nat) : List Nat := (o.map (copiedC l)).flatten
theorem copied_star {l o : List Nat} (hl : StarW l) (ho : WordW o) : StarW (copiedL l o) := by
  obtain ⟨l1, l2, l3⟩ := hl
  have up : upM l ≠ 42 := by unfold upM; split <;> omega
  have lo : lowM l ≠ 42 := by unfold lowM; split <;> omega
  have part : ∀ s : List Nat, (∀ x ∈ s, x = 48 ∨ x = 49) → ∀ c ∈ copiedL l s, c ≠ 42 := by
    intro s hs c hc
    unfold copiedL at hc
    rw [List.mem_flatten] at hc
    obtain ⟨y, hy, hc⟩ := hc
    rw [List.mem_map] at hy
    obtain ⟨x, hx, rfl⟩ := hy
    unfold copiedC at hc
    rcases List.mem_append.mp hc with hc | hc
    · exact l3 c hc
    · simp only [List.mem_singleton] at hc
      subst hc
      rcases hs x hx with rfl | rfl
      · exact lo
      · exact up
  have ec : ∀ s : List Nat, copiedL l (s ++ [42]) = (copiedL l s ++ l.dropLast) ++ [42] := by
    intro s; simp [copiedL, copiedC]
  rcases ho with rfl | ⟨s, rfl, hs⟩
  · have := ec []
    rw [List.nil_append] at this
    rw [this]
    refine starW_mk fun c hc => ?_
    simp [copiedL] at hc
    exact l3 c hc
  · have := ec (49 :: s)
    rw [List.cons_append] at this
    rw [this]
    refine starW_mk fun c hc => ?_
    rcases List.mem_append.mp hc with hc | hc
    · exact part (49 :: s) (fun x hx => by
        rcases List.mem_cons.mp hx with rfl | hx
        · exact .inr rfl
        · exact hs x hx) c hc
    · exact l3 c hc
theorem copied_len (l o : List Nat) (hl : l ≠ []) : (copiedL l o).length = l.length * o.length := by
  have hp : 0 < l.length := List.length_pos_iff.mpr hl
  unfold copiedL
  induction o with
  | nil => simp
  | cons x o ih =>
    rw [List.map_cons, List.flatten_cons, List.length_append, ih, List.length_cons]
    have : (copiedC l x).length = l.length := by simp [copiedC]; omega
    rw [this, Nat.mul_succ]
    omega
/-- what is checked by going through all: a copied word fails nowhere exactly if the first word does -/
def bases61 : List (List Nat) := [[49, 48, 49, 49, 48, 42], [49, 48, 49, 49, 48, 49, 42], [49, 48, 49, 49, 48, 48, 49, 42], [49, 48, 49, 49, 48, 48, 42]] ++ wordsTo 8
def check61 : Bool := bases61.all fun b => b.length == 1 || (wordsTo 3).all fun o => (failO (copiedL b o)).isNone == (failO b).isNone
end Tw
namespace Tw
open PySem PySem.Spec PyProof.Rows L2
/-! ### for the defs -/
def divsOf (m : Nat) : List Nat := ((List.range (m - 1)).filter fun j => m % (j + 1) == 0).map (· + 1)
theorem fails_by (l : List Nat) (m : Nat) : fails l m = (!(((divsOf m).map fun k => decide (m < nxt l k)).any id) && comesBy l ((nxt l m - 1) % m + 1) m) := by
  unfold fails divsOf
  congr 2
  induction List.range (m - 1) with
  | nil => rfl
  | cons i r ih =>
    rw [List.any_cons, List.filter_cons, ih]
    by_cases h : m % (i + 1) == 0
    · rw [if_pos h, h]; simp
    · rw [if_neg h]; simp [h]
theorem ov_none (l : List Nat) : decide (ov (fo l) = V.non) = (failO l).isNone := by
  unfold fo
  cases failO l with
  | none => rfl
  | some n => simp [ov]
/-- all star words of so many marks, without the star -/
def begs : Nat → List (List Nat)
  | 0 => [[49]]
  | k + 1 => (begs k).flatMap fun b => [48, 49].map fun c => b ++ [c]
def swL (n : Nat) : List (List Nat) := (begs (n - 2)).map (· ++ [42])
theorem begs_len : ∀ k : Nat, (begs k).length = 2 ^ k ∧ ∀ b ∈ begs k, b.length = k + 1 := by
  intro k
  induction k with
  | zero => simp [begs]
  | succ k ih =>
    constructor
    · have : ∀ es : List (List Nat), (es.flatMap fun b => [48, 49].map fun c => b ++ [c]).length = 2 * es.length := by
        intro es
        induction es with
        | nil => rfl
        | cons e es ih2 => rw [List.flatMap_cons, List.length_append, ih2]; simp; omega
      rw [begs, this, ih.1, Nat.pow_succ]; omega
    · intro b hb
      rw [begs, List.mem_flatMap] at hb
      obtain ⟨a, ha, hb⟩ := hb
      have := ih.2 a ha
      rw [List.mem_map] at hb
      obtain ⟨c, _, rfl⟩ := hb
      simp [this]
def fSW : PyData → Nat → PyData
  | .str s, c => .str (s ++ Sg [c])
  | _, _ => .none
theorem fSW_all (k : Nat) : (((begs k).map fun b => PyData.str (Sg b)).flatMap fun d => [48, 49].map (fSW d)) = (begs (k + 1)).map fun b => PyData.str (Sg b) := by
  rw [begs]
  induction begs k with
  | nil => rfl
  | cons b r ih => rw [List.map_cons, List.flatMap_cons, ih, List.flatMap_cons, List.map_append]; simp [fSW, sg_app]
end Tw
namespace Tw
theorem rest_iff {f m r : Nat} (h1 : 1 ≤ r) (h2 : r ≤ m) (hf : 1 ≤ f) : ((f : Int) - (r : Int)) % (m : Int) = 0 ↔ r = (f - 1) % m + 1 := by
  have hm : 0 < m := by omega
  have hs := Nat.mod_lt (f - 1) hm
  have hd := Nat.div_add_mod (f - 1) m
  generalize hq : (f - 1) / m = q at hd
  generalize hS : (f - 1) % m = s at hd hs
  have e : (f : Int) - (r : Int) = ((s : Int) + 1 - r) + (m : Int) * (q : Int) := by
    have : ((m * q + s : Nat) : Int) = ((f - 1 : Nat) : Int) := by rw [hd]
    push_cast at this
    omega
  rw [e, Int.add_mul_emod_self_left]
  constructor
  · intro z
    by_cases hp : 0 ≤ (s : Int) + 1 - r
    · rw [Int.emod_eq_of_lt hp (by omega)] at z
      omega
    · rw [← Int.add_emod_right, Int.emod_eq_of_lt (by omega) (by omega)] at z
      omega
  · intro z
    rw [show (s : Int) + 1 - r = 0 by omega]
    simp
/-- the strong word of a drawing -/
theorem wordW_mk {s : List Nat} (h : ∀ x ∈ s, x = 48 ∨ x = 49) : WordW (49 :: (s ++ [42])) := .inr ⟨s, rfl, h⟩
end Tw
namespace Tw
def starB (l : List Nat) : Bool := l.getLast? == some 42 && l.dropLast.all (· != 42)
theorem starB_ok {l : List Nat} (h : starB l = true) : StarW l := by
  unfold starB at h
  rw [Bool.and_eq_true, beq_iff_eq, List.all_eq_true] at h
  have hl : l ≠ [] := fun z => by subst z; simp at h
  refine ⟨hl, ?_, fun c hc => by have := h.2 c hc; simpa using this⟩
  have := h.1
  rw [List.getLast?_eq_getLast hl] at this
  exact Option.some.inj this
def w10110 : List Nat := [49, 48, 49, 49, 48, 42]
theorem k61_a : fo w10110 = some 3 := by decide +kernel
theorem k61_b : ((swL 5).all fun s => starB s && (failO s).isNone) = true := by decide +kernel
theorem k61_c : ((swL 6).all fun s => starB s) = true := by decide +kernel
theorem k61_d : ((swL 6).filter fun s => !(failO s).isNone) = [w10110] := by decide +kernel
set_option maxRecDepth 100000 in
theorem check61_ok : check61 = true := by decide +kernel
theorem swL_len {n : Nat} (h : 2 ≤ n) (h2 : n ≤ 12) : (swL n).length ≤ 1024 ∧ ∀ s ∈ swL n, s.length = n := by
  have hb := begs_len (n - 2)
  have hpow : 2 ^ (n - 2) ≤ 2 ^ 10 := Nat.pow_le_pow_right (by decide) (by omega)
  constructor
  · rw [swL, List.length_map, hb.1]; omega
  · intro s hs
    rw [swL, List.mem_map] at hs
    obtain ⟨b, h1, rfl⟩ := hs
    have := hb.2 b h1
    simp [this]; omega
/-- the bases that are drawn -/
def four61 : List (List Nat) := [[49, 48, 49, 49, 48, 42], [49, 48, 49, 49, 48, 49, 42], [49, 48, 49, 49, 48, 48, 49, 42], [49, 48, 49, 49, 48, 48, 42]]
theorem base61 {b w : List Nat} (hw : WordW w) (hl : w.length ≤ 8) (h : b ∈ four61 ++ [w]) : b ∈ bases61 ∧ WordW b ∧ b.length ≤ 8 := by
  rcases List.mem_append.mp h with h | h
  · refine ⟨List.mem_append_left _ h, ?_⟩
    unfold four61 at h
    simp only [List.mem_cons, List.not_mem_nil, or_false] at h
    rcases h with rfl | rfl | rfl | rfl
    · exact ⟨.inr ⟨[48, 49, 49, 48], rfl, by simp⟩, by simp⟩
    · exact ⟨.inr ⟨[48, 49, 49, 48, 49], rfl, by simp⟩, by simp⟩
    · exact ⟨.inr ⟨[48, 49, 49, 48, 48, 49], rfl, by simp⟩, by simp⟩
    · exact ⟨.inr ⟨[48, 49, 49, 48, 48], rfl, by simp⟩, by simp⟩
  · rw [List.mem_singleton] at h
    subst h
    exact ⟨List.mem_append_right _ (mem_wordsTo hw hl), hw, hl⟩
theorem let61 {b o : List Nat} (hb : b ∈ bases61) (h1 : 1 < b.length) (ho : WordW o) (hl : o.length ≤ 3) : (failO (copiedL b o)).isNone = (failO b).isNone := by
  have h := check61_ok
  unfold check61 at h
  rw [List.all_eq_true] at h
  have := h b hb
  rw [Bool.or_eq_true] at this
  rcases this with z | z
  · have : b.length = 1 := by simpa using z
    omega
  · rw [List.all_eq_true] at z
    simpa using z o (mem_wordsTo ho hl)
end Tw
namespace Tw
open PySem PySem.Spec PyProof.Rows L2
def topS (i : Nat) : Stmt := PySem.Challenge.pw_twicedial_k61_failing_numbers.main.body.getD i (.Pass ⟨0, 0, 0, 0⟩)
abbrev s_TooMany__init : Stmt := inClass (topS 2) 0
abbrev N_TooMany__init : List Str := ["self", "limit"]
theorem sc_TooMany__init : FnScope N_TooMany__init ["self", "limit"] (defScope s_TooMany__init) := ⟨rfl, rfl, rfl, by decide +kernel, rfl, by decide +kernel, by decide +kernel⟩
abbrev s_star_words : Stmt := topS 6
abbrev N_star_words : List Str := ["count", "beginnings", "_", "begun", "character"]
theorem sc_star_words : FnScope N_star_words ["count"] (defScope s_star_words) := ⟨rfl, rfl, rfl, by decide +kernel, rfl, by decide +kernel, by decide +kernel⟩
abbrev s_next_unlike : Stmt := topS 7
abbrev N_next_unlike : List Str := ["marks", "m", "count", "k"]
theorem sc_next_unlike : FnScope N_next_unlike ["marks", "m"] (defScope s_next_unlike) := ⟨rfl, rfl, rfl, by decide +kernel, rfl, by decide +kernel, by decide +kernel⟩
abbrev s_address : Stmt := topS 8
abbrev N_address : List Str := ["marks", "numbers", "m"]
theorem sc_address : FnScope N_address ["marks"] (defScope s_address) := ⟨rfl, rfl, rfl, by decide +kernel, rfl, by decide +kernel, by decide +kernel⟩
abbrev s_upper_mark : Stmt := topS 9
abbrev N_upper_mark : List Str := ["word", "count"]
theorem sc_upper_mark : FnScope N_upper_mark ["word"] (defScope s_upper_mark) := ⟨rfl, rfl, rfl, by decide +kernel, rfl, by decide +kernel, by decide +kernel⟩
abbrev s_failing : Stmt := topS 11
abbrev N_failing : List Str := ["word", "numbers", "m"]
theorem sc_failing : FnScope N_failing ["word"] (defScope s_failing) := ⟨rfl, rfl, rfl, by decide +kernel, rfl, by decide +kernel, by decide +kernel⟩
abbrev s_is_let : Stmt := topS 12
abbrev N_is_let : List Str := ["word"]
theorem sc_is_let : FnScope N_is_let ["word"] (defScope s_is_let) := ⟨rfl, rfl, rfl, by decide +kernel, rfl, by decide +kernel, by decide +kernel⟩
abbrev s__fails : Stmt := topS 13
abbrev N__fails : List Str := ["word", "m", "divisors", "k"]
theorem sc__fails : FnScope N__fails ["word", "m"] (defScope s__fails) := ⟨rfl, rfl, rfl, by decide +kernel, rfl, by decide +kernel, by decide +kernel⟩
abbrev s__rest : Stmt := topS 14
abbrev N__rest : List Str := ["k", "m"]
theorem sc__rest : FnScope N__rest ["k", "m"] (defScope s__rest) := ⟨rfl, rfl, rfl, by decide +kernel, rfl, by decide +kernel, by decide +kernel⟩
abbrev s__comes_by : Stmt := topS 15
abbrev N__comes_by : List Str := ["word", "begun", "m"]
theorem sc__comes_by : FnScope N__comes_by ["word", "begun", "m"] (defScope s__comes_by) := ⟨rfl, rfl, rfl, by decide +kernel, rfl, by decide +kernel, by decide +kernel⟩
abbrev s_copied_word : Stmt := topS 17
abbrev N_copied_word : List Str := ["word", "other", "upper", "last", "character"]
theorem sc_copied_word : FnScope N_copied_word ["word", "other"] (defScope s_copied_word) := ⟨rfl, rfl, rfl, by decide +kernel, rfl, by decide +kernel, by decide +kernel⟩
abbrev s__law_begun : Stmt := topS 19
abbrev N__law_begun : List Str := ["script", "k", "cells", "great", "seed", "cell"]
theorem sc__law_begun : FnScope N__law_begun ["script", "k"] (defScope s__law_begun) := ⟨rfl, rfl, rfl, by decide +kernel, rfl, by decide +kernel, by decide +kernel⟩
abbrev s__law_draw : Stmt := topS 20
abbrev N__law_draw : List Str := ["m", "below", "found", "spot", "cells", "extra", "cell", "blend"]
theorem sc__law_draw : FnScope N__law_draw ["m", "below"] (defScope s__law_draw) := ⟨rfl, rfl, rfl, by decide +kernel, rfl, by decide +kernel, by decide +kernel⟩
abbrev s__law_of : Stmt := topS 21
abbrev N__law_of : List Str := ["m", "some"]
theorem sc__law_of : FnScope N__law_of ["m", "some"] (defScope s__law_of) := ⟨rfl, rfl, rfl, by decide +kernel, rfl, by decide +kernel, by decide +kernel⟩
abbrev s__law_string : Stmt := topS 22
abbrev N__law_string : List Str := ["m", "size", "k"]
theorem sc__law_string : FnScope N__law_string ["m", "size"] (defScope s__law_string) := ⟨rfl, rfl, rfl, by decide +kernel, rfl, by decide +kernel, by decide +kernel⟩
abbrev s__law_mark_at : Stmt := topS 23
abbrev N__law_mark_at : List Str := ["marks", "k"]
theorem sc__law_mark_at : FnScope N__law_mark_at ["marks", "k"] (defScope s__law_mark_at) := ⟨rfl, rfl, rfl, by decide +kernel, rfl, by decide +kernel, by decide +kernel⟩
abbrev s__law_unlike : Stmt := topS 24
abbrev N__law_unlike : List Str := ["marks", "m", "k"]
theorem sc__law_unlike : FnScope N__law_unlike ["marks", "m"] (defScope s__law_unlike) := ⟨rfl, rfl, rfl, by decide +kernel, rfl, by decide +kernel, by decide +kernel⟩
abbrev s__law_chain : Stmt := topS 25
abbrev N__law_chain : List Str := ["marks", "begin", "most", "found", "number", "k"]
theorem sc__law_chain : FnScope N__law_chain ["marks", "begin", "most"] (defScope s__law_chain) := ⟨rfl, rfl, rfl, by decide +kernel, rfl, by decide +kernel, by decide +kernel⟩
abbrev s__law_address : Stmt := topS 26
abbrev N__law_address : List Str := ["marks"]
theorem sc__law_address : FnScope N__law_address ["marks"] (defScope s__law_address) := ⟨rfl, rfl, rfl, by decide +kernel, rfl, by decide +kernel, by decide +kernel⟩
abbrev s__law_fails_at : Stmt := topS 27
abbrev N__law_fails_at : List Str := ["word", "m", "k", "far", "rest", "r"]
theorem sc__law_fails_at : FnScope N__law_fails_at ["word", "m"] (defScope s__law_fails_at) := ⟨rfl, rfl, rfl, by decide +kernel, rfl, by decide +kernel, by decide +kernel⟩
abbrev s__law_failing : Stmt := topS 28
abbrev N__law_failing : List Str := ["word", "m"]
theorem sc__law_failing : FnScope N__law_failing ["word"] (defScope s__law_failing) := ⟨rfl, rfl, rfl, by decide +kernel, rfl, by decide +kernel, by decide +kernel⟩
abbrev s__law_word : Stmt := topS 29
abbrev N__law_word : List Str := ["m", "most", "size"]
theorem sc__law_word : FnScope N__law_word ["m", "most"] (defScope s__law_word) := ⟨rfl, rfl, rfl, by decide +kernel, rfl, by decide +kernel, by decide +kernel⟩
abbrev s__law_is_right : Stmt := topS 30
abbrev N__law_is_right : List Str := ["word", "due", "told", "let"]
theorem sc__law_is_right : FnScope N__law_is_right ["word"] (defScope s__law_is_right) := ⟨rfl, rfl, rfl, by decide +kernel, rfl, by decide +kernel, by decide +kernel⟩
abbrev s_law : Stmt := topS 31
abbrev N_law : List Str := ["script", "k", "m", "word", "base", "other", "both"]
theorem sc_law : FnScope N_law ["script"] (defScope s_law) := ⟨rfl, rfl, rfl, by decide +kernel, rfl, by decide +kernel, by decide +kernel⟩
structure Top (K : PySem.W.Frag) (mg : Str → Option Value) where
  f_TooMany__init : Addr
  fd_TooMany__init : FuncData
  F_TooMany__init : Fun K "__init__" "TooMany.__init__" s_TooMany__init f_TooMany__init fd_TooMany__init
  b_TooMany__init : Binds K fd_TooMany__init ["self", "limit"] []
  f_star_words : Addr
  fd_star_words : FuncData
  F_star_words : Fun K "star_words" "star_words" s_star_words f_star_words fd_star_words
  b_star_words : Binds K fd_star_words ["count"] []
  g_star_words : mg "star_words" = some (.ref f_star_words)
  f_next_unlike : Addr
  fd_next_unlike : FuncData
  F_next_unlike : Fun K "next_unlike" "next_unlike" s_next_unlike f_next_unlike fd_next_unlike
  b_next_unlike : Binds K fd_next_unlike ["marks", "m"] []
  g_next_unlike : mg "next_unlike" = some (.ref f_next_unlike)
  f_address : Addr
  fd_address : FuncData
  F_address : Fun K "address" "address" s_address f_address fd_address
  b_address : Binds K fd_address ["marks"] []
  g_address : mg "address" = some (.ref f_address)
  f_upper_mark : Addr
  fd_upper_mark : FuncData
  F_upper_mark : Fun K "upper_mark" "upper_mark" s_upper_mark f_upper_mark fd_upper_mark
  b_upper_mark : Binds K fd_upper_mark ["word"] []
  g_upper_mark : mg "upper_mark" = some (.ref f_upper_mark)
  f_failing : Addr
  fd_failing : FuncData
  F_failing : Fun K "failing" "failing" s_failing f_failing fd_failing
  b_failing : Binds K fd_failing ["word"] []
  g_failing : mg "failing" = some (.ref f_failing)
  f_is_let : Addr
  fd_is_let : FuncData
  F_is_let : Fun K "is_let" "is_let" s_is_let f_is_let fd_is_let
  b_is_let : Binds K fd_is_let ["word"] []
  g_is_let : mg "is_let" = some (.ref f_is_let)
  f__fails : Addr
  fd__fails : FuncData
  F__fails : Fun K "_fails" "_fails" s__fails f__fails fd__fails
  b__fails : Binds K fd__fails ["word", "m"] []
  g__fails : mg "_fails" = some (.ref f__fails)
  f__rest : Addr
  fd__rest : FuncData
  F__rest : Fun K "_rest" "_rest" s__rest f__rest fd__rest
  b__rest : Binds K fd__rest ["k", "m"] []
  g__rest : mg "_rest" = some (.ref f__rest)
  f__comes_by : Addr
  fd__comes_by : FuncData
  F__comes_by : Fun K "_comes_by" "_comes_by" s__comes_by f__comes_by fd__comes_by
  b__comes_by : Binds K fd__comes_by ["word", "begun", "m"] []
  g__comes_by : mg "_comes_by" = some (.ref f__comes_by)
  f_copied_word : Addr
  fd_copied_word : FuncData
  F_copied_word : Fun K "copied_word" "copied_word" s_copied_word f_copied_word fd_copied_word
  b_copied_word : Binds K fd_copied_word ["word", "other"] []
  g_copied_word : mg "copied_word" = some (.ref f_copied_word)
  f__law_begun : Addr
  fd__law_begun : FuncData
  F__law_begun : Fun K "_law_begun" "_law_begun" s__law_begun f__law_begun fd__law_begun
  b__law_begun : Binds K fd__law_begun ["script", "k"] []
  g__law_begun : mg "_law_begun" = some (.ref f__law_begun)
  f__law_draw : Addr
  fd__law_draw : FuncData
  F__law_draw : Fun K "_law_draw" "_law_draw" s__law_draw f__law_draw fd__law_draw
  b__law_draw : Binds K fd__law_draw ["m", "below"] []
  g__law_draw : mg "_law_draw" = some (.ref f__law_draw)
  f__law_of : Addr
  fd__law_of : FuncData
  F__law_of : Fun K "_law_of" "_law_of" s__law_of f__law_of fd__law_of
  b__law_of : Binds K fd__law_of ["m", "some"] []
  g__law_of : mg "_law_of" = some (.ref f__law_of)
  f__law_string : Addr
  fd__law_string : FuncData
  F__law_string : Fun K "_law_string" "_law_string" s__law_string f__law_string fd__law_string
  b__law_string : Binds K fd__law_string ["m", "size"] []
  g__law_string : mg "_law_string" = some (.ref f__law_string)
  f__law_mark_at : Addr
  fd__law_mark_at : FuncData
  F__law_mark_at : Fun K "_law_mark_at" "_law_mark_at" s__law_mark_at f__law_mark_at fd__law_mark_at
  b__law_mark_at : Binds K fd__law_mark_at ["marks", "k"] []
  g__law_mark_at : mg "_law_mark_at" = some (.ref f__law_mark_at)
  f__law_unlike : Addr
  fd__law_unlike : FuncData
  F__law_unlike : Fun K "_law_unlike" "_law_unlike" s__law_unlike f__law_unlike fd__law_unlike
  b__law_unlike : Binds K fd__law_unlike ["marks", "m"] []
  g__law_unlike : mg "_law_unlike" = some (.ref f__law_unlike)
  f__law_chain : Addr
  fd__law_chain : FuncData
  F__law_chain : Fun K "_law_chain" "_law_chain" s__law_chain f__law_chain fd__law_chain
  b__law_chain : Binds K fd__law_chain ["marks", "begin", "most"] []
  g__law_chain : mg "_law_chain" = some (.ref f__law_chain)
  f__law_address : Addr
  fd__law_address : FuncData
  F__law_address : Fun K "_law_address" "_law_address" s__law_address f__law_address fd__law_address
  b__law_address : Binds K fd__law_address ["marks"] []
  g__law_address : mg "_law_address" = some (.ref f__law_address)
  f__law_fails_at : Addr
  fd__law_fails_at : FuncData
  F__law_fails_at : Fun K "_law_fails_at" "_law_fails_at" s__law_fails_at f__law_fails_at fd__law_fails_at
  b__law_fails_at : Binds K fd__law_fails_at ["word", "m"] []
  g__law_fails_at : mg "_law_fails_at" = some (.ref f__law_fails_at)
  f__law_failing : Addr
  fd__law_failing : FuncData
  F__law_failing : Fun K "_law_failing" "_law_failing" s__law_failing f__law_failing fd__law_failing
  b__law_failing : Binds K fd__law_failing ["word"] []
  g__law_failing : mg "_law_failing" = some (.ref f__law_failing)
  f__law_word : Addr
  fd__law_word : FuncData
  F__law_word : Fun K "_law_word" "_law_word" s__law_word f__law_word fd__law_word
  b__law_word : Binds K fd__law_word ["m", "most"] []
  g__law_word : mg "_law_word" = some (.ref f__law_word)
  f__law_is_right : Addr
  fd__law_is_right : FuncData
  F__law_is_right : Fun K "_law_is_right" "_law_is_right" s__law_is_right f__law_is_right fd__law_is_right
  b__law_is_right : Binds K fd__law_is_right ["word"] []
  g__law_is_right : mg "_law_is_right" = some (.ref f__law_is_right)
  f_law : Addr
  fd_law : FuncData
  F_law : Fun K "law" "law" s_law f_law fd_law
  b_law : Binds K fd_law ["script"] []
  g_law : mg "law" = some (.ref f_law)
  c_DialError : Addr
  gc_DialError : mg "DialError" = some (.ref c_DialError)
  x_DialError : ExK K c_DialError
  y_DialError : ExB K c_DialError
  c_TooMany : Addr
  gc_TooMany : mg "TooMany" = some (.ref c_TooMany)
  x_TooMany : ExK K c_TooMany
  iC_TooMany : PySem.W.findIn K (.ref c_TooMany) "__init__" = some (some (.ref f_TooMany__init))
  tI_TooMany : PySem.W.typeIn K (.ref f_TooMany__init) = some (.type "function")
  n_TooMany_limit : PySem.W.findIn K (.ref c_TooMany) "limit" = some none
  z_any : mg "any" = none
  z_bool : mg "bool" = none
  z_int : mg "int" = none
  z_isinstance : mg "isinstance" = none
  z_len : mg "len" = none
  z_range : mg "range" = none
  z_str : mg "str" = none
  z_tuple : mg "tuple" = none
  t_MOST_CHARACTERS : Tok
  c_MOST_CHARACTERS : mg "MOST_CHARACTERS" = some (.int 24 t_MOST_CHARACTERS)
  t_MOST_LISTED : Tok
  c_MOST_LISTED : mg "MOST_LISTED" = some (.int 12 t_MOST_LISTED)
end Tw
namespace Tw
open PySem PySem.Spec PyProof.Rows L2
local macro_rules | `(tactic| walk_at "dp") => `(tactic| first
  | exact Dp.int _ | exact Dp.str _ | exact Dp.bl _ | exact Dp.non
  | assumption
  | ((refine' dp_same ?he ?hd); (case he => assumption); (case hd => walk_at "dp"))
  | ((refine' dp_keep ?he ?hd); (case he => assumption); (case hd => walk_at "dp")))
local macro_rules | `(tactic| walk_at "dpa") => `(tactic| first
  | exact DpAll.nil
  | assumption
  | ((refine' DpAll.cons ?ha ?hb); (case ha => walk_at "dp"); (case hb => walk_at "dpa")))
local macro_rules | `(tactic| walk_at "ty") => `(tactic| first
  | exact ty_int | exact ty_non | exact ty_bl | exact ty_str
  | ((refine' ty_tup ?hx); (case hx => walk_at "dp"))
  | ((refine' ty_lst ?hx); (case hx => walk_at "dp")))
local macro_rules | `(tactic| walk_at "c") => `(tactic| ((try dsimp only); (first
  | (with_reducible assumption) | omega | decide
  | (simp only [List.length_map]; omega)
  | exact mulS ⟨by omega, by omega⟩ ⟨by omega, by omega⟩
  | exact divS ⟨by omega, by omega⟩)))
local macro_rules | `(tactic| walk_at "e0") => `(tactic| first
  | with_reducible refine w_c ?_
  | ((with_reducible refine' w_var ?hv ?_); case hv => rfl)
  | with_reducible refine w_op ?_
  | with_reducible refine w_rI0 ?_
  | with_reducible refine w_rU ?_
  | with_reducible refine w_cons ?_
  | with_reducible refine w_nil ?_
  | with_reducible refine w_cb ?_
  | with_reducible refine w_call ?_
  | with_reducible refine w_tTest ?_
  | with_reducible refine w_bl ?_
  | with_reducible refine w_blV ?_
  | with_reducible refine w_andV ?_
  | with_reducible refine w_chain ?_
  | with_reducible refine w_orV ?_
  | with_reducible refine w_notV ?_
  | with_reducible refine w_tB ?_
  | with_reducible refine w_and ?_
  | with_reducible refine w_or ?_
  | with_reducible refine w_not ?_
  | with_reducible refine w_tI ?_
  | with_reducible refine w_un ?_
  | with_reducible refine w_int ?_
  | with_reducible refine w_tup ?_
  | with_reducible refine w_lst ?_
  | with_reducible refine w_tIsN ?_
  | with_reducible refine w_tNotN ?_
  | with_reducible refine w_slice ?_
  | with_reducible refine w_noPart ?_
  | with_reducible refine w_part ?_
  | with_reducible refine w_pint ?_
  | with_reducible refine w_isStr ?_
  | with_reducible refine w_bm ?_
  | with_reducible refine w_bm0 ?_
  | with_reducible refine w_m1 ?_
  | with_reducible refine w_tyS ?_
  | with_reducible refine w_dget ?_
  | with_reducible refine w_iteT ?_
  | with_reducible refine w_iteF ?_
  | with_reducible refine w_iteNT ?_
  | with_reducible refine w_iteNF ?_
  | with_reducible refine w_pp ?_
  | with_reducible refine w_pp0 ?_
  | with_reducible refine w_lcL ?_
  | with_reducible refine w_lcT ?_
  | with_reducible refine w_lcR1 ?_
  | with_reducible refine w_lcR2 ?_
  | with_reducible refine w_tYes ?_
  | ((with_reducible refine' w_dgS ?h ?hm ?_); (case h => assumption); (case hm => first | exact mo_left | exact mo_seed | exact mo_cells | exact mo_spot))
  | ((with_reducible refine' w_isiY ?ty ?h ?_); (case ty => walk_at "ty"); (case h => decide +kernel))
  | ((with_reducible refine' w_isiN ?ty ?h ?_); (case ty => walk_at "ty"); (case h => decide +kernel))
  | ((with_reducible refine' w_lenL ?h ?_); case h => walk_at "dp")
  | ((with_reducible refine' w_lenT ?h ?_); case h => walk_at "dp")
  | ((with_reducible refine' w_lenSg ?h ?_); case h => walk_at "c")
  | ((with_reducible refine' w_lenS ?h ?_); case h => walk_at "c")
  | ((with_reducible refine' w_addSg ?h ?_); case h => walk_at "c")
  | ((with_reducible refine' w_rI ?c ?_); case c => walk_at "c")
  | with_reducible refine w_eqI ?_
  | with_reducible refine w_neI ?_
  | ((with_reducible refine' w_rEq ?hs ?_); case hs => rfl)
  | ((with_reducible refine' w_rNe ?hs ?_); case hs => rfl))
local macro_rules | `(tactic| walk_at "e") => `(tactic| first
  | walk_at "e0"
  | ((with_reducible refine' w_rMod ?c ?_); case c => walk_at "c"))
local macro_rules | `(tactic| walk_at "p") => `(tactic| first
  | ((with_reducible refine' w_ix0 ?h ?_); case h => walk_at "dp")
  | ((with_reducible refine' w_ix1 ?h ?_); case h => walk_at "dp")
  | ((with_reducible refine' w_gTupP ?h ?_); case h => walk_at "dp")
  | with_reducible refine w_gcdN ?_
  | with_reducible refine w_absN ?_
  | with_reducible refine w_absI ?_
  | with_reducible refine w_vei ?_
  | with_reducible refine w_ost ?_
  | with_reducible refine w_callS ?_
  | with_reducible refine w_xf ?_
  | with_reducible refine w_mko ?_
  | with_reducible refine w_lcS ?_
  | with_reducible refine w_lc2 ?_
  | with_reducible refine w_max2 (fun _ _ => ?_)
  | with_reducible refine w_min2 (fun _ _ => ?_))
local macro_rules | `(tactic| walk_at "s0") => `(tactic| first
  | with_reducible refine w_seq ?_
  | with_reducible refine w_asg ?_
  | with_reducible refine w_ret ?_
  | with_reducible refine w_drop ?_
  | with_reducible refine w_next ?_
  | with_reducible refine w_retN ?_
  | with_reducible refine w_brk ?_
  | with_reducible refine w_cont ?_
  | with_reducible refine w_dput ?_
  | with_reducible refine w_forL ?_
  | with_reducible refine w_wb ?_
  | with_reducible refine w_forT ?_
  | with_reducible refine w_forR1 ?_
  | with_reducible refine w_forR2 ?_
  | with_reducible refine w_forS ?_
  | with_reducible refine w_gName ?_
  | with_reducible refine w_par ?_
  | with_reducible refine w_asgG ?_
  | with_reducible refine w_par3 ?_
  | with_reducible refine w_par33 ?_
  | with_reducible refine w_par2 ?_)
local macro_rules | `(tactic| walk_at "s") => `(tactic| first
  | walk_at "s0"
  | with_reducible refine w_ifS ?_)
local macro_rules | `(tactic| walk_at "w") => `(tactic| repeat first | walk_at "e" | walk_at "s")
local macro_rules | `(tactic| walk_at "w0") => `(tactic| repeat first | walk_at "e0" | walk_at "s")
local macro_rules | `(tactic| walk_at "wp") => `(tactic| repeat first | walk_at "e" | walk_at "s" | walk_at "p")
local macro_rules | `(tactic| walk_at "t") => `(tactic| first
  | ((with_reducible refine' w_newT (K := ‹PySem.W.Frag›) ?hl ?hd (fun _ _ _ _ _ => ?_)); (case hl => exact len_ok (by simp)); (case hd => walk_at "dpa"))
  | ((with_reducible refine' w_newL (K := ‹PySem.W.Frag›) ?hl ?hd (fun _ _ _ _ _ _ => ?_)); (case hl => exact len_ok (by simp)); (case hd => walk_at "dpa"))
  | ((with_reducible refine' w_gTup2 ?h (fun _ _ _ _ => ?_)); case h => walk_at "dp"))
local macro_rules | `(tactic| walk_at "wt") => `(tactic| repeat first | walk_at "e" | walk_at "s" | walk_at "p" | walk_at "t")
local macro_rules | `(tactic| walk_at "same") => `(tactic| first
  | exact Same.refl _
  | assumption
  | ((refine' Same.trans ?ha ?hb); (case hb => assumption); (case ha => walk_at "same")))
local macro_rules | `(tactic| walk_at "keep") => `(tactic| first
  | exact Keep.refl _
  | assumption
  | (refine Keep.of ?_; assumption)
  | ((refine' Keep.trans ?ha ?hb); (case hb => first | assumption | (refine Keep.of ?_; assumption)); (case ha => walk_at "keep")))
local macro_rules | `(tactic| walk_at "wi") => `(tactic| repeat first | walk_at "e" | walk_at "s0" | walk_at "p" | walk_at "t")
section
variable {P : Program} {w : World} {K : PySem.W.Frag} {mg : Str → Option Value} {base : Heap}
/-! ### TooMany__init -/
def sp_TooMany__init (K : PySem.W.Frag) : Sp := fun vs H Q _ => ∃ (a C : Addr) (n : Int), vs = [.ref a, .int n] ∧ OexC K C ∧ PySem.W.findIn K (.ref C) "limit" = some none ∧ H a = some (exo a C none) ∧ 0 ≤ n ∧ n < 1000000 ∧ ∀ dx, H dx = none → dx ≠ a → Q .non (upd (upd H dx (exd dx [("limit", .int n)])) a (exo a C (some dx)))
theorem ok_TooMany__init (T : Top K mg) : FnOk P w K mg base CX0 1 T.f_TooMany__init T.fd_TooMany__init ["self", "limit"] (sp_TooMany__init K) := by
  refine T.F_TooMany__init.ok sc_TooMany__init (fun vs H Q E h => ?_) (fun cdv A outer s H vs Q E hr h => ?_)
  · obtain ⟨a, C, n, rfl, _⟩ := h
    rfl
  · obtain ⟨a, C, n, rfl, ox, hn, hx, h0, h1, q⟩ := h
    refine ⟨_, (pss_cons (ps_expr (pe_ownInit (by rfl) T.gc_DialError T.y_DialError.sp T.y_DialError.tp T.y_DialError.rd T.y_DialError.fc (pa_cons (pv 0) (pa_cons (pe_joined (.cons pe_str (.cons (pe_fmt (pv 1)) .nil))) pa_nil))))
      (pss_one (ps_ost (pv 0) (pv 1)))), ?_⟩
    rw [show start N_TooMany__init [.ref a, .int n] = [some (.ref a), some (.int n)] from rfl]
    try dsimp only [cxK]
    have hl := strI_len h0 h1
    have hz := sizeLine_eq
    walk_at "wp"
    refine w_js ⟨_, rfl, by rw [sizeLine_eq]; decide +kernel, w_js (w_fmt ⟨_, rfl, .inr ⟨n, rfl, log2_ok h0 h1, _, rfl, ?_, ?_⟩⟩)⟩
    · rw [str_app]
      have : (Str.empty ++ Str.ofString "more than ").length = 10 := by decide +kernel
      omega
    · refine w_jsN ?_
      walk_at "wp"
      refine ⟨a, C, _, rfl, by simp, ox, hx, ?_⟩
      walk_at "wp"
      exact ⟨a, C, rfl, ox, hn, .inl ⟨hx, q⟩⟩

/-! ### next_unlike -/
def sp_next_unlike (K : PySem.W.Frag) : Sp := fun vs H Q _ => ∃ (l : List Nat) (m : Int), vs = [.str (Sg l), .int m] ∧ l ≠ [] ∧ l.length ≤ 1000 ∧ 1 ≤ m ∧ m ≤ 100000 ∧ ∀ r, Un l m r → Q (ov r) H
theorem ok_next_unlike (T : Top K mg) : FnOk P w K mg base CX0 1 T.f_next_unlike T.fd_next_unlike ["marks", "m"] (sp_next_unlike K) := by
  refine T.F_next_unlike.ok sc_next_unlike (fun vs H Q E h => ?_) (fun cdv A outer s H vs Q E hr h => ?_)
  · obtain ⟨l, m, rfl, _⟩ := h
    rfl
  · obtain ⟨l, m, rfl, hl, hz, hm0, hm1, q⟩ := h
    refine ⟨_, (pss_cons (ps_set (i := 2) sc_next_unlike.nd (by rfl) (by first | exact Or.inl rfl | exact Or.inr rfl) (pe_callB (cl_len (K := K)) (by rfl) T.z_len (by decide +kernel) (pa_cons (pv 0) pa_nil)))
      (pss_cons (ps_for PassesOwn.never (by rfl) (pi_range2 (by rfl) T.z_range (pa_cons (pe_op op_add (pv 1) pe_int) (pa_cons (pe_op op_add (pe_op op_add (pv 1) (pv 2)) pe_int) pa_nil))) (pg_name (i := 3) sc_next_unlike.nd (by rfl) (by first | exact Or.inl rfl | exact Or.inr rfl)) (pss_one (ps_if (pt_cmpR op_ne (pe_ix ix_str (pv 0) (pe_op op_modD (pe_op op_sub (pv 3) pe_int) (pv 2)) (fun _ _ => rfl)) (pe_ix ix_str (pv 0) (pe_op op_modD (pe_op op_sub (pe_op op_sub (pv 3) (pv 1)) pe_int) (pv 2)) (fun _ _ => rfl)) (nomark _)) (pss_one (ps_ret (pv 3))) pss_nil)))
      (pss_one (ps_ret pe_non)))), ?_⟩
    rw [show start N_next_unlike [.str (Sg l), .int m] = [some (.str (Sg l)), some (.int m), none, none] from rfl]
    try dsimp only [cxK]
    have hp : 0 < l.length := List.length_pos_iff.mpr hl
    walk_at "w"
    refine forR2_by (fun i σ' H' => ∃ y, σ' = [some (.str (Sg l)), some (.int m), some (.int (l.length : Int)), y] ∧ H = H' ∧ ∀ j, m < j → j ≤ m + i → mk l j = mk l (j - m)) (by omega) ⟨none, rfl, rfl, fun j h1 h2 => by omega⟩ ?_ ?_
    · rintro i σ' H' hi ⟨y, rfl, rfl, hj⟩
      walk_at "w"
      refine w_ixSg (by omega) (Int.emod_nonneg _ (by omega)) (Int.emod_lt_of_pos _ (by omega)) fun c hc => ?_
      walk_at "w"
      refine w_ixSg (by omega) (Int.emod_nonneg _ (by omega)) (Int.emod_lt_of_pos _ (by omega)) fun c2 hc2 => ?_
      have e1 := mk_at hc
      have e2 := mk_at hc2
      refine w_neSg (fun e => ?_) (fun e => ?_)
      · walk_at "w"
        refine ⟨_, rfl, rfl, fun j h1 h2 => ?_⟩
        by_cases hj2 : j ≤ m + i
        · exact hj j h1 hj2
        · have ej : j = m + 1 + i := by omega
          subst ej
          rw [← e1, ← e2]
          exact List.cons.inj e |>.1
      · walk_at "w"
        refine q (some (m + 1 + i)) ⟨by omega, ?_, fun j h1 h2 => hj j h1 (by omega)⟩
        rw [← e1, ← e2]
        exact fun z => e (by rw [z])
    · rintro σ' H' ⟨y, rfl, rfl, hj⟩
      walk_at "w"
      exact q none (scan_none hl fun j h1 h2 => hj j h1 (by omega))

/-! ### _rest -/
def sp__rest (K : PySem.W.Frag) : Sp := fun vs H Q _ => ∃ (k m : Int), vs = [.int k, .int m] ∧ 1 ≤ k ∧ k ≤ 1000000 ∧ 1 ≤ m ∧ m ≤ 1000000 ∧ Q (.int ((k - 1) % m + 1)) H
theorem ok__rest (T : Top K mg) : FnOk P w K mg base CX0 1 T.f__rest T.fd__rest ["k", "m"] (sp__rest K) := by
  refine T.F__rest.ok sc__rest (fun vs H Q E h => ?_) (fun cdv A outer s H vs Q E hr h => ?_)
  · obtain ⟨k, m, rfl, _⟩ := h
    rfl
  · obtain ⟨k, m, rfl, h1, h2, h3, h4, q⟩ := h
    refine ⟨_, (pss_one (ps_ret (pe_op op_add (pe_op op_modD (pe_op op_sub (pv 0) pe_int) (pv 1)) pe_int))), ?_⟩
    rw [show start N__rest [.int k, .int m] = [some (.int k), some (.int m)] from rfl]
    try dsimp only [cxK]
    walk_at "w"
    exact q

/-! ### _law_begun -/
def sp__law_begun (K : PySem.W.Frag) : Sp := fun vs H Q _ => ∃ (a : Addr) (ns : List Int) (k : Int), vs = [.ref a, .int k] ∧ SqL K H a (ns.map V.int) ∧ ns.length ≤ 63 ∧ (∀ n ∈ ns, Big n) ∧ 0 ≤ k ∧ k < 1000 ∧
  ∀ (m c : Addr) H', Same H H' → H m = none → Mo H' m c 0 → Q (.ref m) H'
theorem ok__law_begun (T : Top K mg) : FnOk P w K mg base CX0 1 T.f__law_begun T.fd__law_begun ["script", "k"] (sp__law_begun K) := by
  refine T.F__law_begun.ok sc__law_begun (fun vs H Q E h => ?_) (fun cdv A outer s H vs Q E hr h => ?_)
  · obtain ⟨a, ns, k, rfl, _⟩ := h
    rfl
  · obtain ⟨a, ns, k, rfl, hS, hl, hB, hk0, hk1, q⟩ := h
    refine ⟨_, (pss_cons (ps_set (i := 2) sc__law_begun.nd (by rfl) (by first | exact Or.inl rfl | exact Or.inr rfl) (pe_op op_catL (pe_slice (sl_listK (K := K)) (pv 0) (po_some (pv 1)) po_none) (pe_slice (sl_listK (K := K)) (pv 0) po_none (po_some (pv 1)))))
      (pss_cons (ps_setLc (i := 3) (own := [("cell", 5)]) (g := gName 5) (by rfl) sc__law_begun.nd (by rfl) (by rfl) (sw_true rfl rfl rfl (by decide +kernel)) (pi_listK (K := K) (pv 2)) (blkOk_by (own := [("cell", 5)]) (N := N__law_begun) (sc := defScope s__law_begun) (by decide +kernel)) (fun _ _ _ _ _ => (pg_name (i := 5) sc__law_begun.nd (by rfl) (by first | exact Or.inl rfl | exact Or.inr rfl))) (fun _ _ _ _ _ => (pts_one (pt_cmpR op_ge (pv 5) (pe_op op_pow pe_int pe_int) (nomark _)))) (fun _ _ _ _ _ => (pv 5)))
      (pss_cons (ps_set (i := 4) sc__law_begun.nd (by rfl) (by first | exact Or.inl rfl | exact Or.inr rfl) (pe_op op_add pe_int (pv 1)))
      (pss_cons (ps_for PassesOwn.never (by rfl) (pi_listK (K := K) (pv 2)) (pg_name (i := 5) sc__law_begun.nd (by rfl) (by first | exact Or.inl rfl | exact Or.inr rfl)) (pss_one (ps_set (i := 4) sc__law_begun.nd (by rfl) (by first | exact Or.inl rfl | exact Or.inr rfl) (pe_op op_modD (pe_callTy cl_int (by rfl) T.z_int (by decide +kernel) (pa_cons (pe_op op_add (pe_op op_mulX (pv 4) pe_int) (pv 5)) pa_nil)) pe_int))))
      (pss_one (ps_ret (pe_disp (pps_cons pe_str (pe_ifExp (pt_cmpR (op_neK (K := K) hr.units) (pv 3) (pe_lst pa_nil) (nomark _)) (pe_ix (ix_listK (K := K)) (pv 3) pe_int (fun _ _ => rfl)) pe_int) (pps_cons pe_str (pv 4) (pps_cons pe_str (pe_op op_catL (pv 2) (pe_lst (pa_cons (pe_op op_add (pe_op op_mulX pe_int (pv 1)) pe_int) pa_nil))) (pps_cons pe_str pe_int pps_nil)))) (by rfl) (by rfl) (fun z => by cases z) (by decide)))))))), ?_⟩
    rw [show start N__law_begun [.ref a, .int k] = [some (.ref a), some (.int k), none, none, none, none] from rfl]
    try dsimp only [cxK]
    have hz : sizeLine = 16777216 := sizeLine_eq
    walk_at "w"
    refine w_slV hS fun p1 H1 n1 e1 f1 => ?_
    walk_at "w"
    refine w_slV (e1.seq hS) fun p2 H2 n2 e2 f2 => ?_
    rw [cutD_from _ hk0] at f1
    rw [cutD_to _ hk0] at f2
    refine w_catL (e2 _ _ f1) f2 (by simp only [List.length_drop, List.length_take, List.length_map]; omega) fun p3 H3 n3 e3 f3 => ?_
    rw [← List.map_drop, ← List.map_take, ← List.map_append] at f3
    generalize hcs : ns.drop k.toNat ++ ns.take k.toNat = cs at f3
    have hcB : ∀ n ∈ cs, Big n := fun n hn => by
      rw [← hcs] at hn
      rcases List.mem_append.mp hn with hn | hn
      · exact hB n (List.mem_of_mem_drop hn)
      · exact hB n (List.mem_of_mem_take hn)
    have hcl : cs.length ≤ 63 := by rw [← hcs]; simp only [List.length_append, List.length_drop, List.length_take]; omega
    have d3 : Dp K H3 (.ref p3) (.list (cs.map PyData.int)) := .lst (.of f3) (dpa_ints cs)
    have s3 : Same H H3 := (e1.trans e2).trans e3
    walk_at "w"
    refine lc_list_by (JP H3 fun i es => ∃ gs : List Int, es = gs.map PyData.int ∧ gs.length ≤ i) (JP.ok ⟨[], rfl, by simp⟩) d3 (by simp; omega) (fun _ => rfl) ?_ ?_
    · intro i d y H' es hd hy hJ Yes No hyes hno
      obtain ⟨hs, gs, rfl, hgl⟩ := hJ
      rw [List.getElem?_map] at hd
      obtain ⟨z, hz1, rfl⟩ := Option.map_eq_some_iff.mp hd
      cases hy
      walk_at "w"
      refine w_rI ⟨by decide, by decide, by decide⟩ ?_
      walk_at "w"
      refine w_ite (fun hb => ?_) (fun hb => ?_)
      · walk_at "w"
        exact hyes _ H' (.int z) (Keep.refl _) rfl (.int z) ⟨hs, gs ++ [z], by simp, by simp; omega⟩
      · exact hno H' (Keep.refl _) ⟨hs, gs, rfl, by omega⟩
    · intro p4 H4 vs4 es n4 k4 f4 d4 hJ
      obtain ⟨s4, gs, rfl, hgl⟩ := hJ
      rw [List.length_map] at hgl
      walk_at "w"
      refine forL_by (fun i σ' H' => ∃ (sd : Int) (y5 : Option V), σ' = [some (.ref a), some (.int k), some (.ref p3), some (.ref p4), some (.int sd), y5] ∧ H4 = H' ∧ 0 ≤ sd ∧ sd < 2147483647) (dp_same s4 d3) ⟨71 + k, none, rfl, rfl, by omega, by omega⟩ ?_ ?_ ?_
      · rintro i σ' H' _ ⟨sd, y5, rfl, rfl, _⟩
        exact Keep.refl _
      · rintro i d y σ' H' hd hy ⟨sd, y5, rfl, rfl, hsd0, hsd1⟩
        rw [List.getElem?_map] at hd
        obtain ⟨z, hz1, rfl⟩ := Option.map_eq_some_iff.mp hd
        cases hy
        walk_at "w0"
        refine w_rModB (by decide) fun r h0 h1 => ?_
        walk_at "w0"
        exact ⟨r, _, rfl, rfl, h0, h1⟩
      · rintro σ' H' ⟨sd, y5, rfl, rfl, hsd0, hsd1⟩
        walk_at "w"
        refine w_disp fun pd Hd nd ed fd => ?_
        walk_at "w"
        refine w_newL (K := K) (by decide) .nil fun p6 H6 n6 e6 f6 d6 => ?_
        have d4' : Dp K H6 (.ref p4) (.list (gs.map PyData.int)) := dp_same e6 (dp_same ed d4)
        have rest : ∀ (lv : Int) (H7 : Hp), Same H6 H7 → rNewL [V.int (53 * k + 11)] H7 fun y H2 => rCat (V.ref p3) y H2 fun y H2 =>
            tPairs [(tC (V.str (Str.ofString "spot")), tC (V.int 0))] [some (V.ref a), some (V.int k), some (V.ref p3), some (V.ref p4), some (V.int sd), y5] H2 fun ps H3 =>
              rDisp pd ((V.str (Str.ofString "left"), V.int lv) :: (V.str (Str.ofString "seed"), V.int sd) :: (V.str (Str.ofString "cells"), y) :: ps) H3 Q := by
          intro lv H7 e7
          refine w_newL (K := K) (len_ok (by simp)) (dpa_one (.int _)) fun p8 H8 n8 e8 f8 d8 => ?_
          refine w_catL (e8 _ _ (e7 _ _ (e6 _ _ (ed _ _ (s4 _ _ f3))))) f8 (by simp; omega) fun p9 H9 n9 e9 f9 => ?_
          walk_at "w"
          have fd9 : H9 pd = some (.dK []) := e9 _ _ (e8 _ _ (e7 _ _ (e6 _ _ fd)))
          refine ⟨fd9, [(.inr "left", .int lv), (.inr "seed", .int sd), (.inr "cells", .ref p9), (.inr "spot", .int 0)], rfl, by simp, ?_⟩
          have hm : mergeK [] [((.inr "left" : Key), V.int lv), (.inr "seed", .int sd), (.inr "cells", .ref p9), (.inr "spot", .int 0)] = moKvs lv sd p9 0 := by
            simp [mergeK, putK, moKvs, k_left_seed, k_left_cells, k_left_spot, k_seed_cells, k_seed_spot, k_cells_spot]
          rw [hm]
          have sall : Same H4 H9 := (((ed.trans e6).trans e7).trans e8).trans e9
          refine q pd p9 _ (same_mut ((s3.trans s4).trans sall) ((s3.trans s4).free nd)) ((s3.trans s4).free nd) ⟨lv, sd, 0, cs ++ [53 * k + 11], upd_same, ?_, by simp, by simp; omega, ?_, hsd0, hsd1, by omega, by omega⟩
          · rw [upd_ne (ne_of f9 fd9 (fun z => nomatch z)), f9]
            simp
          · intro n hn
            rcases List.mem_append.mp hn with hn | hn
            · exact hcB n hn
            · simp at hn; subst hn; exact Big.small (by omega)
        refine w_neP d4' d6 (pln_ints _) rfl (fun he => ?_) (fun he => ?_)
        · walk_at "w"
          exact rest 0 H6 (Same.refl _)
        · have hg0 : 0 < gs.length := by
            cases gs with
            | nil => exact absurd rfl he
            | cons g gs => simp
          walk_at "w"
          refine w_ixLI d4' (by decide) (by omega) fun z _ => ?_
          walk_at "w"
          exact rest z H6 (Same.refl _)

/-! ### _law_draw -/
def sp__law_draw (K : PySem.W.Frag) : Sp := fun vs H Q _ => ∃ (m c : Addr) (below : Int) (b : Nat), vs = [.ref m, .int below] ∧ 0 < below ∧ below < 2 ^ 60 ∧ Mo H m c b ∧ b < 2 ^ 50 ∧
  ∀ (r : Int) H', 0 ≤ r → r < below → Keep H H' → Mo H' m c (b + 1) → Q (.int r) H'
theorem ok__law_draw (T : Top K mg) : FnOk P w K mg base CX0 1 T.f__law_draw T.fd__law_draw ["m", "below"] (sp__law_draw K) := by
  refine T.F__law_draw.ok sc__law_draw (fun vs H Q E h => ?_) (fun cdv A outer s H vs Q E hr h => ?_)
  · obtain ⟨m, c, below, b, rfl, _⟩ := h
    rfl
  · obtain ⟨m, c, below, b, rfl, hb0, hb1, hm, hb, q⟩ := h
    refine ⟨_, (pss_cons (ps_if (pt_cmpR op_gt (pe_dget (hu_of hr) (pv 0) pe_str (fun _ _ => rfl)) pe_int (nomark _)) (pss_cons (ps_set (i := 2) sc__law_draw.nd (by rfl) (by first | exact Or.inl rfl | exact Or.inr rfl) (pe_op op_modD (pe_callTy cl_int (by rfl) T.z_int (by decide +kernel) (pa_cons (pe_dget (hu_of hr) (pv 0) pe_str (fun _ _ => rfl)) pa_nil)) (pv 1)))
      (pss_cons (ps_dput (hu_of hr) (pv 0) pe_str (pe_op op_fdivW (pe_dget (hu_of hr) (pv 0) pe_str (fun _ _ => rfl)) (pv 1)) rfl)
      (pss_one (ps_ret (pv 2))))) pss_nil)
      (pss_cons (ps_set (i := 3) sc__law_draw.nd (by rfl) (by first | exact Or.inl rfl | exact Or.inr rfl) (pe_dget (hu_of hr) (pv 0) pe_str (fun _ _ => rfl)))
      (pss_cons (ps_dput (hu_of hr) (pv 0) pe_str (pe_op op_add (pv 3) pe_int) rfl)
      (pss_cons (ps_par (i := 4) (j := 5) (by rfl) sc__law_draw.nd (by rfl) (by rfl) (by decide) (by rfl) (by rfl) (pa_cons (pe_dget (hu_of hr) (pv 0) pe_str (fun _ _ => rfl)) (pa_cons (pe_op op_add (pe_dget (hu_of hr) (pv 0) pe_str (fun _ _ => rfl)) (pe_op op_mulX (pe_op op_mulX pe_int (pv 3)) (pv 3))) pa_nil)) (by rfl))
      (pss_cons (ps_set (i := 6) sc__law_draw.nd (by rfl) (by first | exact Or.inl rfl | exact Or.inr rfl) (pe_ix (ix_listK (K := K)) (pv 4) (pe_op op_modD (pe_callTy cl_int (by rfl) T.z_int (by decide +kernel) (pa_cons (pv 3) pa_nil)) (pe_callB (cl_len (K := K)) (by rfl) T.z_len (by decide +kernel) (pa_cons (pv 4) pa_nil))) (fun _ _ => rfl)))
      (pss_cons (ps_set (i := 7) sc__law_draw.nd (by rfl) (by first | exact Or.inl rfl | exact Or.inr rfl) (pe_op op_modD (pe_callTy cl_int (by rfl) T.z_int (by decide +kernel) (pa_cons (pe_op op_add (pe_op op_mulX (pv 6) (pe_op op_add (pe_op op_mulX pe_int (pv 3)) pe_int)) (pv 5)) pa_nil)) pe_int))
      (pss_cons (ps_set (i := 7) sc__law_draw.nd (by rfl) (by first | exact Or.inl rfl | exact Or.inr rfl) (pe_op op_modD (pe_callTy cl_int (by rfl) T.z_int (by decide +kernel) (pa_cons (pe_op op_add (pe_op op_add (pe_op op_mulX (pv 7) (pv 7)) (pe_op op_mulX pe_int (pv 3))) (pe_dget (hu_of hr) (pv 0) pe_str (fun _ _ => rfl))) pa_nil)) pe_int))
      (pss_one (ps_ret (pe_op op_modD (pe_op op_fdivW (pe_op op_modD (pe_callTy cl_int (by rfl) T.z_int (by decide +kernel) (pa_cons (pe_op op_add (pe_op op_mulX (pv 7) pe_int) (pv 3)) pa_nil)) pe_int) pe_int) (pv 1))))))))))), ?_⟩
    rw [show start N__law_draw [.ref m, .int below] = [some (.ref m), some (.int below), none, none, none, none, none, none] from rfl]
    obtain ⟨left, seed, spot, ns, m1, m2, m3, m4, m5, m6, m7, m8, m9⟩ := hm
    try dsimp only [cxK]
    walk_at "w"
    refine w_iteD (fun hl => ?_) (fun hl => ?_)
    · walk_at "w"
      refine w_dpS m1 mo_put_left mo_len fun H1 e1 m1' => ?_
      walk_at "w"
      exact q _ H1 (Int.emod_nonneg _ (by omega)) (Int.emod_lt_of_pos _ hb0) e1 ⟨_, seed, spot, ns, m1', e1.l m2, m3, m4, m5, m6, m7, m8, by omega⟩
    · walk_at "w"
      refine w_dpS m1 mo_put_spot mo_len fun H1 e1 m1' => ?_
      have m2' := e1.l m2
      have dC : Dp K H1 (.ref c) (.list (ns.map PyData.int)) := .lst (.of m2') (dpa_ints ns)
      walk_at "w"
      rw [List.length_map]
      refine w_ixLI dC (Int.emod_nonneg _ (by omega)) (Int.emod_lt_of_pos _ (by omega)) fun z hz => ?_
      have hz2 := m5 z (List.mem_of_getElem? hz)
      walk_at "w"
      refine w_rI (hz2.mul (by omega)) ?_
      walk_at "w0"
      refine w_rModB (by decide) fun r1 h1 h1' => ?_
      walk_at "w0"
      refine w_rModB (by decide) fun r2 h2 h2' => ?_
      walk_at "w0"
      refine w_rModB (by decide) fun r3 h3 h3' => ?_
      walk_at "w0"
      refine w_rModB hb0 fun r4 h4 h4' => ?_
      walk_at "w0"
      exact q r4 H1 h4 h4' e1 ⟨left, seed, spot + 1, ns, m1', m2', m3, m4, m5, m6, m7, by omega, by omega⟩

/-! ### _law_mark_at -/
def sp__law_mark_at (K : PySem.W.Frag) : Sp := fun vs H Q _ => ∃ (l : List Nat) (k : Int), vs = [.str (Sg l), .int k] ∧ l ≠ [] ∧ l.length ≤ 1000 ∧ Q (.str (Sg [mk l k])) H
theorem ok__law_mark_at (T : Top K mg) : FnOk P w K mg base CX0 1 T.f__law_mark_at T.fd__law_mark_at ["marks", "k"] (sp__law_mark_at K) := by
  refine T.F__law_mark_at.ok sc__law_mark_at (fun vs H Q E h => ?_) (fun cdv A outer s H vs Q E hr h => ?_)
  · obtain ⟨l, k, rfl, _⟩ := h
    rfl
  · obtain ⟨l, k, rfl, hl, hz, q⟩ := h
    refine ⟨_, (pss_one (ps_ret (pe_ix ix_str (pv 0) (pe_op op_modD (pe_callTy cl_int (by rfl) T.z_int (by decide +kernel) (pa_cons (pe_op op_sub (pv 1) pe_int) pa_nil)) (pe_callB (cl_len (K := K)) (by rfl) T.z_len (by decide +kernel) (pa_cons (pv 0) pa_nil))) (fun _ _ => rfl)))), ?_⟩
    rw [show start N__law_mark_at [.str (Sg l), .int k] = [some (.str (Sg l)), some (.int k)] from rfl]
    try dsimp only [cxK]
    have hp : 0 < l.length := List.length_pos_iff.mpr hl
    walk_at "w"
    refine w_ixSg (by omega) (Int.emod_nonneg _ (by omega)) (Int.emod_lt_of_pos _ (by omega)) fun c hc => ?_
    rw [mk_at hc]
    exact q

/-! ### address -/
def sp_address (K : PySem.W.Frag) : Sp := fun vs H Q _ => ∃ (l : List Nat), vs = [.str (Sg l)] ∧ l ≠ [] ∧ l.length ≤ 1000 ∧ ∀ ns v H', Chn l l.length (some 1) ns → Same H H' → Dp K H' v (.tuple (ns.map PyData.int)) → Q v H'
theorem ok_address (T : Top K mg) : FnOk P w K mg base CX0 2 T.f_address T.fd_address ["marks"] (sp_address K) := by
  refine T.F_address.ok sc_address (fun vs H Q E h => ?_) (fun cdv A outer s H vs Q E hr h => ?_)
  · obtain ⟨l, rfl, _⟩ := h
    rfl
  · obtain ⟨l, rfl, hl, hz, q⟩ := h
    refine ⟨_, (pss_cons (ps_set (i := 1) sc_address.nd (by rfl) (by first | exact Or.inl rfl | exact Or.inr rfl) (pe_lst pa_nil))
      (pss_cons (ps_set (i := 2) sc_address.nd (by rfl) (by first | exact Or.inl rfl | exact Or.inr rfl) pe_int)
      (pss_cons (ps_while PassesOwn.never (PW.pt (pw_and (pt_cmpR op_notN1 (pv 2) pe_non (nomark _)) (pw_and1 (pt_cmpR op_le (pv 2) (pe_callB (cl_len (K := K)) (by rfl) T.z_len (by decide +kernel) (pa_cons (pv 0) pa_nil)) (nomark _))))) (pss_cons (ps_expr (pe_bm PySem.F.plainAttrs_list PySem.F.slot_list_append PySem.F.type_list_append mt_append (pv 1) (pa_cons (pv 2) pa_nil)))
      (pss_one (ps_set (i := 2) sc_address.nd (by rfl) (by first | exact Or.inl rfl | exact Or.inr rfl) (pe_call (ok_next_unlike T) (hr.mono (by decide)) (by rfl) T.g_next_unlike T.F_next_unlike.kp T.b_next_unlike .nil pass0 (pa_cons (pv 0) (pa_cons (pv 2) pa_nil)))))))
      (pss_one (ps_ret (pe_callTy (cl_tup (K := K)) (by rfl) T.z_tuple (by decide +kernel) (pa_cons (pv 1) pa_nil))))))), ?_⟩
    rw [show start N_address [.str (Sg l)] = [some (.str (Sg l)), none, none] from rfl]
    try dsimp only [cxK]
    have hp : 0 < l.length := List.length_pos_iff.mpr hl
    walk_at "w"
    refine w_newL (K := K) (len_ok (by simp)) .nil fun p H1 n1 e1 f1 d1 => ?_
    walk_at "w"
    refine whl_by (fun mm σ' H' => ∃ (pre : List Int) (r : Option Int), σ' = [some (.str (Sg l)), some (.ref p), some (ov r)] ∧ Same H H' ∧ H' p = some (.lst (pre.map V.int)) ∧ (∀ rest, Chn l l.length r rest → Chn l l.length (some 1) (pre ++ rest)) ∧
      (∀ k, r = some k → (pre.length : Int) < k ∧ (mm : Int) = l.length + 1000000 - k) ∧ pre.length ≤ l.length) (l.length + 999999) ⟨[], some 1, rfl, e1, by simpa using f1, fun rest h => h, fun k e => by cases e; simp; omega, by simp⟩ ?_
    rintro mm σ' H' ⟨pre, r, rfl, s1, f2, hc, hk, hpl⟩
    cases r with
    | none =>
      dsimp only [ov]
      walk_at "w"
      have e0 : (!decide (V.non = V.non)) = false := by decide
      rw [e0]
      walk_at "w"
      refine w_tupOf (dp_newL f2 (dpa_ints pre)) fun p3 H3 n3 e3 d3 => ?_
      refine q pre _ H3 ?_ (s1.trans e3) d3
      have := hc [] .no
      simpa using this
    | some k =>
      obtain ⟨hk1, hk2⟩ := hk k rfl
      dsimp only [ov]
      walk_at "w"
      have e0 : (!decide (V.int k = V.non)) = true := by simp
      rw [e0]
      walk_at "w"
      refine w_iteD (fun hle => ?_) (fun hle => ?_)
      · walk_at "w"
        refine w_tyL f2 ?_
        walk_at "w"
        refine w_append f2 (len_lt (by simp; omega)) ?_
        walk_at "w"
        refine ⟨l, k, rfl, hl, hz, by omega, by omega, fun r hu => ?_⟩
        refine ⟨match r with | some k2 => (l.length + 1000000 - k2).toNat | none => 0, ?_, pre ++ [k], r, rfl, same_mut s1 n1, ?_, fun rest h => ?_, ?_, ?_⟩
        · cases r with
          | none => show 0 < mm; omega
          | some k2 =>
            have h1 := hu.1
            have h2 := hu.bound hl
            show (l.length + 1000000 - k2).toNat < mm
            omega
        · rw [upd_same]; simp
        · have := hc (k :: rest) (.go hle hu h)
          simpa using this
        · intro k2 e
          subst e
          have h1 := hu.1
          have h2 := hu.bound hl
          simp only [List.length_append, List.length_singleton]
          constructor
          · omega
          · show (((l.length + 1000000 - k2).toNat : Nat) : Int) = _
            omega
        · simp only [List.length_append, List.length_singleton]; omega
      · walk_at "w"
        refine w_tupOf (dp_newL f2 (dpa_ints pre)) fun p3 H3 n3 e3 d3 => ?_
        refine q pre _ H3 ?_ (s1.trans e3) d3
        have := hc [] (.stop (by omega))
        simpa using this

/-! ### _comes_by -/
def sp__comes_by (K : PySem.W.Frag) : Sp := fun vs H Q _ => ∃ (l : List Nat) (b m : Nat), vs = [.str (Sg l), .int b, .int m] ∧ StarW l ∧ l.length ≤ 1000 ∧ 1 ≤ b ∧ m < l.length ∧ Q (.bl (comesBy l b m)) H
theorem ok__comes_by (T : Top K mg) : FnOk P w K mg base CX0 2 T.f__comes_by T.fd__comes_by ["word", "begun", "m"] (sp__comes_by K) := by
  refine T.F__comes_by.ok sc__comes_by (fun vs H Q E h => ?_) (fun cdv A outer s H vs Q E hr h => ?_)
  · obtain ⟨l, b, m, rfl, _⟩ := h
    rfl
  · obtain ⟨l, b, m, rfl, hs, hz, hb, hm, q⟩ := h
    refine ⟨_, (pss_cons (ps_while PassesOwn.never (pt_cmpR op_lt (pv 1) (pv 2) (nomark _)) (pss_one (ps_set (i := 1) sc__comes_by.nd (by rfl) (by first | exact Or.inl rfl | exact Or.inr rfl) (pe_call (ok_next_unlike T) (hr.mono (by decide)) (by rfl) T.g_next_unlike T.F_next_unlike.kp T.b_next_unlike .nil pass0 (pa_cons (pv 0) (pa_cons (pv 1) pa_nil))))))
      (pss_one (ps_ret (pe_cmpR op_eq (pv 1) (pv 2) (nomark _))))), ?_⟩
    rw [show start N__comes_by [.str (Sg l), .int b, .int m] = [some (.str (Sg l)), some (.int b), some (.int m)] from rfl]
    try dsimp only [cxK]
    walk_at "w"
    refine whl_by (fun mm σ' H' => ∃ b' : Nat, σ' = [some (.str (Sg l)), some (.int b'), some (.int m)] ∧ H = H' ∧ 1 ≤ b' ∧ comesBy l b m = comesBy l b' m ∧ mm = 1000000 - b' ∧ (b' ≤ l.length ∨ b' = b)) (1000000 - b) ⟨b, rfl, rfl, hb, rfl, rfl, .inr rfl⟩ ?_
    rintro mm σ' H' ⟨b', rfl, rfl, h1, e1, rfl, e3⟩
    walk_at "w"
    refine w_iteD (fun hlt => ?_) (fun hlt => ?_)
    · have hu := un_nxt hs h1 (show b' < l.length by omega)
      walk_at "w"
      refine ⟨l, _, rfl, hs.ne, hz, by omega, by omega, fun r hr => ?_⟩
      have e := un_is hs h1 (by omega) hr
      subst e
      refine ⟨1000000 - nxt l b', by omega, nxt l b', rfl, rfl, by omega, ?_, rfl, .inl hu.2.2⟩
      rw [e1]
      exact comesBy_step hs hm h1 (by omega)
    · walk_at "w"
      rw [e1, comesBy_end (by omega)] at q
      refine w_pw ?_
      have e : decide ((b' : Int) = (m : Int)) = (b' == m) := by
        by_cases z : b' = m
        · subst z; simp
        · rw [decide_eq_false (by omega)]; simp [z]
      rw [e]
      exact q

/-! ### _law_of -/
def sp__law_of (K : PySem.W.Frag) : Sp := fun vs H Q _ => ∃ (m c : Addr) (v : V) (ds : List PyData) (b : Nat), vs = [.ref m, v] ∧ Dp K H v (.list ds) ∧ 0 < ds.length ∧ ds.length ≤ 1000 ∧ Mo H m c b ∧ b < 2 ^ 50 ∧
  ∀ y d H', d ∈ ds → Dp K H' y d → Keep H H' → Mo H' m c (b + 1) → Q y H'
theorem ok__law_of (T : Top K mg) : FnOk P w K mg base CX0 2 T.f__law_of T.fd__law_of ["m", "some"] (sp__law_of K) := by
  refine T.F__law_of.ok sc__law_of (fun vs H Q E h => ?_) (fun cdv A outer s H vs Q E hr h => ?_)
  · obtain ⟨m, c, v, ds, b, rfl, _⟩ := h
    rfl
  · obtain ⟨m, c, v, ds, b, rfl, hv, hz0, hz1, hm, hb, q⟩ := h
    refine ⟨_, (pss_one (ps_ret (pe_ix (ix_listK (K := K)) (pv 1) (pe_call (ok__law_draw T) (hr.mono (by decide)) (by rfl) T.g__law_draw T.F__law_draw.kp T.b__law_draw .nil pass0 (pa_cons (pv 0) (pa_cons (pe_callB (cl_len (K := K)) (by rfl) T.z_len (by decide +kernel) (pa_cons (pv 1) pa_nil)) pa_nil))) (fun _ _ => rfl)))), ?_⟩
    rw [show start N__law_of [.ref m, v] = [some (.ref m), some (v)] from rfl]
    try dsimp only [cxK]
    walk_at "w"
    refine ⟨m, c, _, b, rfl, by omega, by omega, hm, hb, fun r H' h0 h1 k m' => ?_⟩
    have hr : r.toNat < ds.length := by omega
    exact w_ixL (j := r.toNat) (dp_keep k hv) (by omega) (List.getElem?_eq_getElem hr) fun y hy => q y _ H' (List.getElem_mem hr) hy k m'

/-! ### _law_string -/
def sp__law_string (K : PySem.W.Frag) : Sp := fun vs H Q _ => ∃ (m c : Addr) (n : Int) (b : Nat), vs = [.ref m, .int n] ∧ 0 ≤ n ∧ n ≤ 1000 ∧ Mo H m c b ∧ b < 2 ^ 45 ∧
  ∀ (l : List Nat) H', l.length = n.toNat → (∀ x ∈ l, x = 48 ∨ x = 49) → Keep H H' → Mo H' m c (b + n.toNat) → Q (.str (Sg l)) H'
theorem ok__law_string (T : Top K mg) : FnOk P w K mg base CX0 2 T.f__law_string T.fd__law_string ["m", "size"] (sp__law_string K) := by
  refine T.F__law_string.ok sc__law_string (fun vs H Q E h => ?_) (fun cdv A outer s H vs Q E hr h => ?_)
  · obtain ⟨m, c, n, b, rfl, _⟩ := h
    rfl
  · obtain ⟨m, c, n, b, rfl, hn0, hn1, hm, hb, q⟩ := h
    refine ⟨_, (pss_one (ps_ret (pe_joinD (K := K) pe_str (pe_lc (own := [("k", 2)]) (g := gName 2) (tt := tYes) (by rfl) sc__law_string.nd (pi_range1 (by rfl) T.z_range (pa_cons (pv 1) pa_nil)) (blkOk_by (own := [("k", 2)]) (N := N__law_string) (sc := defScope s__law_string) (by decide +kernel)) (fun _ _ _ _ _ => (pg_name (i := 2) sc__law_string.nd (by rfl) (by first | exact Or.inl rfl | exact Or.inr rfl))) (fun _ _ _ _ _ => pts_nil) (fun _ _ _ _ _ => (pe_callTy cl_strI (by rfl) T.z_str (by decide +kernel) (pa_cons (pe_call (ok__law_draw T) (hr.mono (by decide)) (by rfl) T.g__law_draw T.F__law_draw.kp T.b__law_draw .nil pass0 (pa_cons (pv 0) (pa_cons pe_int pa_nil))) pa_nil))))))), ?_⟩
    rw [show start N__law_string [.ref m, .int n] = [some (.ref m), some (.int n), none] from rfl]
    rw [sg_empty]
    try dsimp only [cxK]
    walk_at "w"
    refine lc_rng1_by (K := K) (JM H m c b 1 fun i es => ∃ ys : List (List Nat), es = ys.map (fun y => PyData.str (Sg y)) ∧ ys.length = i ∧ ∀ y ∈ ys, y = [48] ∨ y = [49]) (JM.ok hm ⟨[], rfl, rfl, by simp⟩) (by omega) (fun _ => rfl) ?_ ?_
    · rintro i H' es hi ⟨k, mo, ys, rfl, hl, hy⟩ Yes No hyes hno
      walk_at "w"
      refine ⟨m, c, 2, _, rfl, by decide, by decide, mo, by omega, fun r H4 h0 h1 k4 mo4 => ?_⟩
      have hr : r = 0 ∨ r = 1 := by omega
      rcases hr with rfl | rfl
      · refine w_strI (by decide) ?_
        have e : ((toString (0 : Int) : String) : Str) = Sg [48] := by decide +kernel
        rw [e]
        exact hyes _ H4 (.str (Sg [48])) k4 rfl (.str _) ⟨k.trans k4, mo4.mono (by omega), ys ++ [[48]], by simp, by simp [hl], fun y h => (List.mem_append.mp h).elim (hy y) (fun z => by simp at z; exact .inl z)⟩
      · refine w_strI (by decide) ?_
        have e : ((toString (1 : Int) : String) : Str) = Sg [49] := by decide +kernel
        rw [e]
        exact hyes _ H4 (.str (Sg [49])) k4 rfl (.str _) ⟨k.trans k4, mo4.mono (by omega), ys ++ [[49]], by simp, by simp [hl], fun y h => (List.mem_append.mp h).elim (hy y) (fun z => by simp at z; exact .inr z)⟩
    · rintro p H' vs es hn k hv dl ⟨_, mo, ys, rfl, hl, hy⟩
      have hf : ∀ ys : List (List Nat), (∀ y ∈ ys, y = [48] ∨ y = [49]) → ys.flatten.length = ys.length ∧ ∀ x ∈ ys.flatten, x = 48 ∨ x = 49 := by
        intro ys
        induction ys with
        | nil => intro _; simp
        | cons y ys ih =>
          intro h
          obtain ⟨a, b⟩ := ih fun z hz => h z (List.mem_cons_of_mem _ hz)
          have h1 := h y List.mem_cons_self
          constructor
          · rcases h1 with rfl | rfl <;> simp [a] <;> omega
          · intro x hx
            rw [List.flatten_cons, List.mem_append] at hx
            rcases hx with hx | hx
            · rcases h1 with rfl | rfl <;> simp at hx <;> omega
            · exact b x hx
      obtain ⟨f1, f2⟩ := hf ys hy
      exact w_joinSg dl (by omega) (q _ H' (by omega) f2 k (mo.mono (by omega)))

/-! ### _law_unlike -/
def sp__law_unlike (K : PySem.W.Frag) : Sp := fun vs H Q _ => ∃ (l : List Nat) (m : Int), vs = [.str (Sg l), .int m] ∧ l ≠ [] ∧ l.length ≤ 1000 ∧ 1 ≤ m ∧ m ≤ 100000 ∧ ∀ r, Un l m r → Q (ov r) H
theorem ok__law_unlike (T : Top K mg) : FnOk P w K mg base CX0 2 T.f__law_unlike T.fd__law_unlike ["marks", "m"] (sp__law_unlike K) := by
  refine T.F__law_unlike.ok sc__law_unlike (fun vs H Q E h => ?_) (fun cdv A outer s H vs Q E hr h => ?_)
  · obtain ⟨l, m, rfl, _⟩ := h
    rfl
  · obtain ⟨l, m, rfl, hl, hz, hm0, hm1, q⟩ := h
    refine ⟨_, (pss_cons (ps_for PassesOwn.never (by rfl) (pi_range2 (by rfl) T.z_range (pa_cons (pe_op op_add (pv 1) pe_int) (pa_cons (pe_op op_add (pe_op op_add (pv 1) (pe_op op_mulX pe_int (pe_callB (cl_len (K := K)) (by rfl) T.z_len (by decide +kernel) (pa_cons (pv 0) pa_nil)))) pe_int) pa_nil))) (pg_name (i := 2) sc__law_unlike.nd (by rfl) (by first | exact Or.inl rfl | exact Or.inr rfl)) (pss_one (ps_if (pt_cmpR op_ne (pe_call (ok__law_mark_at T) (hr.mono (by decide)) (by rfl) T.g__law_mark_at T.F__law_mark_at.kp T.b__law_mark_at .nil pass0 (pa_cons (pv 0) (pa_cons (pv 2) pa_nil))) (pe_call (ok__law_mark_at T) (hr.mono (by decide)) (by rfl) T.g__law_mark_at T.F__law_mark_at.kp T.b__law_mark_at .nil pass0 (pa_cons (pv 0) (pa_cons (pe_op op_sub (pv 2) (pv 1)) pa_nil))) (nomark _)) (pss_one (ps_ret (pv 2))) pss_nil)))
      (pss_one (ps_ret pe_non))), ?_⟩
    rw [show start N__law_unlike [.str (Sg l), .int m] = [some (.str (Sg l)), some (.int m), none] from rfl]
    try dsimp only [cxK]
    have hp : 0 < l.length := List.length_pos_iff.mpr hl
    walk_at "w"
    refine forR2_by (fun i σ' H' => ∃ y, σ' = [some (.str (Sg l)), some (.int m), y] ∧ H = H' ∧ ∀ j, m < j → j ≤ m + i → mk l j = mk l (j - m)) (by omega) ⟨none, rfl, rfl, fun j h1 h2 => by omega⟩ ?_ ?_
    · rintro i σ' H' hi ⟨y, rfl, rfl, hj⟩
      walk_at "w"
      refine ⟨l, _, rfl, hl, hz, ?_⟩
      walk_at "w"
      refine ⟨l, _, rfl, hl, hz, ?_⟩
      refine w_neSg (fun e => ?_) (fun e => ?_)
      · walk_at "w"
        refine ⟨_, rfl, rfl, fun j h1 h2 => ?_⟩
        by_cases hj2 : j ≤ m + i
        · exact hj j h1 hj2
        · have ej : j = m + 1 + i := by omega
          subst ej
          exact List.cons.inj e |>.1
      · walk_at "w"
        refine q (some (m + 1 + i)) ⟨by omega, ?_, fun j h1 h2 => hj j h1 (by omega)⟩
        exact fun z => e (by rw [z])
    · rintro σ' H' ⟨y, rfl, rfl, hj⟩
      walk_at "w"
      exact q none (scan_none hl fun j h1 h2 => hj j h1 (by omega))

/-! ### star_words -/
def sp_star_words {K : PySem.W.Frag} {mg : Str → Option Value} (T : Top K mg) : Sp := fun vs H Q E => ∃ n : Nat, vs = [.int n] ∧ 2 ≤ n ∧ n ≤ 12 ∧ ∀ v H', Same H H' → Dp K H' v (.tuple ((swL n).map fun s => PyData.str (Sg s))) → Q v H'
theorem ok_star_words (T : Top K mg) : FnOk P w K mg base (CX P w) 3 T.f_star_words T.fd_star_words ["count"] (sp_star_words T) := by
  refine T.F_star_words.okX sc_star_words (fun vs H Q E h => ?_) (fun cdv A outer s H vs Q E hr h => ?_)
  · obtain ⟨n, rfl, _⟩ := h
    rfl
  · obtain ⟨n, rfl, h1, h2, q⟩ := h
    refine ⟨_, (pss_cons (ps_if (pt_cmpR op_gt (pv 0) (pe_cint (by rfl) T.c_MOST_LISTED) (nomark _)) (pss_one (ps_raise rfl (takes_of rfl rfl rfl rfl) (pmk_oex T.x_TooMany.o T.iC_TooMany T.tI_TooMany (ok_TooMany__init T) (hr.mono (by decide)) T.b_TooMany__init .nil pass0 (by rfl) T.gc_TooMany (pa_cons (pe_cint (by rfl) T.c_MOST_LISTED) pa_nil)))) pss_nil)
      (PSs.nox (pss_cons (ps_if (pt_cmpR op_eq (pv 0) pe_int (nomark _)) (pss_one (ps_ret (pe_tup (pa_cons pe_str pa_nil)))) pss_nil)
      (pss_cons (ps_set (i := 1) sc_star_words.nd (by rfl) (by first | exact Or.inl rfl | exact Or.inr rfl) (pe_lst (pa_cons pe_str pa_nil)))
      (pss_cons (ps_for PassesOwn.never (by rfl) (pi_range1 (by rfl) T.z_range (pa_cons (pe_op op_sub (pv 0) pe_int) pa_nil)) (pg_name (i := 2) sc_star_words.nd (by rfl) (by first | exact Or.inl rfl | exact Or.inr rfl)) (pss_one (ps_setLc2 (i := 1) (own := [("begun", 3), ("character", 4)]) (g := gName 3) (tt := tYes) (g1 := gName 4) (tt1 := tYes) (vs1 := [4]) (by rfl) sc_star_words.nd (by rfl) (by rfl) (sw_true rfl rfl rfl (by decide +kernel)) (pi_listK (K := K) (pv 1)) (blkOk_by (own := [("begun", 3), ("character", 4)]) (N := N_star_words) (sc := defScope s_star_words) (by decide +kernel)) (by decide) (fun _ _ _ _ _ => (pg_name (i := 3) sc_star_words.nd (by rfl) (by first | exact Or.inl rfl | exact Or.inr rfl))) (fun _ _ _ _ _ => pts_nil) (fun _ _ _ _ _ => (pi_str pe_str)) (fun _ _ _ _ _ => (pg_name (i := 4) sc_star_words.nd (by rfl) (by first | exact Or.inl rfl | exact Or.inr rfl))) (fun _ _ _ _ _ => pts_nil) (fun _ _ _ _ _ => (pe_op op_addS (pv 3) (pv 4))))))
      (pss_one (ps_ret (pe_callTy (cl_tup (K := K)) (by rfl) T.z_tuple (by decide +kernel) (pa_cons (pe_lc (own := [("begun", 3)]) (g := gName 3) (tt := tYes) (by rfl) sc_star_words.nd (pi_listK (K := K) (pv 1)) (blkOk_by (own := [("begun", 3)]) (N := N_star_words) (sc := defScope s_star_words) (by decide +kernel)) (fun _ _ _ _ _ => (pg_name (i := 3) sc_star_words.nd (by rfl) (by first | exact Or.inl rfl | exact Or.inr rfl))) (fun _ _ _ _ _ => pts_nil) (fun _ _ _ _ _ => (pe_op op_addS (pv 3) pe_str))) pa_nil))))))))), ?_⟩
    rw [show start N_star_words [.int n] = [some (.int n), none, none, none, none] from rfl]
    rw [show Str.ofString "1" = Sg [49] by decide +kernel, show Str.ofString "*" = Sg [42] by decide +kernel, show Str.ofString "01" = Sg [48, 49] by decide +kernel]
    try dsimp only [cxK]
    walk_at "wp"
    refine w_iteD (fun h => by omega) (fun _ => ?_)
    walk_at "wp"
    refine w_iteD (fun h => by omega) (fun _ => ?_)
    walk_at "wp"
    refine w_newL (K := K) (len_ok (by simp)) (dpa_one (.str (Sg [49]))) fun p H1 n1 e1 f1 d1 => ?_
    walk_at "wp"
    refine forR1_by (fun i σ' H' => ∃ (y : V) (y2 y3 y4 : Option V), σ' = [some (.int n), some y, y2, y3, y4] ∧ Same H H' ∧ Dp K H' y (.list ((begs i).map fun b => PyData.str (Sg b)))) (by omega) ⟨_, none, none, none, rfl, e1, by simpa [begs] using d1⟩ ?_ ?_
    · rintro i σ' H' hi ⟨y, y2, y3, y4, rfl, s1, dy⟩
      have hb := begs_len i
      have hpow : 2 ^ i ≤ 2 ^ 10 := Nat.pow_le_pow_right (by decide) (by omega)
      walk_at "wp"
      refine w_lc2 ?_
      walk_at "wp"
      have hmem : ∀ d ∈ (begs i).map (fun b => PyData.str (Sg b)), ∃ b, d = .str (Sg b) ∧ b.length = i + 1 := by
        intro d hd
        obtain ⟨b, hb1, rfl⟩ := List.mem_map.mp hd
        exact ⟨b, rfl, hb.2 b hb1⟩
      refine lc2_by (K := K) fSW [48, 49] dy (by rw [List.length_map, hb.1]; simp; omega) ?_ (fun _ => rfl) (fun _ _ => rfl) ?_ ?_ ?_
      · intro d hd c hc
        obtain ⟨b, rfl, _⟩ := hmem d hd
        rfl
      · intro y d H2 hd hy R hR
        exact hR
      · intro y d c H2 hd hc hy R hR
        obtain ⟨b, rfl, hbl⟩ := hmem d hd
        cases hy
        walk_at "wp"
        refine w_addSg (by rw [hbl]; simp; omega) ?_
        refine hR _ H2 (Same.refl _) ?_
        rw [fSW, sg_app]
        exact .str _
      · intro p2 H2 ws hn k2 hv d2
        rw [fSW_all] at d2
        walk_at "wp"
        exact ⟨_, _, _, _, rfl, s1.trans k2, d2⟩
    · rintro σ' H' ⟨y, y2, y3, y4, rfl, s1, dy⟩
      have e0 : ((n : Int) - 2).toNat = n - 2 := by omega
      rw [e0] at dy
      have hb := begs_len (n - 2)
      have hpow : 2 ^ (n - 2) ≤ 2 ^ 10 := Nat.pow_le_pow_right (by decide) (by omega)
      walk_at "wp"
      refine lc_list_by (JP H' fun i es => es = ((begs (n - 2)).take i).map (fun b => PyData.str (Sg (b ++ [42])))) (JP.ok rfl) dy (by rw [List.length_map]; omega) (fun _ => rfl) ?_ ?_
      · intro i d y H2 es hd hy hJ Yes No hyes hno
        obtain ⟨s2, rfl⟩ := hJ
        rw [List.getElem?_map] at hd
        obtain ⟨b, hj, rfl⟩ := Option.map_eq_some_iff.mp hd
        cases hy
        have hbl := hb.2 b (List.mem_of_getElem? hj)
        walk_at "wp"
        refine w_addSg (by rw [hbl]; simp; omega) ?_
        refine hyes _ H2 (.str (Sg (b ++ [42]))) (Keep.refl _) rfl (.str _) ⟨s2, ?_⟩
        show _ = _
        rw [List.take_add_one, hj]
        simp
      · rintro p2 H2 vs2 es2 hn2 k2 hv2 dl2 ⟨s2, rfl⟩
        rw [List.length_map, List.take_length] at dl2
        refine w_tupOf dl2 fun p3 H3 n3 e3 d3 => ?_
        refine q _ H3 ((s1.trans s2).trans e3) ?_
        rw [swL, List.map_map]
        exact d3

/-! ### upper_mark -/
def sp_upper_mark (K : PySem.W.Frag) : Sp := fun vs H Q _ => ∃ (l : List Nat), vs = [.str (Sg l)] ∧ l ≠ [] ∧ l.length ≤ 900 ∧ ∀ H', Same H H' → Q (.str (Sg [upM l])) H'
theorem ok_upper_mark (T : Top K mg) : FnOk P w K mg base CX0 3 T.f_upper_mark T.fd_upper_mark ["word"] (sp_upper_mark K) := by
  refine T.F_upper_mark.ok sc_upper_mark (fun vs H Q E h => ?_) (fun cdv A outer s H vs Q E hr h => ?_)
  · obtain ⟨l, rfl, _⟩ := h
    rfl
  · obtain ⟨l, rfl, hl, hz, q⟩ := h
    refine ⟨_, (pss_cons (ps_set (i := 1) sc_upper_mark.nd (by rfl) (by first | exact Or.inl rfl | exact Or.inr rfl) (pe_callB (cl_len (K := K)) (by rfl) T.z_len (by decide +kernel) (pa_cons (pv 0) pa_nil)))
      (pss_one (ps_ret (pe_ifExp (pt_cmpR (op_inT (K := K) (Room65 hr)) (pv 1) (pe_call (ok_address T) (hr.mono (by decide)) (by rfl) T.g_address T.F_address.kp T.b_address .nil pass0 (pa_cons (pe_op op_addS (pe_slice sl_str (pv 0) po_none (po_some (pe_un un_neg pe_int))) pe_str) pa_nil)) (by rfl)) pe_str pe_str)))), ?_⟩
    rw [show start N_upper_mark [.str (Sg l)] = [some (.str (Sg l)), none] from rfl]
    rw [show Str.ofString "1" = Sg [49] by decide +kernel, show Str.ofString "0" = Sg [48] by decide +kernel]
    try dsimp only [cxK]
    have hp : 0 < l.length := List.length_pos_iff.mpr hl
    walk_at "w"
    refine w_slSg (by omega) ?_
    rw [cutD_butlast]
    have hlen : (l.dropLast ++ [49]).length = l.length := by simp; omega
    walk_at "w"
    refine w_addSg (by simp; omega) ?_
    walk_at "w"
    refine ⟨l.dropLast ++ [49], rfl, by simp, by omega, fun ns v H1 hc e1 d1 => ?_⟩
    have hns := chn_is (by simp) hc
    subst hns
    have hmem : (PyData.int (l.length : Int) ∈ ((addrL (l.dropLast ++ [49])).map fun (n : Nat) => (n : Int)).map PyData.int) ↔ (addrL (l.dropLast ++ [49])).contains l.length = true := by
      simp
      constructor
      · rintro ⟨a, h1, h2⟩
        have : a = l.length := by omega
        rw [← this]; exact h1
      · intro h
        exact ⟨_, h, rfl⟩
    refine w_inT (d := .int (l.length : Int)) (.int _) d1 rfl (pln_intsT _) (fun hm => ?_) (fun hm => ?_)
    · walk_at "w"
      have : upM l = 49 := by unfold upM; rw [if_pos (hmem.mp hm)]
      rw [this] at q
      exact q H1 e1
    · walk_at "w"
      have : upM l = 48 := by unfold upM; rw [if_neg (fun z => hm (hmem.mpr z))]
      rw [this] at q
      exact q H1 e1

/-! ### _fails -/
def sp__fails (K : PySem.W.Frag) : Sp := fun vs H Q _ => ∃ (l : List Nat) (m : Nat), vs = [.str (Sg l), .int m] ∧ StarW l ∧ l.length ≤ 1000 ∧ 1 ≤ m ∧ m < l.length ∧ ∀ H', Same H H' → Q (.bl (fails l m)) H'
theorem ok__fails (T : Top K mg) : FnOk P w K mg base CX0 3 T.f__fails T.fd__fails ["word", "m"] (sp__fails K) := by
  refine T.F__fails.ok sc__fails (fun vs H Q E h => ?_) (fun cdv A outer s H vs Q E hr h => ?_)
  · obtain ⟨l, m, rfl, _⟩ := h
    rfl
  · obtain ⟨l, m, rfl, hs, hz, h1, h2, q⟩ := h
    refine ⟨_, (pss_cons (ps_setLc (i := 2) (own := [("k", 3)]) (g := gName 3) (by rfl) sc__fails.nd (by rfl) (by rfl) (sw_true rfl rfl rfl (by decide +kernel)) (pi_range2 (by rfl) T.z_range (pa_cons pe_int (pa_cons (pv 1) pa_nil))) (blkOk_by (own := [("k", 3)]) (N := N__fails) (sc := defScope s__fails) (by decide +kernel)) (fun _ _ _ _ _ => (pg_name (i := 3) sc__fails.nd (by rfl) (by first | exact Or.inl rfl | exact Or.inr rfl))) (fun _ _ _ _ _ => (pts_one (pt_cmpR op_eq (pe_op op_modD (pv 1) (pv 3)) pe_int (nomark _)))) (fun _ _ _ _ _ => (pv 3)))
      (pss_cons (ps_if (pt_val (pe_callB (cl_any (K := K) (by rfl)) (by rfl) T.z_any (by decide +kernel) (pa_cons (pe_lc (own := [("k", 3)]) (g := gName 3) (tt := tYes) (by rfl) sc__fails.nd (pi_listK (K := K) (pv 2)) (blkOk_by (own := [("k", 3)]) (N := N__fails) (sc := defScope s__fails) (by decide +kernel)) (fun _ _ _ _ _ => (pg_name (i := 3) sc__fails.nd (by rfl) (by first | exact Or.inl rfl | exact Or.inr rfl))) (fun _ _ _ _ _ => pts_nil) (fun _ _ _ _ _ => (pe_cmpR op_gt (pe_call (ok_next_unlike T) (hr.mono (by decide)) (by rfl) T.g_next_unlike T.F_next_unlike.kp T.b_next_unlike .nil pass0 (pa_cons (pv 0) (pa_cons (pv 3) pa_nil))) (pv 1) (nomark _)))) pa_nil))) (pss_one (ps_ret pe_bl)) pss_nil)
      (pss_one (ps_ret (pe_call (ok__comes_by T) (hr.mono (by decide)) (by rfl) T.g__comes_by T.F__comes_by.kp T.b__comes_by .nil pass0 (pa_cons (pv 0) (pa_cons (pe_call (ok__rest T) (hr.mono (by decide)) (by rfl) T.g__rest T.F__rest.kp T.b__rest .nil pass0 (pa_cons (pe_call (ok_next_unlike T) (hr.mono (by decide)) (by rfl) T.g_next_unlike T.F_next_unlike.kp T.b_next_unlike .nil pass0 (pa_cons (pv 0) (pa_cons (pv 1) pa_nil))) (pa_cons (pv 1) pa_nil))) (pa_cons (pv 1) pa_nil)))))))), ?_⟩
    rw [show start N__fails [.str (Sg l), .int m] = [some (.str (Sg l)), some (.int m), none, none] from rfl]
    try dsimp only [cxK]
    rw [fails_by] at q
    walk_at "w"
    refine lc_rng2_by (K := K) (JP H fun i es => es = (((List.range i).filter fun j => m % (j + 1) == 0).map (· + 1)).map (fun (k : Nat) => PyData.int k)) (JP.ok rfl) (by omega) (fun _ => rfl) ?_ ?_
    · rintro i H' es hi ⟨k, rfl⟩ Yes No hyes hno
      walk_at "w"
      have em : ((m : Int) % (1 + (i : Int)) = 0) ↔ m % (i + 1) = 0 := by
        rw [show (1 + (i : Int)) = ((i + 1 : Nat) : Int) by push_cast; omega, ← Int.natCast_emod]
        omega
      refine w_iteD (fun e => ?_) (fun e => ?_)
      · walk_at "w"
        refine hyes _ H' (.int (1 + (i : Int))) (Keep.refl _) rfl (.int _) ⟨k, ?_⟩
        have e2 : (m % (i + 1) == 0) = true := by simpa using em.mp e
        show _ = _
        rw [List.range_succ, List.filter_append, List.map_append, List.map_append]
        simp only [List.filter_cons, e2, List.filter_nil, if_true, List.map_cons, List.map_nil]
        rw [show (1 + (i : Int)) = ((i + 1 : Nat) : Int) by push_cast; omega]
      · refine hno H' (Keep.refl _) ⟨k, ?_⟩
        have e2 : (m % (i + 1) == 0) = false := by simpa using fun z => e (em.mpr z)
        show _ = _
        rw [List.range_succ, List.filter_append, List.map_append, List.map_append]
        simp [List.filter_cons, e2]
    · rintro p H1 vs es hn k hv dl ⟨s1, rfl⟩
      rw [show (((m : Int) - 1).toNat) = m - 1 by omega, show ((List.range (m - 1)).filter fun j => m % (j + 1) == 0).map (· + 1) = divsOf m from rfl] at dl
      have hdv : ∀ k ∈ divsOf m, 1 ≤ k ∧ k < m := by
        intro k hk
        unfold divsOf at hk
        rw [List.mem_map] at hk
        obtain ⟨j, hj, rfl⟩ := hk
        have := List.mem_range.mp (List.mem_filter.mp hj).1
        omega
      have hdl : (divsOf m).length ≤ 1000 := by
        unfold divsOf
        rw [List.length_map]
        have := List.length_filter_le (fun j => m % (j + 1) == 0) (List.range (m - 1))
        rw [List.length_range] at this
        omega
      walk_at "w"
      refine lc_list_by (JP H1 fun i es => es = (((divsOf m).take i).map fun k => decide (m < nxt l k)).map PyData.bool) (JP.ok rfl) dl (by rw [List.length_map]; omega) (fun _ => rfl) ?_ ?_
      · intro i d y H' es hd hy hJ Yes No hyes hno
        obtain ⟨s2, rfl⟩ := hJ
        rw [List.getElem?_map] at hd
        obtain ⟨j, hj, rfl⟩ := Option.map_eq_some_iff.mp hd
        cases hy
        have hjb := hdv j (List.mem_of_getElem? hj)
        have hu := un_nxt hs hjb.1 (by omega)
        walk_at "w"
        refine ⟨l, j, rfl, hs.ne, hz, by omega, by omega, fun r hr => ?_⟩
        have e := un_is hs hjb.1 (by omega) hr
        subst e
        dsimp only [ov]
        walk_at "w"
        refine hyes _ H' (.bool (decide ((m : Int) < (nxt l j : Int)))) (Keep.refl _) rfl (.bl _) ⟨s2, ?_⟩
        show _ = _
        rw [List.take_add_one, hj]
        simp
      · rintro p2 H2 vs2 es2 hn2 k2 hv2 dl2 ⟨s2, rfl⟩
        rw [List.length_map, List.take_length] at dl2
        walk_at "w"
        refine w_any dl2 ?_
        walk_at "w"
        refine w_ite (fun e => ?_) (fun e => ?_)
        · walk_at "w"
          rw [e] at q
          exact q H2 (s1.trans s2)
        · rw [e] at q
          have hu := un_nxt hs h1 h2
          walk_at "w"
          refine ⟨l, m, rfl, hs.ne, hz, by omega, by omega, fun r hr => ?_⟩
          have er := un_is hs h1 h2 hr
          subst er
          dsimp only [ov]
          walk_at "w"
          refine ⟨_, m, rfl, by omega, by omega, by omega, by omega, ?_⟩
          walk_at "w"
          have er : ((nxt l m : Int) - 1) % (m : Int) + 1 = (((nxt l m - 1) % m + 1 : Nat) : Int) := by
            rw [show (nxt l m : Int) - 1 = ((nxt l m - 1 : Nat) : Int) by omega]
            push_cast
            rfl
          rw [er]
          refine ⟨l, _, m, rfl, hs, hz, by omega, h2, ?_⟩
          simpa using q H2 (s1.trans s2)

/-! ### _law_chain -/
def sp__law_chain (K : PySem.W.Frag) : Sp := fun vs H Q _ => ∃ (l : List Nat) (b most : Int), vs = [.str (Sg l), .int b, .int most] ∧ l ≠ [] ∧ l.length ≤ 1000 ∧ 1 ≤ b ∧ b ≤ 1000 ∧ 0 ≤ most ∧ most ≤ 1000 ∧
  ∀ ns p H', Chn l most (some b) ns → Same H H' → Dp K H' (.ref p) (.list (ns.map PyData.int)) → Q (.ref p) H'
theorem ok__law_chain (T : Top K mg) : FnOk P w K mg base CX0 3 T.f__law_chain T.fd__law_chain ["marks", "begin", "most"] (sp__law_chain K) := by
  refine T.F__law_chain.ok sc__law_chain (fun vs H Q E h => ?_) (fun cdv A outer s H vs Q E hr h => ?_)
  · obtain ⟨l, b, most, rfl, _⟩ := h
    rfl
  · obtain ⟨l, b, most, rfl, hl, hz, hb0, hb1, hm0, hm1, q⟩ := h
    refine ⟨_, (pss_cons (ps_par (i := 3) (j := 4) (by rfl) sc__law_chain.nd (by rfl) (by rfl) (by decide) (by rfl) (by rfl) (pa_cons (pe_lst pa_nil) (pa_cons (pv 1) pa_nil)) (by rfl))
      (pss_cons (ps_for PassesOwn.never (by rfl) (pi_range1 (by rfl) T.z_range (pa_cons (pe_op op_add (pv 2) pe_int) pa_nil)) (pg_name (i := 5) sc__law_chain.nd (by rfl) (by first | exact Or.inl rfl | exact Or.inr rfl)) (pss_one (ps_if (PW.pt (pw_and (pt_cmpR op_notN1 (pv 4) pe_non (nomark _)) (pw_and1 (pt_cmpR op_le (pv 4) (pv 2) (nomark _))))) (pss_cons (ps_expr (pe_bm PySem.F.plainAttrs_list PySem.F.slot_list_append PySem.F.type_list_append mt_append (pv 3) (pa_cons (pv 4) pa_nil)))
      (pss_one (ps_set (i := 4) sc__law_chain.nd (by rfl) (by first | exact Or.inl rfl | exact Or.inr rfl) (pe_call (ok__law_unlike T) (hr.mono (by decide)) (by rfl) T.g__law_unlike T.F__law_unlike.kp T.b__law_unlike .nil pass0 (pa_cons (pv 0) (pa_cons (pv 4) pa_nil)))))) pss_nil)))
      (pss_one (ps_ret (pv 3))))), ?_⟩
    rw [show start N__law_chain [.str (Sg l), .int b, .int most] = [some (.str (Sg l)), some (.int b), some (.int most), none, none, none] from rfl]
    try dsimp only [cxK]
    have hp : 0 < l.length := List.length_pos_iff.mpr hl
    walk_at "w"
    refine w_newL (K := K) (len_ok (by simp)) .nil fun p H1 n1 e1 f1 d1 => ?_
    walk_at "w"
    refine forR1_by (fun i σ' H' => ∃ (pre : List Int) (r : Option Int) (y : Option V), σ' = [some (.str (Sg l)), some (.int b), some (.int most), some (.ref p), some (ov r), y] ∧ Same H H' ∧ H' p = some (.lst (pre.map V.int)) ∧
      (∀ rest, Chn l most r rest → Chn l most (some b) (pre ++ rest)) ∧ (∀ k, r = some k → 1 ≤ k ∧ ((i : Int) < k ∨ most < k)) ∧ pre.length ≤ i) (by omega) ⟨[], some b, none, rfl, e1, by simpa using f1, fun rest h => h, fun k e => by cases e; omega, by simp⟩ ?_ ?_
    · rintro i σ' H' hi ⟨pre, r, y, rfl, s1, f2, hc, hk, hpl⟩
      cases r with
      | none =>
        dsimp only [ov]
        walk_at "w"
        have e0 : (!decide (V.non = V.non)) = false := by decide
        rw [e0]
        walk_at "w"
        exact ⟨pre, none, _, rfl, s1, f2, hc, fun k e => (by cases e), by omega⟩
      | some k =>
        obtain ⟨hk1, hk2⟩ := hk k rfl
        dsimp only [ov]
        walk_at "w"
        have e0 : (!decide (V.int k = V.non)) = true := by simp
        rw [e0]
        walk_at "w"
        refine w_iteD (fun hle => ?_) (fun hle => ?_)
        · walk_at "w"
          refine w_tyL f2 ?_
          walk_at "w"
          refine w_append f2 (len_lt (by simp; omega)) ?_
          walk_at "w"
          refine ⟨l, k, rfl, hl, hz, by omega, by omega, fun r hu => ?_⟩
          refine ⟨pre ++ [k], r, _, rfl, same_mut s1 n1, ?_, fun rest h => ?_, ?_, by simp; omega⟩
          · rw [upd_same]; simp
          · have := hc (k :: rest) (.go hle hu h)
            simpa using this
          · intro k2 e
            subst e
            have h1 := hu.1
            omega
        · walk_at "w"
          exact ⟨pre, some k, _, rfl, s1, f2, hc, fun k2 e => (by cases e; omega), by omega⟩
    · rintro σ' H' ⟨pre, r, y, rfl, s1, f2, hc, hk, hpl⟩
      walk_at "w"
      refine q pre p H' ?_ s1 (dp_newL f2 (dpa_ints pre))
      cases r with
      | none => simpa using hc [] .no
      | some k =>
        have := (hk k rfl).2
        simpa using hc [] (.stop (by omega))

/-! ### _law_word -/
def sp__law_word (K : PySem.W.Frag) : Sp := fun vs H Q _ => ∃ (m c : Addr) (most : Int) (b : Nat), vs = [.ref m, .int most] ∧ 1 ≤ most ∧ most ≤ 100 ∧ Mo H m c b ∧ b < 2 ^ 44 ∧
  ∀ (l : List Nat) H', WordW l → (l.length : Int) ≤ most → Keep H H' → Mo H' m c (b + 200) → Q (.str (Sg l)) H'
theorem ok__law_word (T : Top K mg) : FnOk P w K mg base CX0 3 T.f__law_word T.fd__law_word ["m", "most"] (sp__law_word K) := by
  refine T.F__law_word.ok sc__law_word (fun vs H Q E h => ?_) (fun cdv A outer s H vs Q E hr h => ?_)
  · obtain ⟨m, c, most, b, rfl, _⟩ := h
    rfl
  · obtain ⟨m, c, most, b, rfl, hn0, hn1, hm, hb, q⟩ := h
    refine ⟨_, (pss_cons (ps_set (i := 2) sc__law_word.nd (by rfl) (by first | exact Or.inl rfl | exact Or.inr rfl) (pe_op op_add pe_int (pe_call (ok__law_draw T) (hr.mono (by decide)) (by rfl) T.g__law_draw T.F__law_draw.kp T.b__law_draw .nil pass0 (pa_cons (pv 0) (pa_cons (pv 1) pa_nil)))))
      (pss_one (ps_ret (pe_ifExp (pt_cmpR op_eq (pv 2) pe_int (nomark _)) pe_str (pe_op op_addS (pe_op op_addS pe_str (pe_call (ok__law_string T) (hr.mono (by decide)) (by rfl) T.g__law_string T.F__law_string.kp T.b__law_string .nil pass0 (pa_cons (pv 0) (pa_cons (pe_op op_sub (pv 2) pe_int) pa_nil)))) pe_str))))), ?_⟩
    rw [show start N__law_word [.ref m, .int most] = [some (.ref m), some (.int most), none] from rfl]
    rw [show Str.ofString "*" = Sg [42] by decide +kernel, show Str.ofString "1" = Sg [49] by decide +kernel]
    try dsimp only [cxK]
    walk_at "w"
    refine ⟨m, c, most, b, rfl, by omega, by omega, hm, by omega, fun r H1 h0 h1 k1 m1 => ?_⟩
    walk_at "w"
    refine w_iteD (fun e => ?_) (fun e => ?_)
    · walk_at "w"
      exact q [42] H1 (.inl rfl) (by simp; omega) k1 (m1.mono (by omega))
    · walk_at "w"
      refine ⟨m, c, _, _, rfl, by omega, by omega, m1, by omega, fun l H2 hl hx k2 m2 => ?_⟩
      walk_at "w"
      refine w_addSg (by simp; omega) ?_
      refine w_addSg (by simp; omega) ?_
      have hw := wordW_mk hx
      refine q _ H2 (by simpa using hw) (by simp; omega) (k1.trans k2) (m2.mono (by omega))

/-! ### failing -/
def sp_failing (K : PySem.W.Frag) : Sp := fun vs H Q _ => ∃ (l : List Nat), vs = [.str (Sg l)] ∧ StarW l ∧ l.length ≤ 1000 ∧ ∀ H', Same H H' → Q (ov (fo l)) H'
theorem ok_failing (T : Top K mg) : FnOk P w K mg base CX0 4 T.f_failing T.fd_failing ["word"] (sp_failing K) := by
  refine T.F_failing.ok sc_failing (fun vs H Q E h => ?_) (fun cdv A outer s H vs Q E hr h => ?_)
  · obtain ⟨l, rfl, _⟩ := h
    rfl
  · obtain ⟨l, rfl, hs, hz, q⟩ := h
    refine ⟨_, (pss_cons (ps_set (i := 1) sc_failing.nd (by rfl) (by first | exact Or.inl rfl | exact Or.inr rfl) (pe_call (ok_address T) (hr.mono (by decide)) (by rfl) T.g_address T.F_address.kp T.b_address .nil pass0 (pa_cons (pv 0) pa_nil)))
      (pss_cons (ps_for PassesOwn.never (by rfl) (pi_range2 (by rfl) T.z_range (pa_cons pe_int (pa_cons (pe_callB (cl_len (K := K)) (by rfl) T.z_len (by decide +kernel) (pa_cons (pv 0) pa_nil)) pa_nil))) (pg_name (i := 2) sc_failing.nd (by rfl) (by first | exact Or.inl rfl | exact Or.inr rfl)) (pss_one (ps_if (PW.pt (pw_and (pt_cmpR (op_notInT (K := K) (Room65 hr)) (pv 2) (pv 1) (by rfl)) (pw_and1 (pt_val (pe_call (ok__fails T) (hr.mono (by decide)) (by rfl) T.g__fails T.F__fails.kp T.b__fails .nil pass0 (pa_cons (pv 0) (pa_cons (pv 2) pa_nil))))))) (pss_one (ps_ret (pv 2))) pss_nil)))
      (pss_one (ps_ret pe_non)))), ?_⟩
    rw [show start N_failing [.str (Sg l)] = [some (.str (Sg l)), none, none] from rfl]
    try dsimp only [cxK]
    walk_at "w"
    refine ⟨l, rfl, hs.ne, hz, fun ns v H1 hc e1 d1 => ?_⟩
    walk_at "w"
    have hp := hs.pos
    refine forR2_by (fun i σ' H' => ∃ y, σ' = [some (.str (Sg l)), some v, y] ∧ Same H1 H' ∧ ∀ j, 1 ≤ j → j ≤ i → failAt l j = false) (by omega) ⟨none, rfl, Same.refl _, fun j a b => by omega⟩ ?_ ?_
    · rintro i σ' H' hi ⟨y, rfl, s1, hj⟩
      have hadr := chn_addr hs (m := i + 1) (by omega) (by omega) hc
      have e0 : (1 + (i : Int)) = ((i + 1 : Nat) : Int) := by push_cast; omega
      rw [e0]
      walk_at "w"
      refine w_notInT (d := .int ((i + 1 : Nat) : Int)) (.int _) (dp_same s1 d1) rfl (pln_intsT _) (fun hm => ?_) (fun hm => ?_)
      · walk_at "w"
        refine ⟨_, rfl, s1, fun j a b => ?_⟩
        by_cases z : j ≤ i
        · exact hj j a z
        · have : j = i + 1 := by omega
          subst this
          unfold failAt
          rw [hadr.mp (by simpa using hm)]
          rfl
      · have hm2 : comesBy l 1 (i + 1) = false := by
          cases z : comesBy l 1 (i + 1) with
          | false => rfl
          | true => exact absurd (by simpa using hadr.mpr z) hm
        walk_at "w"
        refine ⟨l, i + 1, rfl, hs, hz, by omega, by omega, fun H2 e2 => ?_⟩
        walk_at "w"
        refine w_ite (fun e => ?_) (fun e => ?_)
        · walk_at "w"
          have : fo l = some ((i + 1 : Nat) : Int) := failO_first (by omega) (by omega) (by unfold failAt; rw [hm2, e]; rfl) (fun j a b => hj j a (by omega))
          rw [this] at q
          exact q H2 ((e1.trans s1).trans e2)
        · walk_at "w"
          refine ⟨_, rfl, s1.trans e2, fun j a b => ?_⟩
          by_cases z : j ≤ i
          · exact hj j a z
          · have : j = i + 1 := by omega
            subst this
            unfold failAt
            rw [e, Bool.and_false]
    · rintro σ' H' ⟨y, rfl, s1, hj⟩
      walk_at "w"
      have : fo l = none := failO_none fun j a b => hj j a (by omega)
      rw [this] at q
      exact q H' (e1.trans s1)

/-! ### copied_word -/
def sp_copied_word {K : PySem.W.Frag} {mg : Str → Option Value} (T : Top K mg) : Sp := fun vs H Q E => ∃ l o : List Nat, vs = [.str (Sg l), .str (Sg o)] ∧ StarW l ∧ WordW o ∧ l.length * o.length ≤ 24 ∧ l.length ≤ 24 ∧ o.length ≤ 24 ∧ ∀ H', Same H H' → Q (.str (Sg (copiedL l o))) H'
theorem ok_copied_word (T : Top K mg) : FnOk P w K mg base (CX P w) 4 T.f_copied_word T.fd_copied_word ["word", "other"] (sp_copied_word T) := by
  refine T.F_copied_word.okX sc_copied_word (fun vs H Q E h => ?_) (fun cdv A outer s H vs Q E hr h => ?_)
  · obtain ⟨l, o, rfl, _⟩ := h
    rfl
  · obtain ⟨l, o, rfl, hs, ho, hz, hl1, hl2, q⟩ := h
    refine ⟨_, (pss_cons (ps_if (pt_cmpR op_gt (pe_op op_mulX (pe_callB (cl_len (K := K)) (by rfl) T.z_len (by decide +kernel) (pa_cons (pv 0) pa_nil)) (pe_callB (cl_len (K := K)) (by rfl) T.z_len (by decide +kernel) (pa_cons (pv 1) pa_nil))) (pe_cint (by rfl) T.c_MOST_CHARACTERS) (nomark _)) (pss_one (ps_raise rfl (takes_of rfl rfl rfl rfl) (pmk_oex T.x_TooMany.o T.iC_TooMany T.tI_TooMany (ok_TooMany__init T) (hr.mono (by decide)) T.b_TooMany__init .nil pass0 (by rfl) T.gc_TooMany (pa_cons (pe_cint (by rfl) T.c_MOST_CHARACTERS) pa_nil)))) pss_nil)
      (PSs.nox (pss_cons (ps_set (i := 2) sc_copied_word.nd (by rfl) (by first | exact Or.inl rfl | exact Or.inr rfl) (pe_call (ok_upper_mark T) (hr.mono (by decide)) (by rfl) T.g_upper_mark T.F_upper_mark.kp T.b_upper_mark .nil pass0 (pa_cons (pv 0) pa_nil)))
      (pss_cons (ps_set (i := 3) sc_copied_word.nd (by rfl) (by first | exact Or.inl rfl | exact Or.inr rfl) (pe_disp (pps_cons pe_str (pv 2) (pps_cons pe_str (pe_ifExp (pt_cmpR op_eq (pv 2) pe_str (nomark _)) pe_str pe_str) (pps_cons pe_str pe_str pps_nil))) (by rfl) (by rfl) (fun z => by cases z) (by decide)))
      (pss_one (ps_ret (pe_joinD (K := K) pe_str (pe_lc (own := [("character", 4)]) (g := gName 4) (tt := tYes) (by rfl) sc_copied_word.nd (pi_str (pv 1)) (blkOk_by (own := [("character", 4)]) (N := N_copied_word) (sc := defScope s_copied_word) (by decide +kernel)) (fun _ _ _ _ _ => (pg_name (i := 4) sc_copied_word.nd (by rfl) (by first | exact Or.inl rfl | exact Or.inr rfl))) (fun _ _ _ _ _ => pts_nil) (fun _ _ _ _ _ => (pe_op op_addS (pe_slice sl_str (pv 0) po_none (po_some (pe_un un_neg pe_int))) (pe_dget (hu_of hr) (pv 3) (pv 4) (fun _ _ => rfl)))))))))))), ?_⟩
    rw [show start N_copied_word [.str (Sg l), .str (Sg o)] = [some (.str (Sg l)), some (.str (Sg o)), none, none, none] from rfl]
    rw [show Str.ofString "1" = Sg [49] by decide +kernel, show Str.ofString "0" = Sg [48] by decide +kernel, show Str.ofString "*" = Sg [42] by decide +kernel, sg_empty]
    try dsimp only [cxK]
    walk_at "wp"
    refine w_iteD (fun h => by exfalso; have : ((l.length * o.length : Nat) : Int) ≤ 24 := by omega
                               push_cast at this; omega) (fun _ => ?_)
    walk_at "wp"
    refine ⟨l, rfl, hs.ne, by omega, fun H1 e1 => ?_⟩
    walk_at "wp"
    refine w_disp fun p H0 n0 e0 f0 => ?_
    refine w_pp ?_
    refine w_c ?_
    refine w_var rfl ?_
    refine w_pp ?_
    refine w_c ?_
    refine w_meet (fun v H' => v = .str (Sg [lowM l]) ∧ H' = H0) (fun Q' hQ' => ?_) ?_
    · walk_at "wp"
      refine w_iteD (fun h => ?_) (fun h => ?_)
      · have hu : upM l = 49 := by
          have := sg_V.mp h
          simpa using this
        walk_at "wp"
        exact hQ' _ _ ⟨by rw [lowM, if_pos hu], rfl⟩
      · have hu : ¬ upM l = 49 := fun z => h (by rw [z])
        walk_at "wp"
        exact hQ' _ _ ⟨by rw [lowM, if_neg hu], rfl⟩
    rintro _ H0 ⟨rfl, rfl⟩
    walk_at "wp"
    have n42 : ¬ Sg [42] = Sg [48] := fun z => by simpa using sg_inj z
    have n43 : ¬ Sg [42] = Sg [49] := fun z => by simpa using sg_inj z
    have n49 : ¬ Sg [49] = Sg [48] := fun z => by simpa using sg_inj z
    refine ⟨f0, [(.inr (Sg [49]), .str (Sg [upM l])), (.inr (Sg [48]), .str (Sg [lowM l])), (.inr (Sg [42]), .str (Sg [42]))], rfl, by simp, ?_⟩
    have hm : mergeK [] [((.inr (Sg [49]) : Key), V.str (Sg [upM l])), (.inr (Sg [48]), .str (Sg [lowM l])), (.inr (Sg [42]), .str (Sg [42]))] = [((.inr (Sg [49]) : Key), V.str (Sg [upM l])), (.inr (Sg [48]), .str (Sg [lowM l])), (.inr (Sg [42]), .str (Sg [42]))] := by
      simp [mergeK, putK, n42, n43, n49, Ne.symm n42, Ne.symm n43]
    rw [hm]
    have h49 : valV [((.inr (Sg [49]) : Key), V.str (Sg [upM l])), (.inr (Sg [48]), .str (Sg [lowM l])), (.inr (Sg [42]), .str (Sg [42]))] (.inr (Sg [49])) = some (.str (Sg [upM l])) := by simp [valV]
    have h48 : valV [((.inr (Sg [49]) : Key), V.str (Sg [upM l])), (.inr (Sg [48]), .str (Sg [lowM l])), (.inr (Sg [42]), .str (Sg [42]))] (.inr (Sg [48])) = some (.str (Sg [lowM l])) := by simp [valV, n49]
    have h42 : valV [((.inr (Sg [49]) : Key), V.str (Sg [upM l])), (.inr (Sg [48]), .str (Sg [lowM l])), (.inr (Sg [42]), .str (Sg [42]))] (.inr (Sg [42])) = some (.str (Sg [42])) := by simp [valV, Ne.symm n42, Ne.symm n43]
    have fd : (upd H0 p (.dK [((.inr (Sg [49]) : Key), V.str (Sg [upM l])), (.inr (Sg [48]), .str (Sg [lowM l])), (.inr (Sg [42]), .str (Sg [42]))])) p = some (.dK [((.inr (Sg [49]) : Key), V.str (Sg [upM l])), (.inr (Sg [48]), .str (Sg [lowM l])), (.inr (Sg [42]), .str (Sg [42]))]) := upd_same
    have s2 : Same H (upd H0 p (.dK [((.inr (Sg [49]) : Key), V.str (Sg [upM l])), (.inr (Sg [48]), .str (Sg [lowM l])), (.inr (Sg [42]), .str (Sg [42]))])) := e1.trans (same_mut e0 n0)
    generalize upd H0 p (.dK [((.inr (Sg [49]) : Key), V.str (Sg [upM l])), (.inr (Sg [48]), .str (Sg [lowM l])), (.inr (Sg [42]), .str (Sg [42]))]) = H2 at fd s2 ⊢
    generalize [((.inr (Sg [49]) : Key), V.str (Sg [upM l])), (.inr (Sg [48]), .str (Sg [lowM l])), (.inr (Sg [42]), .str (Sg [42]))] = kvs at fd h49 h48 h42
    have char : ∀ c ∈ o, c = 49 ∨ c = 48 ∨ c = 42 := by
      intro c hc
      rcases ho with rfl | ⟨s, rfl, hs2⟩
      · simp at hc; omega
      · rcases List.mem_cons.mp hc with h | h
        · exact .inl h
        · rcases List.mem_append.mp h with h | h
          · have := hs2 c h; omega
          · simp at h; omega
    walk_at "wp"
    refine lc_str_by (K := K) (JP H2 fun i es => es = ((o.take i).map (copiedC l)).map (fun y => PyData.str (Sg y))) (JP.ok rfl) (by omega) (fun _ => rfl) ?_ ?_
    · rintro i c H3 es hc ⟨s3, rfl⟩ Yes No hyes hno
      walk_at "wp"
      refine w_slSg (by omega) ?_
      rw [cutD_butlast]
      refine w_meet (fun v H' => v = .str (Sg [if c = 49 then upM l else if c = 48 then lowM l else 42]) ∧ H' = H3) (fun Q' hQ' => ?_) ?_
      · walk_at "wp"
        have fd3 := s3 _ _ fd
        rcases char c (List.mem_of_getElem? hc) with rfl | rfl | rfl
        · exact w_dgS fd3 h49 (hQ' _ _ ⟨rfl, rfl⟩)
        · exact w_dgS fd3 h48 (hQ' _ _ ⟨rfl, rfl⟩)
        · exact w_dgS fd3 h42 (hQ' _ _ ⟨rfl, rfl⟩)
      · rintro _ H3 ⟨rfl, rfl⟩
        refine w_addSg (by simp; omega) ?_
        refine hyes _ H3 (.str (Sg (copiedC l c))) (Keep.refl _) rfl (.str _) ⟨s3, ?_⟩
        show _ = _
        rw [List.take_add_one, hc]
        simp
    · rintro p2 H3 ws es hn k3 hv dl ⟨s3, rfl⟩
      rw [List.take_length] at dl
      have hlen := copied_len l o hs.ne
      refine w_joinSg dl (by unfold copiedL at hlen; omega) ?_
      exact q H3 (s2.trans s3)

/-! ### _law_address -/
def sp__law_address (K : PySem.W.Frag) : Sp := fun vs H Q _ => ∃ (l : List Nat), vs = [.str (Sg l)] ∧ l ≠ [] ∧ l.length ≤ 1000 ∧ ∀ ns v H', Chn l l.length (some 1) ns → Same H H' → Dp K H' v (.tuple (ns.map PyData.int)) → Q v H'
theorem ok__law_address (T : Top K mg) : FnOk P w K mg base CX0 4 T.f__law_address T.fd__law_address ["marks"] (sp__law_address K) := by
  refine T.F__law_address.ok sc__law_address (fun vs H Q E h => ?_) (fun cdv A outer s H vs Q E hr h => ?_)
  · obtain ⟨l, rfl, _⟩ := h
    rfl
  · obtain ⟨l, rfl, hl, hz, q⟩ := h
    refine ⟨_, (pss_one (ps_ret (pe_callTy (cl_tup (K := K)) (by rfl) T.z_tuple (by decide +kernel) (pa_cons (pe_call (ok__law_chain T) (hr.mono (by decide)) (by rfl) T.g__law_chain T.F__law_chain.kp T.b__law_chain .nil pass0 (pa_cons (pv 0) (pa_cons pe_int (pa_cons (pe_callB (cl_len (K := K)) (by rfl) T.z_len (by decide +kernel) (pa_cons (pv 0) pa_nil)) pa_nil)))) pa_nil)))), ?_⟩
    rw [show start N__law_address [.str (Sg l)] = [some (.str (Sg l))] from rfl]
    try dsimp only [cxK]
    walk_at "w"
    refine ⟨l, _, _, rfl, hl, hz, by omega, by omega, by omega, by omega, fun ns p H' hc s1 d1 => ?_⟩
    refine w_tupOf d1 fun p2 H2 n2 e2 d2 => ?_
    exact q ns _ H2 hc (s1.trans e2) d2

/-! ### is_let -/
def sp_is_let (K : PySem.W.Frag) : Sp := fun vs H Q _ => ∃ (l : List Nat), vs = [.str (Sg l)] ∧ StarW l ∧ l.length ≤ 1000 ∧ ∀ H', Same H H' → Q (.bl (failO l).isNone) H'
theorem ok_is_let (T : Top K mg) : FnOk P w K mg base CX0 5 T.f_is_let T.fd_is_let ["word"] (sp_is_let K) := by
  refine T.F_is_let.ok sc_is_let (fun vs H Q E h => ?_) (fun cdv A outer s H vs Q E hr h => ?_)
  · obtain ⟨l, rfl, _⟩ := h
    rfl
  · obtain ⟨l, rfl, hs, hz, q⟩ := h
    refine ⟨_, (pss_one (ps_ret (pe_cmpR op_isN1 (pe_call (ok_failing T) (hr.mono (by decide)) (by rfl) T.g_failing T.F_failing.kp T.b_failing .nil pass0 (pa_cons (pv 0) pa_nil)) pe_non (nomark _)))), ?_⟩
    rw [show start N_is_let [.str (Sg l)] = [some (.str (Sg l))] from rfl]
    try dsimp only [cxK]
    walk_at "w"
    refine ⟨l, rfl, hs, hz, fun H1 e1 => ?_⟩
    walk_at "w"
    rw [ov_none]
    exact q H1 e1

/-! ### _law_fails_at -/
def sp__law_fails_at (K : PySem.W.Frag) : Sp := fun vs H Q _ => ∃ (l : List Nat) (m : Nat), vs = [.str (Sg l), .int m] ∧ StarW l ∧ l.length ≤ 900 ∧ 1 ≤ m ∧ m < l.length ∧ ∀ H', Same H H' → Q (.bl (failAt l m)) H'
theorem ok__law_fails_at (T : Top K mg) : FnOk P w K mg base CX0 5 T.f__law_fails_at T.fd__law_fails_at ["word", "m"] (sp__law_fails_at K) := by
  refine T.F__law_fails_at.ok sc__law_fails_at (fun vs H Q E h => ?_) (fun cdv A outer s H vs Q E hr h => ?_)
  · obtain ⟨l, m, rfl, _⟩ := h
    rfl
  · obtain ⟨l, m, rfl, hs, hz, h1, h2, q⟩ := h
    refine ⟨_, (pss_cons (ps_if (pt_cmpR (op_inT (K := K) (Room65 hr)) (pv 1) (pe_call (ok__law_address T) (hr.mono (by decide)) (by rfl) T.g__law_address T.F__law_address.kp T.b__law_address .nil pass0 (pa_cons (pv 0) pa_nil)) (by rfl)) (pss_one (ps_ret pe_bl)) pss_nil)
      (pss_cons (ps_for PassesOwn.never (by rfl) (pi_range2 (by rfl) T.z_range (pa_cons pe_int (pa_cons (pv 1) pa_nil))) (pg_name (i := 2) sc__law_fails_at.nd (by rfl) (by first | exact Or.inl rfl | exact Or.inr rfl)) (pss_one (ps_if (pt_cmpR op_eq (pe_op op_modD (pe_callTy cl_int (by rfl) T.z_int (by decide +kernel) (pa_cons (pv 1) pa_nil)) (pv 2)) pe_int (nomark _)) (pss_cons (ps_set (i := 3) sc__law_fails_at.nd (by rfl) (by first | exact Or.inl rfl | exact Or.inr rfl) (pe_call (ok__law_unlike T) (hr.mono (by decide)) (by rfl) T.g__law_unlike T.F__law_unlike.kp T.b__law_unlike .nil pass0 (pa_cons (pv 0) (pa_cons (pv 2) pa_nil))))
      (pss_one (ps_if (PW.pt (pw_or (pt_cmpR op_isN1 (pv 3) pe_non (nomark _)) (pw_or1 (pt_cmpR op_gt (pv 3) (pv 1) (nomark _))))) (pss_one (ps_ret pe_bl)) pss_nil))) pss_nil)))
      (pss_cons (ps_set (i := 3) sc__law_fails_at.nd (by rfl) (by first | exact Or.inl rfl | exact Or.inr rfl) (pe_call (ok__law_unlike T) (hr.mono (by decide)) (by rfl) T.g__law_unlike T.F__law_unlike.kp T.b__law_unlike .nil pass0 (pa_cons (pv 0) (pa_cons (pv 1) pa_nil))))
      (pss_cons (ps_if (pt_cmpR op_isN1 (pv 3) pe_non (nomark _)) (pss_one (ps_ret pe_bl)) pss_nil)
      (pss_cons (ps_set (i := 4) sc__law_fails_at.nd (by rfl) (by first | exact Or.inl rfl | exact Or.inr rfl) (pe_ix (ix_listK (K := K)) (pe_lc (own := [("r", 5)]) (g := gName 5) (by rfl) sc__law_fails_at.nd (pi_range2 (by rfl) T.z_range (pa_cons pe_int (pa_cons (pe_op op_add (pv 1) pe_int) pa_nil))) (blkOk_by (own := [("r", 5)]) (N := N__law_fails_at) (sc := defScope s__law_fails_at) (by decide +kernel)) (fun _ _ _ _ _ => (pg_name (i := 5) sc__law_fails_at.nd (by rfl) (by first | exact Or.inl rfl | exact Or.inr rfl))) (fun _ _ _ _ _ => (pts_one (pt_cmpR op_eq (pe_op op_modD (pe_callTy cl_int (by rfl) T.z_int (by decide +kernel) (pa_cons (pe_op op_sub (pv 3) (pv 5)) pa_nil)) (pv 1)) pe_int (nomark _)))) (fun _ _ _ _ _ => (pv 5))) pe_int (fun _ _ => rfl)))
      (pss_one (ps_ret (pe_cmpR (op_inDK (K := K) (Room65 hr)) (pv 1) (pe_call (ok__law_chain T) (hr.mono (by decide)) (by rfl) T.g__law_chain T.F__law_chain.kp T.b__law_chain .nil pass0 (pa_cons (pv 0) (pa_cons (pv 4) (pa_cons (pv 1) pa_nil)))) (by rfl))))))))), ?_⟩
    rw [show start N__law_fails_at [.str (Sg l), .int m] = [some (.str (Sg l)), some (.int m), none, none, none, none] from rfl]
    try dsimp only [cxK]
    walk_at "w"
    refine ⟨l, rfl, hs.ne, by omega, fun ns v H1 hc e1 d1 => ?_⟩
    have hadr := chn_addr hs h1 h2 hc
    refine w_inT (d := .int (m : Int)) (.int _) d1 rfl (pln_intsT _) (fun hm => ?_) (fun hm => ?_)
    · walk_at "w"
      have : failAt l m = false := by unfold failAt; rw [hadr.mp (by simpa using hm)]; rfl
      rw [this] at q
      exact q H1 e1
    · have hm2 : comesBy l 1 m = false := by
        cases z : comesBy l 1 m with
        | false => rfl
        | true => exact absurd (by simpa using hadr.mpr z) hm
      have hfa : failAt l m = fails l m := by unfold failAt; rw [hm2]; rfl
      rw [hfa] at q
      unfold fails at q
      walk_at "w"
      refine forR2_by (fun i σ' H' => ∃ y2 y3, σ' = [some (.str (Sg l)), some (.int m), y2, y3, none, none] ∧ H1 = H' ∧ ∀ k, 1 ≤ k → k ≤ i → m % k = 0 → nxt l k ≤ m) (by omega) ⟨none, none, rfl, rfl, fun j a b => by omega⟩ ?_ ?_
      · rintro i σ' H' hi ⟨y2, y3, rfl, rfl, hj⟩
        walk_at "w"
        have em : ((m : Int) % (1 + (i : Int)) = 0) ↔ m % (i + 1) = 0 := by
          rw [show (1 + (i : Int)) = ((i + 1 : Nat) : Int) by push_cast; omega, ← Int.natCast_emod]
          omega
        have hu := un_nxt hs (m := i + 1) (by omega) (by omega)
        refine w_iteD (fun e => ?_) (fun e => ?_)
        · walk_at "w"
          refine ⟨l, _, rfl, hs.ne, by omega, by omega, by omega, fun r hr => ?_⟩
          have er := un_is hs (m := i + 1) (by omega) (by omega) (by rw [show ((i + 1 : Nat) : Int) = 1 + (i : Int) by push_cast; omega]; exact hr)
          subst er
          dsimp only [ov]
          walk_at "w"
          rw [decide_eq_false (fun z => nomatch z)]
          walk_at "w"
          refine w_iteD (fun hgt => ?_) (fun hgt => ?_)
          · walk_at "w"
            have : ((List.range (m - 1)).any fun i => m % (i + 1) == 0 && decide (m < nxt l (i + 1))) = true := by
              rw [List.any_eq_true]
              refine ⟨i, List.mem_range.mpr (by omega), ?_⟩
              rw [Bool.and_eq_true]
              exact ⟨by simpa using em.mp e, decide_eq_true (by omega)⟩
            rw [this] at q
            exact q H1 e1
          · walk_at "w"
            refine ⟨_, _, rfl, rfl, fun k a b hk => ?_⟩
            by_cases z : k ≤ i
            · exact hj k a z hk
            · have : k = i + 1 := by omega
              subst this
              omega
        · walk_at "w"
          refine ⟨_, _, rfl, rfl, fun k a b hk => ?_⟩
          by_cases z : k ≤ i
          · exact hj k a z hk
          · have : k = i + 1 := by omega
            subst this
            exact absurd (em.mpr hk) e
      · rintro σ' H' ⟨y2, y3, rfl, rfl, hj⟩
        have : ((List.range (m - 1)).any fun i => m % (i + 1) == 0 && decide (m < nxt l (i + 1))) = false := by
          rw [List.any_eq_false]
          intro i hi
          have hi := List.mem_range.mp hi
          rw [Bool.and_eq_true]
          rintro ⟨a, b⟩
          have := hj (i + 1) (by omega) (by omega) (by simpa using a)
          have := of_decide_eq_true b
          omega
        rw [this] at q
        have hu := un_nxt hs h1 h2
        have hrs := Nat.mod_lt (nxt l m - 1) (show m > 0 by omega)
        walk_at "w"
        refine ⟨l, m, rfl, hs.ne, by omega, by omega, by omega, fun r hr => ?_⟩
        have er := un_is hs h1 h2 hr
        subst er
        dsimp only [ov]
        walk_at "w"
        rw [decide_eq_false (fun z => nomatch z)]
        walk_at "w"
        refine lc_rng2_by (K := K) (JP H1 fun i es => es = if (nxt l m - 1) % m + 1 ≤ i then [PyData.int (((nxt l m - 1) % m + 1 : Nat) : Int)] else []) (JP.ok (by rw [if_neg (by omega)])) (by omega) (fun _ => rfl) ?_ ?_
        · rintro i H' es hi ⟨k, rfl⟩ Yes No hyes hno
          walk_at "w"
          have hri := rest_iff (f := nxt l m) (m := m) (r := i + 1) (by omega) (by omega) (by omega)
          rw [show ((i + 1 : Nat) : Int) = 1 + (i : Int) by push_cast; omega] at hri
          refine w_iteD (fun e => ?_) (fun e => ?_)
          · have e2 := hri.mp e
            walk_at "w"
            refine hyes _ H' (.int (1 + (i : Int))) (Keep.refl _) rfl (.int _) ⟨k, ?_⟩
            show _ = _
            rw [if_neg (by omega), if_pos (by omega), ← e2, show ((i + 1 : Nat) : Int) = 1 + (i : Int) by push_cast; omega]
            rfl
          · have e2 : ¬ i + 1 = (nxt l m - 1) % m + 1 := fun z => e (hri.mpr z)
            refine hno H' (Keep.refl _) ⟨k, ?_⟩
            show _ = _
            by_cases z : (nxt l m - 1) % m + 1 ≤ i
            · rw [if_pos z, if_pos (by omega)]
            · rw [if_neg z, if_neg (by omega)]
        · rintro p H2 vs es hn k hv dl ⟨s2, rfl⟩
          rw [if_pos (by omega)] at dl
          walk_at "w"
          refine w_ixL (j := 0) (d := .int (((nxt l m - 1) % m + 1 : Nat) : Int)) dl rfl rfl fun v' hv' => ?_
          cases hv'
          walk_at "w"
          refine ⟨l, _, _, rfl, hs.ne, by omega, by omega, by omega, by omega, by omega, fun ns2 p3 H3 hc3 e3 d3 => ?_⟩
          have hcm := chn_comes hs h2 hc3 _ (by omega) rfl
          refine w_inP (d := .int (m : Int)) (.int _) d3 rfl (fun z hz => by
            obtain ⟨x, _, rfl⟩ := List.mem_map.mp hz
            rfl) (fun hm => ?_) (fun hm => ?_)
          · rw [hcm.mp (by simpa using hm)] at q
            exact q H3 ((e1.trans s2).trans e3)
          · have : comesBy l ((nxt l m - 1) % m + 1) m = false := by
              cases z : comesBy l ((nxt l m - 1) % m + 1) m with
              | false => rfl
              | true => exact absurd (by simpa using hcm.mpr z) hm
            rw [this] at q
            exact q H3 ((e1.trans s2).trans e3)

/-! ### _law_failing -/
def sp__law_failing (K : PySem.W.Frag) : Sp := fun vs H Q _ => ∃ (l : List Nat), vs = [.str (Sg l)] ∧ StarW l ∧ l.length ≤ 900 ∧ ∀ H', Same H H' → Q (ov (fo l)) H'
theorem ok__law_failing (T : Top K mg) : FnOk P w K mg base CX0 6 T.f__law_failing T.fd__law_failing ["word"] (sp__law_failing K) := by
  refine T.F__law_failing.ok sc__law_failing (fun vs H Q E h => ?_) (fun cdv A outer s H vs Q E hr h => ?_)
  · obtain ⟨l, rfl, _⟩ := h
    rfl
  · obtain ⟨l, rfl, hs, hz, q⟩ := h
    refine ⟨_, (pss_cons (ps_for PassesOwn.never (by rfl) (pi_range2 (by rfl) T.z_range (pa_cons pe_int (pa_cons (pe_callB (cl_len (K := K)) (by rfl) T.z_len (by decide +kernel) (pa_cons (pv 0) pa_nil)) pa_nil))) (pg_name (i := 1) sc__law_failing.nd (by rfl) (by first | exact Or.inl rfl | exact Or.inr rfl)) (pss_one (ps_if (pt_val (pe_call (ok__law_fails_at T) (hr.mono (by decide)) (by rfl) T.g__law_fails_at T.F__law_fails_at.kp T.b__law_fails_at .nil pass0 (pa_cons (pv 0) (pa_cons (pv 1) pa_nil)))) (pss_one (ps_ret (pv 1))) pss_nil)))
      (pss_one (ps_ret pe_non))), ?_⟩
    rw [show start N__law_failing [.str (Sg l)] = [some (.str (Sg l)), none] from rfl]
    try dsimp only [cxK]
    walk_at "w"
    have hp := hs.pos
    refine forR2_by (fun i σ' H' => ∃ y, σ' = [some (.str (Sg l)), y] ∧ Same H H' ∧ ∀ j, 1 ≤ j → j ≤ i → failAt l j = false) (by omega) ⟨none, rfl, Same.refl _, fun j a b => by omega⟩ ?_ ?_
    · rintro i σ' H' hi ⟨y, rfl, s1, hj⟩
      have e0 : (1 + (i : Int)) = ((i + 1 : Nat) : Int) := by push_cast; omega
      rw [e0]
      walk_at "w"
      refine ⟨l, i + 1, rfl, hs, hz, by omega, by omega, fun H2 e2 => ?_⟩
      walk_at "w"
      refine w_ite (fun e => ?_) (fun e => ?_)
      · walk_at "w"
        have : fo l = some ((i + 1 : Nat) : Int) := failO_first (by omega) (by omega) e (fun j a b => hj j a (by omega))
        rw [this] at q
        exact q H2 (s1.trans e2)
      · walk_at "w"
        refine ⟨_, rfl, s1.trans e2, fun j a b => ?_⟩
        by_cases z : j ≤ i
        · exact hj j a z
        · have : j = i + 1 := by omega
          subst this
          exact e
    · rintro σ' H' ⟨y, rfl, s1, hj⟩
      walk_at "w"
      have : fo l = none := failO_none fun j a b => hj j a (by omega)
      rw [this] at q
      exact q H' s1

/-! ### _law_is_right -/
def sp__law_is_right (K : PySem.W.Frag) : Sp := fun vs H Q _ => ∃ (l : List Nat), vs = [.str (Sg l)] ∧ StarW l ∧ l.length ≤ 900 ∧ ∀ H', Same H H' → Q (.bl true) H'
theorem ok__law_is_right (T : Top K mg) : FnOk P w K mg base CX0 7 T.f__law_is_right T.fd__law_is_right ["word"] (sp__law_is_right K) := by
  refine T.F__law_is_right.ok sc__law_is_right (fun vs H Q E h => ?_) (fun cdv A outer s H vs Q E hr h => ?_)
  · obtain ⟨l, rfl, _⟩ := h
    rfl
  · obtain ⟨l, rfl, hs, hz, q⟩ := h
    refine ⟨_, (pss_cons (ps_par (i := 1) (j := 2) (by rfl) sc__law_is_right.nd (by rfl) (by rfl) (by decide) (by rfl) (by rfl) (pa_cons (pe_call (ok__law_failing T) (hr.mono (by decide)) (by rfl) T.g__law_failing T.F__law_failing.kp T.b__law_failing .nil pass0 (pa_cons (pv 0) pa_nil)) (pa_cons (pe_call (ok_failing T) (hr.mono (by decide)) (by rfl) T.g_failing T.F_failing.kp T.b_failing .nil pass0 (pa_cons (pv 0) pa_nil)) pa_nil)) (by rfl))
      (pss_cons (ps_if (PW.pt (pw_or (pt_cmpR op_ne (pv 2) (pv 1) (nomark _)) (pw_or1 (pt_val (pe_callB (cl_isi (K := K)) (by rfl) T.z_isinstance (by decide +kernel) (pa_cons (pv 2) (pa_cons (pe_bltn (v := .ty "bool") (by rfl) T.z_bool (by decide +kernel) rfl) pa_nil))))))) (pss_one (ps_ret pe_bl)) pss_nil)
      (pss_cons (ps_set (i := 3) sc__law_is_right.nd (by rfl) (by first | exact Or.inl rfl | exact Or.inr rfl) (pe_call (ok_is_let T) (hr.mono (by decide)) (by rfl) T.g_is_let T.F_is_let.kp T.b_is_let .nil pass0 (pa_cons (pv 0) pa_nil)))
      (pss_one (ps_ret (pe_and (pe_callB (cl_isi (K := K)) (by rfl) T.z_isinstance (by decide +kernel) (pa_cons (pv 3) (pa_cons (pe_bltn (v := .ty "bool") (by rfl) T.z_bool (by decide +kernel) rfl) pa_nil))) (pe_one (pe_cmpR op_eq (pv 3) (pe_cmpR op_isN1 (pv 1) pe_non (nomark _)) (nomark _))))))))), ?_⟩
    rw [show start N__law_is_right [.str (Sg l)] = [some (.str (Sg l)), none, none, none] from rfl]
    try dsimp only [cxK]
    walk_at "w"
    refine ⟨l, rfl, hs, hz, fun H1 e1 => ?_⟩
    walk_at "w"
    refine ⟨l, rfl, hs, by omega, fun H2 e2 => ?_⟩
    walk_at "w"
    have hn := ov_none l
    generalize fo l = r at hn ⊢
    cases r with
    | none =>
      dsimp only [ov]
      walk_at "w"
      rw [show (!decide (V.non = V.non)) = false by decide]
      walk_at "w"
      refine ⟨l, rfl, hs, by omega, fun H3 e3 => ?_⟩
      have hn2 : (failO l).isNone = true := by rw [← hn]; rfl
      rw [hn2]
      walk_at "w"
      rw [show decide (V.non = V.non) = true by decide, decide_eq_true rfl]
      exact q H3 ((e1.trans e2).trans e3)
    | some k =>
      dsimp only [ov]
      walk_at "w"
      rw [decide_eq_true rfl]
      walk_at "w"
      refine ⟨l, rfl, hs, by omega, fun H3 e3 => ?_⟩
      have hn2 : (failO l).isNone = false := by rw [← hn]; rfl
      rw [hn2]
      walk_at "w"
      rw [show decide (V.int k = V.non) = false from decide_eq_false (fun z => nomatch z), decide_eq_true rfl]
      exact q H3 ((e1.trans e2).trans e3)

/-! ### law -/
def sp_law (K : PySem.W.Frag) : Sp := fun vs H Q _ => ∃ (a : Addr) (ns : List Int), vs = [.ref a] ∧ SqL K H a (ns.map V.int) ∧ ns.length ≤ 63 ∧ (∀ z ∈ ns, Builtin.Int.intBits z ≤ 1048576) ∧ ∀ H', Q (.bl true) H'
theorem ok_law (T : Top K mg) : FnOk P w K mg base CX0 8 T.f_law T.fd_law ["script"] (sp_law K) := by
  refine T.F_law.ok sc_law (fun vs H Q E h => ?_) (fun cdv A outer s H vs Q E hr h => ?_)
  · obtain ⟨a, ns, rfl, _⟩ := h
    rfl
  · obtain ⟨a, ns, rfl, hS, hl, hB, q⟩ := h
    refine ⟨_, (pss_cons (ps_if (PW.pt (pw_or (pt_cmpR op_ne (pe_call (ok_failing T) (hr.mono (by decide)) (by rfl) T.g_failing T.F_failing.kp T.b_failing .nil pass0 (pa_cons pe_str pa_nil)) pe_int (nomark _)) (pw_or1 (pt_cmpR (op_neK (K := K) hr.units) (pe_lc (own := [("word", 3)]) (g := gName 3) (by rfl) sc_law.nd (pi_tupK (K := K) (pe_call (ok_star_words T) (hr.mono (by decide)) (by rfl) T.g_star_words T.F_star_words.kp T.b_star_words .nil passF (pa_cons pe_int pa_nil))) (blkOk_by (own := [("word", 3)]) (N := N_law) (sc := defScope s_law) (by decide +kernel)) (fun _ _ _ _ _ => (pg_name (i := 3) sc_law.nd (by rfl) (by first | exact Or.inl rfl | exact Or.inr rfl))) (fun _ _ _ _ _ => (pts_one (pt_cmpR op_notN1 (pe_call (ok_failing T) (hr.mono (by decide)) (by rfl) T.g_failing T.F_failing.kp T.b_failing .nil pass0 (pa_cons (pv 3) pa_nil)) pe_non (nomark _)))) (fun _ _ _ _ _ => (pv 3))) (pe_lst pa_nil) (nomark _))))) (pss_one (ps_ret pe_bl)) pss_nil)
      (pss_cons (ps_if (pt_cmpR (op_neK (K := K) hr.units) (pe_lc (own := [("word", 3)]) (g := gName 3) (by rfl) sc_law.nd (pi_tupK (K := K) (pe_call (ok_star_words T) (hr.mono (by decide)) (by rfl) T.g_star_words T.F_star_words.kp T.b_star_words .nil passF (pa_cons pe_int pa_nil))) (blkOk_by (own := [("word", 3)]) (N := N_law) (sc := defScope s_law) (by decide +kernel)) (fun _ _ _ _ _ => (pg_name (i := 3) sc_law.nd (by rfl) (by first | exact Or.inl rfl | exact Or.inr rfl))) (fun _ _ _ _ _ => (pts_one (pt_not (pt_val (pe_call (ok_is_let T) (hr.mono (by decide)) (by rfl) T.g_is_let T.F_is_let.kp T.b_is_let .nil pass0 (pa_cons (pv 3) pa_nil)))))) (fun _ _ _ _ _ => (pv 3))) (pe_lst (pa_cons pe_str pa_nil)) (nomark _)) (pss_one (ps_ret pe_bl)) pss_nil)
      (pss_cons (ps_for PassesOwn.never (by rfl) (pi_range1 (by rfl) T.z_range (pa_cons pe_int pa_nil)) (pg_name (i := 1) sc_law.nd (by rfl) (by first | exact Or.inl rfl | exact Or.inr rfl)) (pss_cons (ps_set (i := 2) sc_law.nd (by rfl) (by first | exact Or.inl rfl | exact Or.inr rfl) (pe_call (ok__law_begun T) (hr.mono (by decide)) (by rfl) T.g__law_begun T.F__law_begun.kp T.b__law_begun .nil pass0 (pa_cons (pv 0) (pa_cons (pv 1) pa_nil))))
      (pss_cons (ps_set (i := 3) sc_law.nd (by rfl) (by first | exact Or.inl rfl | exact Or.inr rfl) (pe_call (ok__law_word T) (hr.mono (by decide)) (by rfl) T.g__law_word T.F__law_word.kp T.b__law_word .nil pass0 (pa_cons (pv 2) (pa_cons pe_int pa_nil))))
      (pss_cons (ps_if (pt_not (pt_val (pe_call (ok__law_is_right T) (hr.mono (by decide)) (by rfl) T.g__law_is_right T.F__law_is_right.kp T.b__law_is_right .nil pass0 (pa_cons (pv 3) pa_nil)))) (pss_one (ps_ret pe_bl)) pss_nil)
      (pss_cons (ps_set (i := 4) sc_law.nd (by rfl) (by first | exact Or.inl rfl | exact Or.inr rfl) (pe_call (ok__law_of T) (hr.mono (by decide)) (by rfl) T.g__law_of T.F__law_of.kp T.b__law_of .nil pass0 (pa_cons (pv 2) (pa_cons (pe_lst (pa_cons pe_str (pa_cons pe_str (pa_cons pe_str (pa_cons pe_str (pa_cons (pe_call (ok__law_word T) (hr.mono (by decide)) (by rfl) T.g__law_word T.F__law_word.kp T.b__law_word .nil pass0 (pa_cons (pv 2) (pa_cons pe_int pa_nil))) pa_nil)))))) pa_nil))))
      (pss_cons (ps_set (i := 5) sc_law.nd (by rfl) (by first | exact Or.inl rfl | exact Or.inr rfl) (pe_call (ok__law_word T) (hr.mono (by decide)) (by rfl) T.g__law_word T.F__law_word.kp T.b__law_word .nil pass0 (pa_cons (pv 2) (pa_cons pe_int pa_nil))))
      (pss_cons (ps_if (pt_not (pt_val (pe_call (ok__law_is_right T) (hr.mono (by decide)) (by rfl) T.g__law_is_right T.F__law_is_right.kp T.b__law_is_right .nil pass0 (pa_cons (pv 4) pa_nil)))) (pss_one (ps_ret pe_bl)) pss_nil)
      (pss_one (ps_if (pt_cmpR op_gt (pe_callB (cl_len (K := K)) (by rfl) T.z_len (by decide +kernel) (pa_cons (pv 4) pa_nil)) pe_int (nomark _)) (pss_cons (ps_set (i := 6) sc_law.nd (by rfl) (by first | exact Or.inl rfl | exact Or.inr rfl) (pe_call (ok_copied_word T) (hr.mono (by decide)) (by rfl) T.g_copied_word T.F_copied_word.kp T.b_copied_word .nil passF (pa_cons (pv 4) (pa_cons (pv 5) pa_nil))))
      (pss_one (ps_if (PW.pt (pw_or (pt_not (pt_val (pe_call (ok__law_is_right T) (hr.mono (by decide)) (by rfl) T.g__law_is_right T.F__law_is_right.kp T.b__law_is_right .nil pass0 (pa_cons (pv 6) pa_nil)))) (pw_or1 (pt_cmpR op_ne (pe_call (ok_is_let T) (hr.mono (by decide)) (by rfl) T.g_is_let T.F_is_let.kp T.b_is_let .nil pass0 (pa_cons (pv 6) pa_nil)) (pe_call (ok_is_let T) (hr.mono (by decide)) (by rfl) T.g_is_let T.F_is_let.kp T.b_is_let .nil pass0 (pa_cons (pv 4) pa_nil)) (nomark _))))) (pss_one (ps_ret pe_bl)) pss_nil))) pss_nil)))))))))
      (pss_one (ps_ret pe_bl))))), ?_⟩
    rw [show start N_law [.ref a] = [some (.ref a), none, none, none, none, none, none] from rfl]
    rw [show Str.ofString "10110*" = Sg w10110 by decide +kernel, show Str.ofString "101101*" = Sg [49, 48, 49, 49, 48, 49, 42] by decide +kernel, show Str.ofString "1011001*" = Sg [49, 48, 49, 49, 48, 48, 49, 42] by decide +kernel, show Str.ofString "101100*" = Sg [49, 48, 49, 49, 48, 48, 42] by decide +kernel]
    try dsimp only [cxK]
    have hBig : ∀ n ∈ ns, Big n := fun n hn => Big.bits (hB n hn)
    have hst : StarW w10110 := starB_ok (by decide +kernel)
    walk_at "wp"
    refine ⟨w10110, rfl, hst, by decide, fun H1 e1 => ?_⟩
    rw [k61_a]
    dsimp only [ov]
    walk_at "wp"
    rw [decide_eq_true rfl]
    walk_at "wp"
    refine ⟨5, rfl, by decide, by decide, fun v2 H2 e2 d2 => ?_⟩
    have w5 := swL_len (n := 5) (by decide) (by decide)
    have b5 := List.all_eq_true.mp k61_b
    have w6 := swL_len (n := 6) (by decide) (by decide)
    have b6 := List.all_eq_true.mp k61_c
    refine lc_tup_by (K := K) (JP H2 fun i es => es = []) (JP.ok rfl) d2 (by rw [List.length_map]; omega) (fun _ => rfl) ?_ ?_
    · intro i d y H' es hd hy hJ Yes No hyes hno
      obtain ⟨s3, rfl⟩ := hJ
      rw [List.getElem?_map] at hd
      obtain ⟨b, hj, rfl⟩ := Option.map_eq_some_iff.mp hd
      cases hy
      have hb := List.mem_of_getElem? hj
      have hbb := b5 b hb
      rw [Bool.and_eq_true] at hbb
      walk_at "wp"
      refine ⟨b, rfl, starB_ok hbb.1, by have := w5.2 b hb; omega, fun H4 e4 => ?_⟩
      walk_at "wp"
      rw [ov_none, hbb.2]
      walk_at "wp"
      exact hno _ (Keep.of e4) ⟨s3.trans e4, rfl⟩
    · rintro p3 H3 vs3 es3 hn3 k3 hv3 dl3 ⟨s3, rfl⟩
      walk_at "wp"
      refine w_newL (K := K) (len_ok (by simp)) .nil fun p4 H4 n4 e4 f4 d4 => ?_
      refine w_neP (dp_same e4 dl3) d4 rfl rfl (fun _ => ?_) (fun h => absurd rfl h)
      walk_at "wp"
      refine ⟨6, rfl, by decide, by decide, fun v5 H5 e5 d5 => ?_⟩
      refine lc_tup_by (K := K) (JP H5 fun i es => es = (((swL 6).take i).filter fun s => !(failO s).isNone).map (fun s => PyData.str (Sg s))) (JP.ok rfl) d5 (by rw [List.length_map]; omega) (fun _ => rfl) ?_ ?_
      · intro i d y H' es hd hy hJ Yes No hyes hno
        obtain ⟨s6, rfl⟩ := hJ
        rw [List.getElem?_map] at hd
        obtain ⟨b, hj, rfl⟩ := Option.map_eq_some_iff.mp hd
        cases hy
        have hb := List.mem_of_getElem? hj
        walk_at "wp"
        refine ⟨b, rfl, starB_ok (b6 b hb), by have := w6.2 b hb; omega, fun H7 e7 => ?_⟩
        walk_at "wp"
        refine w_ite (fun e => ?_) (fun e => ?_)
        · walk_at "wp"
          refine hyes _ H7 (.str (Sg b)) (Keep.of e7) rfl (.str _) ⟨s6.trans e7, ?_⟩
          show _ = _
          rw [List.take_add_one, hj, List.filter_append, List.map_append, Option.toList, show List.filter (fun s => !(failO s).isNone) [b] = [b] from by rw [List.filter_cons, if_pos e]; rfl]
          rfl
        · refine hno _ (Keep.of e7) ⟨s6.trans e7, ?_⟩
          show _ = _
          rw [List.take_add_one, hj, List.filter_append, Option.toList, show List.filter (fun s => !(failO s).isNone) [b] = [] from by rw [List.filter_cons, if_neg (by rw [e]; exact Bool.false_ne_true)]; rfl, List.append_nil]
      · rintro p6 H6 vs6 es6 hn6 k6 hv6 dl6 ⟨s6, rfl⟩
        rw [List.length_map, List.take_length, k61_d] at dl6
        walk_at "wp"
        refine w_newL (K := K) (len_ok (by simp)) (dpa_one (.str (Sg w10110))) fun p7 H7 n7 e7 f7 d7 => ?_
        refine w_neP (dp_same e7 dl6) d7 (by decide +kernel) (by decide +kernel) (fun _ => ?_) (fun h => absurd rfl h)
        walk_at "wp"
        have k7 : Keep H H7 := Keep.of ((((((e1.trans e2).trans s3).trans e4).trans e5).trans s6).trans e7)
        refine forR1_by (fun i σ' H' => ∃ (y1 y2 y3 y4 y5 y6 : Option V), σ' = [some (.ref a), y1, y2, y3, y4, y5, y6] ∧ Keep H H') (by omega) ⟨none, none, none, none, none, none, rfl, k7⟩ ?_ ?_
        · rintro i σ' H' hi ⟨y1, y2, y3, y4, y5, y6, rfl, k0⟩
          walk_at "wp"
          refine ⟨a, ns, _, rfl, k0.seqL hS, hl, hBig, by omega, by omega, fun m c H1 e1 n1 m1 => ?_⟩
          walk_at "wp"
          refine ⟨m, c, 24, 0, rfl, by decide, by decide, m1, by decide, fun wl H2 hw hwl k2 m2 => ?_⟩
          walk_at "wp"
          refine ⟨wl, rfl, hw.star, by omega, fun H3 e3 => ?_⟩
          walk_at "wp"
          refine ⟨m, c, 8, _, rfl, by decide, by decide, m2.same e3, by decide, fun wb H4 hwb hwbl k4 m4 => ?_⟩
          walk_at "wp"
          refine w_newL (K := K) (len_ok (by simp)) (.cons (.str _) (.cons (.str _) (.cons (.str _) (.cons (.str _) (dpa_one (.str _)))))) fun p5 H5 n5 e5 f5 d5 => ?_
          walk_at "wp"
          refine ⟨m, c, _, _, _, rfl, d5, by simp, by simp, m4.same e5, by decide, fun y d H6 hd hy k6 m6 => ?_⟩
          have hd2 : d ∈ (four61 ++ [wb]).map (fun s => PyData.str (Sg s)) := by simpa [four61, w10110] using hd
          obtain ⟨b, hb, rfl⟩ := List.mem_map.mp hd2
          cases hy
          obtain ⟨hb1, hb2, hb3⟩ := base61 hwb (by omega) hb
          walk_at "wp"
          refine ⟨m, c, 3, _, rfl, by decide, by decide, m6, by decide, fun wo H7 hwo hwol k7 m7 => ?_⟩
          walk_at "wp"
          refine ⟨b, rfl, hb2.star, by omega, fun H8 e8 => ?_⟩
          have kall : Keep H H8 := (((((((k0.trans (Keep.of e1)).trans k2).trans (Keep.of e3)).trans k4).trans (Keep.of e5)).trans k6).trans k7).trans (Keep.of e8)
          walk_at "wp"
          refine w_iteD (fun hgt => ?_) (fun _ => ?_)
          · walk_at "wp"
            have hprod : b.length * wo.length ≤ 24 := Nat.le_trans (Nat.mul_le_mul hb3 (show wo.length ≤ 3 by omega)) (by decide)
            refine ⟨b, wo, rfl, hb2.star, hwo, hprod, by omega, by omega, fun H9 e9 => ?_⟩
            have hcl := copied_len b wo hb2.star.ne
            have hcs := copied_star hb2.star hwo
            walk_at "wp"
            refine ⟨_, rfl, hcs, by omega, fun H10 e10 => ?_⟩
            walk_at "wp"
            refine ⟨_, rfl, hcs, by omega, fun H11 e11 => ?_⟩
            walk_at "wp"
            refine ⟨b, rfl, hb2.star, by omega, fun H12 e12 => ?_⟩
            refine w_neB (fun _ => ?_) (fun h => absurd (let61 hb1 (by omega) hwo (by omega)) h)
            walk_at "wp"
            exact ⟨_, _, _, _, _, _, rfl, (((kall.trans (Keep.of e9)).trans (Keep.of e10)).trans (Keep.of e11)).trans (Keep.of e12)⟩
          · walk_at "wp"
            exact ⟨_, _, _, _, _, _, rfl, kall⟩
        · rintro σ' H' ⟨y1, y2, y3, y4, y5, y6, rfl, k0⟩
          walk_at "wp"
          exact q H'

end
end Tw
namespace Tw
open PySem PySem.Spec PyProof.Rows L2
set_option maxHeartbeats 4000000 in
def top_mk {K : PySem.W.Frag} {h : Heap} {mg : Str → Option Value} (X : K.In h) (G : h.Ns mainGlobals mg) {f_TooMany__init f_star_words f_next_unlike f_address f_upper_mark f_failing f_is_let f__fails f__rest f__comes_by f_copied_word f__law_begun f__law_draw f__law_of f__law_string f__law_mark_at f__law_unlike f__law_chain f__law_address f__law_fails_at f__law_failing f__law_word f__law_is_right f_law : Addr} {od_TooMany__init an_TooMany__init od_star_words an_star_words od_next_unlike an_next_unlike od_address an_address od_upper_mark an_upper_mark od_failing an_failing od_is_let an_is_let od__fails an__fails od__rest an__rest od__comes_by an__comes_by od_copied_word an_copied_word od__law_begun an__law_begun od__law_draw an__law_draw od__law_of an__law_of od__law_string an__law_string od__law_mark_at an__law_mark_at od__law_unlike an__law_unlike od__law_chain an__law_chain od__law_address an__law_address od__law_fails_at an__law_fails_at od__law_failing an__law_failing od__law_word an__law_word od__law_is_right an__law_is_right od_law an_law : Option Addr} {oc_TooMany__init kV_TooMany__init dc_TooMany__init pm_TooMany__init cd_TooMany__init ct_TooMany__init oc_star_words kV_star_words dc_star_words pm_star_words cd_star_words ct_star_words oc_next_unlike kV_next_unlike dc_next_unlike pm_next_unlike cd_next_unlike ct_next_unlike oc_address kV_address dc_address pm_address cd_address ct_address oc_upper_mark kV_upper_mark dc_upper_mark pm_upper_mark cd_upper_mark ct_upper_mark oc_failing kV_failing dc_failing pm_failing cd_failing ct_failing oc_is_let kV_is_let dc_is_let pm_is_let cd_is_let ct_is_let oc__fails kV__fails dc__fails pm__fails cd__fails ct__fails oc__rest kV__rest dc__rest pm__rest cd__rest ct__rest oc__comes_by kV__comes_by dc__comes_by pm__comes_by cd__comes_by ct__comes_by oc_copied_word kV_copied_word dc_copied_word pm_copied_word cd_copied_word ct_copied_word oc__law_begun kV__law_begun dc__law_begun pm__law_begun cd__law_begun ct__law_begun oc__law_draw kV__law_draw dc__law_draw pm__law_draw cd__law_draw ct__law_draw oc__law_of kV__law_of dc__law_of pm__law_of cd__law_of ct__law_of oc__law_string kV__law_string dc__law_string pm__law_string cd__law_string ct__law_string oc__law_mark_at kV__law_mark_at dc__law_mark_at pm__law_mark_at cd__law_mark_at ct__law_mark_at oc__law_unlike kV__law_unlike dc__law_unlike pm__law_unlike cd__law_unlike ct__law_unlike oc__law_chain kV__law_chain dc__law_chain pm__law_chain cd__law_chain ct__law_chain oc__law_address kV__law_address dc__law_address pm__law_address cd__law_address ct__law_address oc__law_fails_at kV__law_fails_at dc__law_fails_at pm__law_fails_at cd__law_fails_at ct__law_fails_at oc__law_failing kV__law_failing dc__law_failing pm__law_failing cd__law_failing ct__law_failing oc__law_word kV__law_word dc__law_word pm__law_word cd__law_word ct__law_word oc__law_is_right kV__law_is_right dc__law_is_right pm__law_is_right cd__law_is_right ct__law_is_right oc_law kV_law dc_law pm_law cd_law ct_law : Value} {sl_TooMany__init sl_star_words sl_next_unlike sl_address sl_upper_mark sl_failing sl_is_let sl__fails sl__rest sl__comes_by sl_copied_word sl__law_begun sl__law_draw sl__law_of sl__law_string sl__law_mark_at sl__law_unlike sl__law_chain sl__law_address sl__law_fails_at sl__law_failing sl__law_word sl__law_is_right sl_law : Array (Option Value)} {c_DialError N_DialError : Addr} {nm_DialError q_DialError : Str} {bs_DialError sub_DialError : List Value} {sn_DialError : List Str} {ab_DialError : Bool} {col_DialError : Option Bool} {dd_DialError : Option Addr} {m0_DialError m1_DialError m2_DialError m3_DialError m5_DialError : Option Value} {c_TooMany N_TooMany : Addr} {nm_TooMany q_TooMany : Str} {bs_TooMany sub_TooMany : List Value} {sn_TooMany : List Str} {ab_TooMany : Bool} {col_TooMany : Option Bool} {dd_TooMany : Option Addr} {m0_TooMany m1_TooMany m2_TooMany m3_TooMany m5_TooMany : Option Value} {t_MOST_CHARACTERS t_MOST_LISTED : Tok}
    (gc_DialError : PySem.W.nsIn K mainGlobals "DialError" = some (some (.ref c_DialError)))
    (xL_DialError : K.lookup c_DialError = some (excClassObj nm_DialError q_DialError c_DialError N_DialError bs_DialError ([.type "ValueError", .type "Exception", .type "BaseException", .type "object"]) true sn_DialError sub_DialError ab_DialError col_DialError dd_DialError m0_DialError m1_DialError m2_DialError m3_DialError m5_DialError "ValueError.__new__"))
    (sa_DialError : PySem.W.findIn K (.ref c_DialError) "__setattr__" = some (some (.builtin "object.__setattr__")))
    (eC_DialError : PySem.W.subIn K (.ref c_DialError) (.type "BaseException") = some true)
    (tC_DialError : PySem.W.typeIn K (.ref c_DialError) = some (.type "type"))
    (kC_DialError : PySem.W.keepIn K (.ref c_DialError) = true)
    (ga_DialError : PySem.W.findIn K (.ref c_DialError) "__getattribute__" = some (some (.builtin "BaseException.__getattribute__")))
    (gg_DialError : PySem.W.findIn K (.ref c_DialError) "__getattr__" = some none)
    (hC_DialError : PySem.W.hasDictIn K c_DialError = true)
    (ys_DialError : PySem.W.specialIn K (.ref c_DialError) "__getattribute__" = some (some (.builtin "type.__getattribute__")))
    (yr_DialError : PySem.W.readsIn K c_DialError (.type "type") = true)
    (yf_DialError : PySem.W.findCls K (.ref c_DialError) (.type "type") "__init__" = some (.val (.builtin "ValueError.__init__")))
    (gc_TooMany : PySem.W.nsIn K mainGlobals "TooMany" = some (some (.ref c_TooMany)))
    (xL_TooMany : K.lookup c_TooMany = some (excClassObj nm_TooMany q_TooMany c_TooMany N_TooMany bs_TooMany (.ref c_DialError :: [.type "ValueError", .type "Exception", .type "BaseException", .type "object"]) true sn_TooMany sub_TooMany ab_TooMany col_TooMany dd_TooMany m0_TooMany m1_TooMany m2_TooMany m3_TooMany m5_TooMany "ValueError.__new__"))
    (sa_TooMany : PySem.W.findIn K (.ref c_TooMany) "__setattr__" = some (some (.builtin "object.__setattr__")))
    (eC_TooMany : PySem.W.subIn K (.ref c_TooMany) (.type "BaseException") = some true)
    (tC_TooMany : PySem.W.typeIn K (.ref c_TooMany) = some (.type "type"))
    (kC_TooMany : PySem.W.keepIn K (.ref c_TooMany) = true)
    (ga_TooMany : PySem.W.findIn K (.ref c_TooMany) "__getattribute__" = some (some (.builtin "BaseException.__getattribute__")))
    (gg_TooMany : PySem.W.findIn K (.ref c_TooMany) "__getattr__" = some none)
    (hC_TooMany : PySem.W.hasDictIn K c_TooMany = true)
    (iC_TooMany : PySem.W.findIn K (.ref c_TooMany) "__init__" = some (some (.ref f_TooMany__init))) (tI_TooMany : PySem.W.typeIn K (.ref f_TooMany__init) = some (.type "function"))
    (n_TooMany_limit : PySem.W.findIn K (.ref c_TooMany) "limit" = some none)
    (l_TooMany__init : K.lookup f_TooMany__init = some ⟨oc_TooMany__init, od_TooMany__init, .func (PySem.W.fnOf "__init__" "TooMany.__init__" (defArgs s_TooMany__init) (defBody s_TooMany__init) (defScope s_TooMany__init) .none kV_TooMany__init dc_TooMany__init pm_TooMany__init an_TooMany__init cd_TooMany__init ct_TooMany__init), sl_TooMany__init⟩) (c_TooMany__init : PySem.W.codeIn K cd_TooMany__init "TooMany.__init__" = true) (k_TooMany__init : PySem.W.keepIn K (.ref f_TooMany__init) = true)
    (a_star_words : PySem.W.nsIn K mainGlobals "star_words" = some (some (.ref f_star_words)))
    (l_star_words : K.lookup f_star_words = some ⟨oc_star_words, od_star_words, .func (PySem.W.fnOf "star_words" "star_words" (defArgs s_star_words) (defBody s_star_words) (defScope s_star_words) .none kV_star_words dc_star_words pm_star_words an_star_words cd_star_words ct_star_words), sl_star_words⟩) (c_star_words : PySem.W.codeIn K cd_star_words "star_words" = true) (k_star_words : PySem.W.keepIn K (.ref f_star_words) = true)
    (a_next_unlike : PySem.W.nsIn K mainGlobals "next_unlike" = some (some (.ref f_next_unlike)))
    (l_next_unlike : K.lookup f_next_unlike = some ⟨oc_next_unlike, od_next_unlike, .func (PySem.W.fnOf "next_unlike" "next_unlike" (defArgs s_next_unlike) (defBody s_next_unlike) (defScope s_next_unlike) .none kV_next_unlike dc_next_unlike pm_next_unlike an_next_unlike cd_next_unlike ct_next_unlike), sl_next_unlike⟩) (c_next_unlike : PySem.W.codeIn K cd_next_unlike "next_unlike" = true) (k_next_unlike : PySem.W.keepIn K (.ref f_next_unlike) = true)
    (a_address : PySem.W.nsIn K mainGlobals "address" = some (some (.ref f_address)))
    (l_address : K.lookup f_address = some ⟨oc_address, od_address, .func (PySem.W.fnOf "address" "address" (defArgs s_address) (defBody s_address) (defScope s_address) .none kV_address dc_address pm_address an_address cd_address ct_address), sl_address⟩) (c_address : PySem.W.codeIn K cd_address "address" = true) (k_address : PySem.W.keepIn K (.ref f_address) = true)
    (a_upper_mark : PySem.W.nsIn K mainGlobals "upper_mark" = some (some (.ref f_upper_mark)))
    (l_upper_mark : K.lookup f_upper_mark = some ⟨oc_upper_mark, od_upper_mark, .func (PySem.W.fnOf "upper_mark" "upper_mark" (defArgs s_upper_mark) (defBody s_upper_mark) (defScope s_upper_mark) .none kV_upper_mark dc_upper_mark pm_upper_mark an_upper_mark cd_upper_mark ct_upper_mark), sl_upper_mark⟩) (c_upper_mark : PySem.W.codeIn K cd_upper_mark "upper_mark" = true) (k_upper_mark : PySem.W.keepIn K (.ref f_upper_mark) = true)
    (a_failing : PySem.W.nsIn K mainGlobals "failing" = some (some (.ref f_failing)))
    (l_failing : K.lookup f_failing = some ⟨oc_failing, od_failing, .func (PySem.W.fnOf "failing" "failing" (defArgs s_failing) (defBody s_failing) (defScope s_failing) .none kV_failing dc_failing pm_failing an_failing cd_failing ct_failing), sl_failing⟩) (c_failing : PySem.W.codeIn K cd_failing "failing" = true) (k_failing : PySem.W.keepIn K (.ref f_failing) = true)
    (a_is_let : PySem.W.nsIn K mainGlobals "is_let" = some (some (.ref f_is_let)))
    (l_is_let : K.lookup f_is_let = some ⟨oc_is_let, od_is_let, .func (PySem.W.fnOf "is_let" "is_let" (defArgs s_is_let) (defBody s_is_let) (defScope s_is_let) .none kV_is_let dc_is_let pm_is_let an_is_let cd_is_let ct_is_let), sl_is_let⟩) (c_is_let : PySem.W.codeIn K cd_is_let "is_let" = true) (k_is_let : PySem.W.keepIn K (.ref f_is_let) = true)
    (a__fails : PySem.W.nsIn K mainGlobals "_fails" = some (some (.ref f__fails)))
    (l__fails : K.lookup f__fails = some ⟨oc__fails, od__fails, .func (PySem.W.fnOf "_fails" "_fails" (defArgs s__fails) (defBody s__fails) (defScope s__fails) .none kV__fails dc__fails pm__fails an__fails cd__fails ct__fails), sl__fails⟩) (c__fails : PySem.W.codeIn K cd__fails "_fails" = true) (k__fails : PySem.W.keepIn K (.ref f__fails) = true)
    (a__rest : PySem.W.nsIn K mainGlobals "_rest" = some (some (.ref f__rest)))
    (l__rest : K.lookup f__rest = some ⟨oc__rest, od__rest, .func (PySem.W.fnOf "_rest" "_rest" (defArgs s__rest) (defBody s__rest) (defScope s__rest) .none kV__rest dc__rest pm__rest an__rest cd__rest ct__rest), sl__rest⟩) (c__rest : PySem.W.codeIn K cd__rest "_rest" = true) (k__rest : PySem.W.keepIn K (.ref f__rest) = true)
    (a__comes_by : PySem.W.nsIn K mainGlobals "_comes_by" = some (some (.ref f__comes_by)))
    (l__comes_by : K.lookup f__comes_by = some ⟨oc__comes_by, od__comes_by, .func (PySem.W.fnOf "_comes_by" "_comes_by" (defArgs s__comes_by) (defBody s__comes_by) (defScope s__comes_by) .none kV__comes_by dc__comes_by pm__comes_by an__comes_by cd__comes_by ct__comes_by), sl__comes_by⟩) (c__comes_by : PySem.W.codeIn K cd__comes_by "_comes_by" = true) (k__comes_by : PySem.W.keepIn K (.ref f__comes_by) = true)
    (a_copied_word : PySem.W.nsIn K mainGlobals "copied_word" = some (some (.ref f_copied_word)))
    (l_copied_word : K.lookup f_copied_word = some ⟨oc_copied_word, od_copied_word, .func (PySem.W.fnOf "copied_word" "copied_word" (defArgs s_copied_word) (defBody s_copied_word) (defScope s_copied_word) .none kV_copied_word dc_copied_word pm_copied_word an_copied_word cd_copied_word ct_copied_word), sl_copied_word⟩) (c_copied_word : PySem.W.codeIn K cd_copied_word "copied_word" = true) (k_copied_word : PySem.W.keepIn K (.ref f_copied_word) = true)
    (a__law_begun : PySem.W.nsIn K mainGlobals "_law_begun" = some (some (.ref f__law_begun)))
    (l__law_begun : K.lookup f__law_begun = some ⟨oc__law_begun, od__law_begun, .func (PySem.W.fnOf "_law_begun" "_law_begun" (defArgs s__law_begun) (defBody s__law_begun) (defScope s__law_begun) .none kV__law_begun dc__law_begun pm__law_begun an__law_begun cd__law_begun ct__law_begun), sl__law_begun⟩) (c__law_begun : PySem.W.codeIn K cd__law_begun "_law_begun" = true) (k__law_begun : PySem.W.keepIn K (.ref f__law_begun) = true)
    (a__law_draw : PySem.W.nsIn K mainGlobals "_law_draw" = some (some (.ref f__law_draw)))
    (l__law_draw : K.lookup f__law_draw = some ⟨oc__law_draw, od__law_draw, .func (PySem.W.fnOf "_law_draw" "_law_draw" (defArgs s__law_draw) (defBody s__law_draw) (defScope s__law_draw) .none kV__law_draw dc__law_draw pm__law_draw an__law_draw cd__law_draw ct__law_draw), sl__law_draw⟩) (c__law_draw : PySem.W.codeIn K cd__law_draw "_law_draw" = true) (k__law_draw : PySem.W.keepIn K (.ref f__law_draw) = true)
    (a__law_of : PySem.W.nsIn K mainGlobals "_law_of" = some (some (.ref f__law_of)))
    (l__law_of : K.lookup f__law_of = some ⟨oc__law_of, od__law_of, .func (PySem.W.fnOf "_law_of" "_law_of" (defArgs s__law_of) (defBody s__law_of) (defScope s__law_of) .none kV__law_of dc__law_of pm__law_of an__law_of cd__law_of ct__law_of), sl__law_of⟩) (c__law_of : PySem.W.codeIn K cd__law_of "_law_of" = true) (k__law_of : PySem.W.keepIn K (.ref f__law_of) = true)
    (a__law_string : PySem.W.nsIn K mainGlobals "_law_string" = some (some (.ref f__law_string)))
    (l__law_string : K.lookup f__law_string = some ⟨oc__law_string, od__law_string, .func (PySem.W.fnOf "_law_string" "_law_string" (defArgs s__law_string) (defBody s__law_string) (defScope s__law_string) .none kV__law_string dc__law_string pm__law_string an__law_string cd__law_string ct__law_string), sl__law_string⟩) (c__law_string : PySem.W.codeIn K cd__law_string "_law_string" = true) (k__law_string : PySem.W.keepIn K (.ref f__law_string) = true)
    (a__law_mark_at : PySem.W.nsIn K mainGlobals "_law_mark_at" = some (some (.ref f__law_mark_at)))
    (l__law_mark_at : K.lookup f__law_mark_at = some ⟨oc__law_mark_at, od__law_mark_at, .func (PySem.W.fnOf "_law_mark_at" "_law_mark_at" (defArgs s__law_mark_at) (defBody s__law_mark_at) (defScope s__law_mark_at) .none kV__law_mark_at dc__law_mark_at pm__law_mark_at an__law_mark_at cd__law_mark_at ct__law_mark_at), sl__law_mark_at⟩) (c__law_mark_at : PySem.W.codeIn K cd__law_mark_at "_law_mark_at" = true) (k__law_mark_at : PySem.W.keepIn K (.ref f__law_mark_at) = true)
    (a__law_unlike : PySem.W.nsIn K mainGlobals "_law_unlike" = some (some (.ref f__law_unlike)))
    (l__law_unlike : K.lookup f__law_unlike = some ⟨oc__law_unlike, od__law_unlike, .func (PySem.W.fnOf "_law_unlike" "_law_unlike" (defArgs s__law_unlike) (defBody s__law_unlike) (defScope s__law_unlike) .none kV__law_unlike dc__law_unlike pm__law_unlike an__law_unlike cd__law_unlike ct__law_unlike), sl__law_unlike⟩) (c__law_unlike : PySem.W.codeIn K cd__law_unlike "_law_unlike" = true) (k__law_unlike : PySem.W.keepIn K (.ref f__law_unlike) = true)
    (a__law_chain : PySem.W.nsIn K mainGlobals "_law_chain" = some (some (.ref f__law_chain)))
    (l__law_chain : K.lookup f__law_chain = some ⟨oc__law_chain, od__law_chain, .func (PySem.W.fnOf "_law_chain" "_law_chain" (defArgs s__law_chain) (defBody s__law_chain) (defScope s__law_chain) .none kV__law_chain dc__law_chain pm__law_chain an__law_chain cd__law_chain ct__law_chain), sl__law_chain⟩) (c__law_chain : PySem.W.codeIn K cd__law_chain "_law_chain" = true) (k__law_chain : PySem.W.keepIn K (.ref f__law_chain) = true)
    (a__law_address : PySem.W.nsIn K mainGlobals "_law_address" = some (some (.ref f__law_address)))
    (l__law_address : K.lookup f__law_address = some ⟨oc__law_address, od__law_address, .func (PySem.W.fnOf "_law_address" "_law_address" (defArgs s__law_address) (defBody s__law_address) (defScope s__law_address) .none kV__law_address dc__law_address pm__law_address an__law_address cd__law_address ct__law_address), sl__law_address⟩) (c__law_address : PySem.W.codeIn K cd__law_address "_law_address" = true) (k__law_address : PySem.W.keepIn K (.ref f__law_address) = true)
    (a__law_fails_at : PySem.W.nsIn K mainGlobals "_law_fails_at" = some (some (.ref f__law_fails_at)))
    (l__law_fails_at : K.lookup f__law_fails_at = some ⟨oc__law_fails_at, od__law_fails_at, .func (PySem.W.fnOf "_law_fails_at" "_law_fails_at" (defArgs s__law_fails_at) (defBody s__law_fails_at) (defScope s__law_fails_at) .none kV__law_fails_at dc__law_fails_at pm__law_fails_at an__law_fails_at cd__law_fails_at ct__law_fails_at), sl__law_fails_at⟩) (c__law_fails_at : PySem.W.codeIn K cd__law_fails_at "_law_fails_at" = true) (k__law_fails_at : PySem.W.keepIn K (.ref f__law_fails_at) = true)
    (a__law_failing : PySem.W.nsIn K mainGlobals "_law_failing" = some (some (.ref f__law_failing)))
    (l__law_failing : K.lookup f__law_failing = some ⟨oc__law_failing, od__law_failing, .func (PySem.W.fnOf "_law_failing" "_law_failing" (defArgs s__law_failing) (defBody s__law_failing) (defScope s__law_failing) .none kV__law_failing dc__law_failing pm__law_failing an__law_failing cd__law_failing ct__law_failing), sl__law_failing⟩) (c__law_failing : PySem.W.codeIn K cd__law_failing "_law_failing" = true) (k__law_failing : PySem.W.keepIn K (.ref f__law_failing) = true)
    (a__law_word : PySem.W.nsIn K mainGlobals "_law_word" = some (some (.ref f__law_word)))
    (l__law_word : K.lookup f__law_word = some ⟨oc__law_word, od__law_word, .func (PySem.W.fnOf "_law_word" "_law_word" (defArgs s__law_word) (defBody s__law_word) (defScope s__law_word) .none kV__law_word dc__law_word pm__law_word an__law_word cd__law_word ct__law_word), sl__law_word⟩) (c__law_word : PySem.W.codeIn K cd__law_word "_law_word" = true) (k__law_word : PySem.W.keepIn K (.ref f__law_word) = true)
    (a__law_is_right : PySem.W.nsIn K mainGlobals "_law_is_right" = some (some (.ref f__law_is_right)))
    (l__law_is_right : K.lookup f__law_is_right = some ⟨oc__law_is_right, od__law_is_right, .func (PySem.W.fnOf "_law_is_right" "_law_is_right" (defArgs s__law_is_right) (defBody s__law_is_right) (defScope s__law_is_right) .none kV__law_is_right dc__law_is_right pm__law_is_right an__law_is_right cd__law_is_right ct__law_is_right), sl__law_is_right⟩) (c__law_is_right : PySem.W.codeIn K cd__law_is_right "_law_is_right" = true) (k__law_is_right : PySem.W.keepIn K (.ref f__law_is_right) = true)
    (a_law : PySem.W.nsIn K mainGlobals "law" = some (some (.ref f_law)))
    (l_law : K.lookup f_law = some ⟨oc_law, od_law, .func (PySem.W.fnOf "law" "law" (defArgs s_law) (defBody s_law) (defScope s_law) .none kV_law dc_law pm_law an_law cd_law ct_law), sl_law⟩) (c_law : PySem.W.codeIn K cd_law "law" = true) (k_law : PySem.W.keepIn K (.ref f_law) = true)
    (z_any : PySem.W.nsIn K mainGlobals "any" = some none)
    (z_bool : PySem.W.nsIn K mainGlobals "bool" = some none)
    (z_int : PySem.W.nsIn K mainGlobals "int" = some none)
    (z_isinstance : PySem.W.nsIn K mainGlobals "isinstance" = some none)
    (z_len : PySem.W.nsIn K mainGlobals "len" = some none)
    (z_range : PySem.W.nsIn K mainGlobals "range" = some none)
    (z_str : PySem.W.nsIn K mainGlobals "str" = some none)
    (z_tuple : PySem.W.nsIn K mainGlobals "tuple" = some none)
    (c_MOST_CHARACTERS : PySem.W.nsIn K mainGlobals "MOST_CHARACTERS" = some (some (.int 24 t_MOST_CHARACTERS)))
    (c_MOST_LISTED : PySem.W.nsIn K mainGlobals "MOST_LISTED" = some (some (.int 12 t_MOST_LISTED))) : Top K mg :=
  { f_TooMany__init := f_TooMany__init, fd_TooMany__init := PySem.W.fnOf "__init__" "TooMany.__init__" (defArgs s_TooMany__init) (defBody s_TooMany__init) (defScope s_TooMany__init) .none kV_TooMany__init dc_TooMany__init pm_TooMany__init an_TooMany__init cd_TooMany__init ct_TooMany__init, F_TooMany__init := fun_mk (st := s_TooMany__init) l_TooMany__init c_TooMany__init k_TooMany__init, b_TooMany__init := (fun_mk (st := s_TooMany__init) l_TooMany__init c_TooMany__init k_TooMany__init).binds (ps := ["self", "limit"]) fun _ _ _ _ _ _ us hl => match us, hl with | [_, _], _ => rfl,
    g_star_words := PySem.W.mg_of X G a_star_words,
    f_star_words := f_star_words, fd_star_words := PySem.W.fnOf "star_words" "star_words" (defArgs s_star_words) (defBody s_star_words) (defScope s_star_words) .none kV_star_words dc_star_words pm_star_words an_star_words cd_star_words ct_star_words, F_star_words := fun_mk (st := s_star_words) l_star_words c_star_words k_star_words, b_star_words := (fun_mk (st := s_star_words) l_star_words c_star_words k_star_words).binds (ps := ["count"]) fun _ _ _ _ _ _ us hl => match us, hl with | [_], _ => rfl,
    g_next_unlike := PySem.W.mg_of X G a_next_unlike,
    f_next_unlike := f_next_unlike, fd_next_unlike := PySem.W.fnOf "next_unlike" "next_unlike" (defArgs s_next_unlike) (defBody s_next_unlike) (defScope s_next_unlike) .none kV_next_unlike dc_next_unlike pm_next_unlike an_next_unlike cd_next_unlike ct_next_unlike, F_next_unlike := fun_mk (st := s_next_unlike) l_next_unlike c_next_unlike k_next_unlike, b_next_unlike := (fun_mk (st := s_next_unlike) l_next_unlike c_next_unlike k_next_unlike).binds (ps := ["marks", "m"]) fun _ _ _ _ _ _ us hl => match us, hl with | [_, _], _ => rfl,
    g_address := PySem.W.mg_of X G a_address,
    f_address := f_address, fd_address := PySem.W.fnOf "address" "address" (defArgs s_address) (defBody s_address) (defScope s_address) .none kV_address dc_address pm_address an_address cd_address ct_address, F_address := fun_mk (st := s_address) l_address c_address k_address, b_address := (fun_mk (st := s_address) l_address c_address k_address).binds (ps := ["marks"]) fun _ _ _ _ _ _ us hl => match us, hl with | [_], _ => rfl,
    g_upper_mark := PySem.W.mg_of X G a_upper_mark,
    f_upper_mark := f_upper_mark, fd_upper_mark := PySem.W.fnOf "upper_mark" "upper_mark" (defArgs s_upper_mark) (defBody s_upper_mark) (defScope s_upper_mark) .none kV_upper_mark dc_upper_mark pm_upper_mark an_upper_mark cd_upper_mark ct_upper_mark, F_upper_mark := fun_mk (st := s_upper_mark) l_upper_mark c_upper_mark k_upper_mark, b_upper_mark := (fun_mk (st := s_upper_mark) l_upper_mark c_upper_mark k_upper_mark).binds (ps := ["word"]) fun _ _ _ _ _ _ us hl => match us, hl with | [_], _ => rfl,
    g_failing := PySem.W.mg_of X G a_failing,
    f_failing := f_failing, fd_failing := PySem.W.fnOf "failing" "failing" (defArgs s_failing) (defBody s_failing) (defScope s_failing) .none kV_failing dc_failing pm_failing an_failing cd_failing ct_failing, F_failing := fun_mk (st := s_failing) l_failing c_failing k_failing, b_failing := (fun_mk (st := s_failing) l_failing c_failing k_failing).binds (ps := ["word"]) fun _ _ _ _ _ _ us hl => match us, hl with | [_], _ => rfl,
    g_is_let := PySem.W.mg_of X G a_is_let,
    f_is_let := f_is_let, fd_is_let := PySem.W.fnOf "is_let" "is_let" (defArgs s_is_let) (defBody s_is_let) (defScope s_is_let) .none kV_is_let dc_is_let pm_is_let an_is_let cd_is_let ct_is_let, F_is_let := fun_mk (st := s_is_let) l_is_let c_is_let k_is_let, b_is_let := (fun_mk (st := s_is_let) l_is_let c_is_let k_is_let).binds (ps := ["word"]) fun _ _ _ _ _ _ us hl => match us, hl with | [_], _ => rfl,
    g__fails := PySem.W.mg_of X G a__fails,
    f__fails := f__fails, fd__fails := PySem.W.fnOf "_fails" "_fails" (defArgs s__fails) (defBody s__fails) (defScope s__fails) .none kV__fails dc__fails pm__fails an__fails cd__fails ct__fails, F__fails := fun_mk (st := s__fails) l__fails c__fails k__fails, b__fails := (fun_mk (st := s__fails) l__fails c__fails k__fails).binds (ps := ["word", "m"]) fun _ _ _ _ _ _ us hl => match us, hl with | [_, _], _ => rfl,
    g__rest := PySem.W.mg_of X G a__rest,
    f__rest := f__rest, fd__rest := PySem.W.fnOf "_rest" "_rest" (defArgs s__rest) (defBody s__rest) (defScope s__rest) .none kV__rest dc__rest pm__rest an__rest cd__rest ct__rest, F__rest := fun_mk (st := s__rest) l__rest c__rest k__rest, b__rest := (fun_mk (st := s__rest) l__rest c__rest k__rest).binds (ps := ["k", "m"]) fun _ _ _ _ _ _ us hl => match us, hl with | [_, _], _ => rfl,
    g__comes_by := PySem.W.mg_of X G a__comes_by,
    f__comes_by := f__comes_by, fd__comes_by := PySem.W.fnOf "_comes_by" "_comes_by" (defArgs s__comes_by) (defBody s__comes_by) (defScope s__comes_by) .none kV__comes_by dc__comes_by pm__comes_by an__comes_by cd__comes_by ct__comes_by, F__comes_by := fun_mk (st := s__comes_by) l__comes_by c__comes_by k__comes_by, b__comes_by := (fun_mk (st := s__comes_by) l__comes_by c__comes_by k__comes_by).binds (ps := ["word", "begun", "m"]) fun _ _ _ _ _ _ us hl => match us, hl with | [_, _, _], _ => rfl,
    g_copied_word := PySem.W.mg_of X G a_copied_word,
    f_copied_word := f_copied_word, fd_copied_word := PySem.W.fnOf "copied_word" "copied_word" (defArgs s_copied_word) (defBody s_copied_word) (defScope s_copied_word) .none kV_copied_word dc_copied_word pm_copied_word an_copied_word cd_copied_word ct_copied_word, F_copied_word := fun_mk (st := s_copied_word) l_copied_word c_copied_word k_copied_word, b_copied_word := (fun_mk (st := s_copied_word) l_copied_word c_copied_word k_copied_word).binds (ps := ["word", "other"]) fun _ _ _ _ _ _ us hl => match us, hl with | [_, _], _ => rfl,
    g__law_begun := PySem.W.mg_of X G a__law_begun,
    f__law_begun := f__law_begun, fd__law_begun := PySem.W.fnOf "_law_begun" "_law_begun" (defArgs s__law_begun) (defBody s__law_begun) (defScope s__law_begun) .none kV__law_begun dc__law_begun pm__law_begun an__law_begun cd__law_begun ct__law_begun, F__law_begun := fun_mk (st := s__law_begun) l__law_begun c__law_begun k__law_begun, b__law_begun := (fun_mk (st := s__law_begun) l__law_begun c__law_begun k__law_begun).binds (ps := ["script", "k"]) fun _ _ _ _ _ _ us hl => match us, hl with | [_, _], _ => rfl,
    g__law_draw := PySem.W.mg_of X G a__law_draw,
    f__law_draw := f__law_draw, fd__law_draw := PySem.W.fnOf "_law_draw" "_law_draw" (defArgs s__law_draw) (defBody s__law_draw) (defScope s__law_draw) .none kV__law_draw dc__law_draw pm__law_draw an__law_draw cd__law_draw ct__law_draw, F__law_draw := fun_mk (st := s__law_draw) l__law_draw c__law_draw k__law_draw, b__law_draw := (fun_mk (st := s__law_draw) l__law_draw c__law_draw k__law_draw).binds (ps := ["m", "below"]) fun _ _ _ _ _ _ us hl => match us, hl with | [_, _], _ => rfl,
    g__law_of := PySem.W.mg_of X G a__law_of,
    f__law_of := f__law_of, fd__law_of := PySem.W.fnOf "_law_of" "_law_of" (defArgs s__law_of) (defBody s__law_of) (defScope s__law_of) .none kV__law_of dc__law_of pm__law_of an__law_of cd__law_of ct__law_of, F__law_of := fun_mk (st := s__law_of) l__law_of c__law_of k__law_of, b__law_of := (fun_mk (st := s__law_of) l__law_of c__law_of k__law_of).binds (ps := ["m", "some"]) fun _ _ _ _ _ _ us hl => match us, hl with | [_, _], _ => rfl,
    g__law_string := PySem.W.mg_of X G a__law_string,
    f__law_string := f__law_string, fd__law_string := PySem.W.fnOf "_law_string" "_law_string" (defArgs s__law_string) (defBody s__law_string) (defScope s__law_string) .none kV__law_string dc__law_string pm__law_string an__law_string cd__law_string ct__law_string, F__law_string := fun_mk (st := s__law_string) l__law_string c__law_string k__law_string, b__law_string := (fun_mk (st := s__law_string) l__law_string c__law_string k__law_string).binds (ps := ["m", "size"]) fun _ _ _ _ _ _ us hl => match us, hl with | [_, _], _ => rfl,
    g__law_mark_at := PySem.W.mg_of X G a__law_mark_at,
    f__law_mark_at := f__law_mark_at, fd__law_mark_at := PySem.W.fnOf "_law_mark_at" "_law_mark_at" (defArgs s__law_mark_at) (defBody s__law_mark_at) (defScope s__law_mark_at) .none kV__law_mark_at dc__law_mark_at pm__law_mark_at an__law_mark_at cd__law_mark_at ct__law_mark_at, F__law_mark_at := fun_mk (st := s__law_mark_at) l__law_mark_at c__law_mark_at k__law_mark_at, b__law_mark_at := (fun_mk (st := s__law_mark_at) l__law_mark_at c__law_mark_at k__law_mark_at).binds (ps := ["marks", "k"]) fun _ _ _ _ _ _ us hl => match us, hl with | [_, _], _ => rfl,
    g__law_unlike := PySem.W.mg_of X G a__law_unlike,
    f__law_unlike := f__law_unlike, fd__law_unlike := PySem.W.fnOf "_law_unlike" "_law_unlike" (defArgs s__law_unlike) (defBody s__law_unlike) (defScope s__law_unlike) .none kV__law_unlike dc__law_unlike pm__law_unlike an__law_unlike cd__law_unlike ct__law_unlike, F__law_unlike := fun_mk (st := s__law_unlike) l__law_unlike c__law_unlike k__law_unlike, b__law_unlike := (fun_mk (st := s__law_unlike) l__law_unlike c__law_unlike k__law_unlike).binds (ps := ["marks", "m"]) fun _ _ _ _ _ _ us hl => match us, hl with | [_, _], _ => rfl,
    g__law_chain := PySem.W.mg_of X G a__law_chain,
    f__law_chain := f__law_chain, fd__law_chain := PySem.W.fnOf "_law_chain" "_law_chain" (defArgs s__law_chain) (defBody s__law_chain) (defScope s__law_chain) .none kV__law_chain dc__law_chain pm__law_chain an__law_chain cd__law_chain ct__law_chain, F__law_chain := fun_mk (st := s__law_chain) l__law_chain c__law_chain k__law_chain, b__law_chain := (fun_mk (st := s__law_chain) l__law_chain c__law_chain k__law_chain).binds (ps := ["marks", "begin", "most"]) fun _ _ _ _ _ _ us hl => match us, hl with | [_, _, _], _ => rfl,
    g__law_address := PySem.W.mg_of X G a__law_address,
    f__law_address := f__law_address, fd__law_address := PySem.W.fnOf "_law_address" "_law_address" (defArgs s__law_address) (defBody s__law_address) (defScope s__law_address) .none kV__law_address dc__law_address pm__law_address an__law_address cd__law_address ct__law_address, F__law_address := fun_mk (st := s__law_address) l__law_address c__law_address k__law_address, b__law_address := (fun_mk (st := s__law_address) l__law_address c__law_address k__law_address).binds (ps := ["marks"]) fun _ _ _ _ _ _ us hl => match us, hl with | [_], _ => rfl,
    g__law_fails_at := PySem.W.mg_of X G a__law_fails_at,
    f__law_fails_at := f__law_fails_at, fd__law_fails_at := PySem.W.fnOf "_law_fails_at" "_law_fails_at" (defArgs s__law_fails_at) (defBody s__law_fails_at) (defScope s__law_fails_at) .none kV__law_fails_at dc__law_fails_at pm__law_fails_at an__law_fails_at cd__law_fails_at ct__law_fails_at, F__law_fails_at := fun_mk (st := s__law_fails_at) l__law_fails_at c__law_fails_at k__law_fails_at, b__law_fails_at := (fun_mk (st := s__law_fails_at) l__law_fails_at c__law_fails_at k__law_fails_at).binds (ps := ["word", "m"]) fun _ _ _ _ _ _ us hl => match us, hl with | [_, _], _ => rfl,
    g__law_failing := PySem.W.mg_of X G a__law_failing,
    f__law_failing := f__law_failing, fd__law_failing := PySem.W.fnOf "_law_failing" "_law_failing" (defArgs s__law_failing) (defBody s__law_failing) (defScope s__law_failing) .none kV__law_failing dc__law_failing pm__law_failing an__law_failing cd__law_failing ct__law_failing, F__law_failing := fun_mk (st := s__law_failing) l__law_failing c__law_failing k__law_failing, b__law_failing := (fun_mk (st := s__law_failing) l__law_failing c__law_failing k__law_failing).binds (ps := ["word"]) fun _ _ _ _ _ _ us hl => match us, hl with | [_], _ => rfl,
    g__law_word := PySem.W.mg_of X G a__law_word,
    f__law_word := f__law_word, fd__law_word := PySem.W.fnOf "_law_word" "_law_word" (defArgs s__law_word) (defBody s__law_word) (defScope s__law_word) .none kV__law_word dc__law_word pm__law_word an__law_word cd__law_word ct__law_word, F__law_word := fun_mk (st := s__law_word) l__law_word c__law_word k__law_word, b__law_word := (fun_mk (st := s__law_word) l__law_word c__law_word k__law_word).binds (ps := ["m", "most"]) fun _ _ _ _ _ _ us hl => match us, hl with | [_, _], _ => rfl,
    g__law_is_right := PySem.W.mg_of X G a__law_is_right,
    f__law_is_right := f__law_is_right, fd__law_is_right := PySem.W.fnOf "_law_is_right" "_law_is_right" (defArgs s__law_is_right) (defBody s__law_is_right) (defScope s__law_is_right) .none kV__law_is_right dc__law_is_right pm__law_is_right an__law_is_right cd__law_is_right ct__law_is_right, F__law_is_right := fun_mk (st := s__law_is_right) l__law_is_right c__law_is_right k__law_is_right, b__law_is_right := (fun_mk (st := s__law_is_right) l__law_is_right c__law_is_right k__law_is_right).binds (ps := ["word"]) fun _ _ _ _ _ _ us hl => match us, hl with | [_], _ => rfl,
    g_law := PySem.W.mg_of X G a_law,
    f_law := f_law, fd_law := PySem.W.fnOf "law" "law" (defArgs s_law) (defBody s_law) (defScope s_law) .none kV_law dc_law pm_law an_law cd_law ct_law, F_law := fun_mk (st := s_law) l_law c_law k_law, b_law := (fun_mk (st := s_law) l_law c_law k_law).binds (ps := ["script"]) fun _ _ _ _ _ _ us hl => match us, hl with | [_], _ => rfl,
    c_DialError := c_DialError, gc_DialError := PySem.W.mg_of X G gc_DialError, x_DialError := ⟨⟨⟨_, _, _, _, _, _, _, _, _, _, _, _, _, _, _, xL_DialError, by rfl⟩, sa_DialError, eC_DialError, tC_DialError, kC_DialError⟩, ⟨ga_DialError, gg_DialError, eC_DialError, hC_DialError⟩⟩,
    y_DialError := ⟨ys_DialError, tC_DialError, yr_DialError, yf_DialError⟩,
    c_TooMany := c_TooMany, gc_TooMany := PySem.W.mg_of X G gc_TooMany, x_TooMany := ⟨⟨⟨_, _, _, _, _, _, _, _, _, _, _, _, _, _, _, xL_TooMany, by rfl⟩, sa_TooMany, eC_TooMany, tC_TooMany, kC_TooMany⟩, ⟨ga_TooMany, gg_TooMany, eC_TooMany, hC_TooMany⟩⟩,
    iC_TooMany := iC_TooMany, tI_TooMany := tI_TooMany,
    n_TooMany_limit := n_TooMany_limit,
    z_any := PySem.W.mg_none_of X G z_any,
    z_bool := PySem.W.mg_none_of X G z_bool,
    z_int := PySem.W.mg_none_of X G z_int,
    z_isinstance := PySem.W.mg_none_of X G z_isinstance,
    z_len := PySem.W.mg_none_of X G z_len,
    z_range := PySem.W.mg_none_of X G z_range,
    z_str := PySem.W.mg_none_of X G z_str,
    z_tuple := PySem.W.mg_none_of X G z_tuple,
    t_MOST_CHARACTERS := t_MOST_CHARACTERS, c_MOST_CHARACTERS := PySem.W.mg_of X G c_MOST_CHARACTERS,
    t_MOST_LISTED := t_MOST_LISTED, c_MOST_LISTED := PySem.W.mg_of X G c_MOST_LISTED }
theorem all_mk {l : PySem.W.OpenLaw} {w : World} {K : PySem.W.Frag} {h : Heap} {mg : Str → Option Value} {fa : Addr} (X : K.In h) (G : h.Ns mainGlobals mg) (hfa : mg "law" = some (.ref fa)) {f_TooMany__init f_star_words f_next_unlike f_address f_upper_mark f_failing f_is_let f__fails f__rest f__comes_by f_copied_word f__law_begun f__law_draw f__law_of f__law_string f__law_mark_at f__law_unlike f__law_chain f__law_address f__law_fails_at f__law_failing f__law_word f__law_is_right f_law : Addr} {od_TooMany__init an_TooMany__init od_star_words an_star_words od_next_unlike an_next_unlike od_address an_address od_upper_mark an_upper_mark od_failing an_failing od_is_let an_is_let od__fails an__fails od__rest an__rest od__comes_by an__comes_by od_copied_word an_copied_word od__law_begun an__law_begun od__law_draw an__law_draw od__law_of an__law_of od__law_string an__law_string od__law_mark_at an__law_mark_at od__law_unlike an__law_unlike od__law_chain an__law_chain od__law_address an__law_address od__law_fails_at an__law_fails_at od__law_failing an__law_failing od__law_word an__law_word od__law_is_right an__law_is_right od_law an_law : Option Addr} {oc_TooMany__init kV_TooMany__init dc_TooMany__init pm_TooMany__init cd_TooMany__init ct_TooMany__init oc_star_words kV_star_words dc_star_words pm_star_words cd_star_words ct_star_words oc_next_unlike kV_next_unlike dc_next_unlike pm_next_unlike cd_next_unlike ct_next_unlike oc_address kV_address dc_address pm_address cd_address ct_address oc_upper_mark kV_upper_mark dc_upper_mark pm_upper_mark cd_upper_mark ct_upper_mark oc_failing kV_failing dc_failing pm_failing cd_failing ct_failing oc_is_let kV_is_let dc_is_let pm_is_let cd_is_let ct_is_let oc__fails kV__fails dc__fails pm__fails cd__fails ct__fails oc__rest kV__rest dc__rest pm__rest cd__rest ct__rest oc__comes_by kV__comes_by dc__comes_by pm__comes_by cd__comes_by ct__comes_by oc_copied_word kV_copied_word dc_copied_word pm_copied_word cd_copied_word ct_copied_word oc__law_begun kV__law_begun dc__law_begun pm__law_begun cd__law_begun ct__law_begun oc__law_draw kV__law_draw dc__law_draw pm__law_draw cd__law_draw ct__law_draw oc__law_of kV__law_of dc__law_of pm__law_of cd__law_of ct__law_of oc__law_string kV__law_string dc__law_string pm__law_string cd__law_string ct__law_string oc__law_mark_at kV__law_mark_at dc__law_mark_at pm__law_mark_at cd__law_mark_at ct__law_mark_at oc__law_unlike kV__law_unlike dc__law_unlike pm__law_unlike cd__law_unlike ct__law_unlike oc__law_chain kV__law_chain dc__law_chain pm__law_chain cd__law_chain ct__law_chain oc__law_address kV__law_address dc__law_address pm__law_address cd__law_address ct__law_address oc__law_fails_at kV__law_fails_at dc__law_fails_at pm__law_fails_at cd__law_fails_at ct__law_fails_at oc__law_failing kV__law_failing dc__law_failing pm__law_failing cd__law_failing ct__law_failing oc__law_word kV__law_word dc__law_word pm__law_word cd__law_word ct__law_word oc__law_is_right kV__law_is_right dc__law_is_right pm__law_is_right cd__law_is_right ct__law_is_right oc_law kV_law dc_law pm_law cd_law ct_law : Value} {sl_TooMany__init sl_star_words sl_next_unlike sl_address sl_upper_mark sl_failing sl_is_let sl__fails sl__rest sl__comes_by sl_copied_word sl__law_begun sl__law_draw sl__law_of sl__law_string sl__law_mark_at sl__law_unlike sl__law_chain sl__law_address sl__law_fails_at sl__law_failing sl__law_word sl__law_is_right sl_law : Array (Option Value)} {c_DialError N_DialError : Addr} {nm_DialError q_DialError : Str} {bs_DialError sub_DialError : List Value} {sn_DialError : List Str} {ab_DialError : Bool} {col_DialError : Option Bool} {dd_DialError : Option Addr} {m0_DialError m1_DialError m2_DialError m3_DialError m5_DialError : Option Value} {c_TooMany N_TooMany : Addr} {nm_TooMany q_TooMany : Str} {bs_TooMany sub_TooMany : List Value} {sn_TooMany : List Str} {ab_TooMany : Bool} {col_TooMany : Option Bool} {dd_TooMany : Option Addr} {m0_TooMany m1_TooMany m2_TooMany m3_TooMany m5_TooMany : Option Value} {t_MOST_CHARACTERS t_MOST_LISTED : Tok}
    (gc_DialError : PySem.W.nsIn K mainGlobals "DialError" = some (some (.ref c_DialError)))
    (xL_DialError : K.lookup c_DialError = some (excClassObj nm_DialError q_DialError c_DialError N_DialError bs_DialError ([.type "ValueError", .type "Exception", .type "BaseException", .type "object"]) true sn_DialError sub_DialError ab_DialError col_DialError dd_DialError m0_DialError m1_DialError m2_DialError m3_DialError m5_DialError "ValueError.__new__"))
    (sa_DialError : PySem.W.findIn K (.ref c_DialError) "__setattr__" = some (some (.builtin "object.__setattr__")))
    (eC_DialError : PySem.W.subIn K (.ref c_DialError) (.type "BaseException") = some true)
    (tC_DialError : PySem.W.typeIn K (.ref c_DialError) = some (.type "type"))
    (kC_DialError : PySem.W.keepIn K (.ref c_DialError) = true)
    (ga_DialError : PySem.W.findIn K (.ref c_DialError) "__getattribute__" = some (some (.builtin "BaseException.__getattribute__")))
    (gg_DialError : PySem.W.findIn K (.ref c_DialError) "__getattr__" = some none)
    (hC_DialError : PySem.W.hasDictIn K c_DialError = true)
    (ys_DialError : PySem.W.specialIn K (.ref c_DialError) "__getattribute__" = some (some (.builtin "type.__getattribute__")))
    (yr_DialError : PySem.W.readsIn K c_DialError (.type "type") = true)
    (yf_DialError : PySem.W.findCls K (.ref c_DialError) (.type "type") "__init__" = some (.val (.builtin "ValueError.__init__")))
    (gc_TooMany : PySem.W.nsIn K mainGlobals "TooMany" = some (some (.ref c_TooMany)))
    (xL_TooMany : K.lookup c_TooMany = some (excClassObj nm_TooMany q_TooMany c_TooMany N_TooMany bs_TooMany (.ref c_DialError :: [.type "ValueError", .type "Exception", .type "BaseException", .type "object"]) true sn_TooMany sub_TooMany ab_TooMany col_TooMany dd_TooMany m0_TooMany m1_TooMany m2_TooMany m3_TooMany m5_TooMany "ValueError.__new__"))
    (sa_TooMany : PySem.W.findIn K (.ref c_TooMany) "__setattr__" = some (some (.builtin "object.__setattr__")))
    (eC_TooMany : PySem.W.subIn K (.ref c_TooMany) (.type "BaseException") = some true)
    (tC_TooMany : PySem.W.typeIn K (.ref c_TooMany) = some (.type "type"))
    (kC_TooMany : PySem.W.keepIn K (.ref c_TooMany) = true)
    (ga_TooMany : PySem.W.findIn K (.ref c_TooMany) "__getattribute__" = some (some (.builtin "BaseException.__getattribute__")))
    (gg_TooMany : PySem.W.findIn K (.ref c_TooMany) "__getattr__" = some none)
    (hC_TooMany : PySem.W.hasDictIn K c_TooMany = true)
    (iC_TooMany : PySem.W.findIn K (.ref c_TooMany) "__init__" = some (some (.ref f_TooMany__init))) (tI_TooMany : PySem.W.typeIn K (.ref f_TooMany__init) = some (.type "function"))
    (n_TooMany_limit : PySem.W.findIn K (.ref c_TooMany) "limit" = some none)
    (l_TooMany__init : K.lookup f_TooMany__init = some ⟨oc_TooMany__init, od_TooMany__init, .func (PySem.W.fnOf "__init__" "TooMany.__init__" (defArgs s_TooMany__init) (defBody s_TooMany__init) (defScope s_TooMany__init) .none kV_TooMany__init dc_TooMany__init pm_TooMany__init an_TooMany__init cd_TooMany__init ct_TooMany__init), sl_TooMany__init⟩) (c_TooMany__init : PySem.W.codeIn K cd_TooMany__init "TooMany.__init__" = true) (k_TooMany__init : PySem.W.keepIn K (.ref f_TooMany__init) = true)
    (a_star_words : PySem.W.nsIn K mainGlobals "star_words" = some (some (.ref f_star_words)))
    (l_star_words : K.lookup f_star_words = some ⟨oc_star_words, od_star_words, .func (PySem.W.fnOf "star_words" "star_words" (defArgs s_star_words) (defBody s_star_words) (defScope s_star_words) .none kV_star_words dc_star_words pm_star_words an_star_words cd_star_words ct_star_words), sl_star_words⟩) (c_star_words : PySem.W.codeIn K cd_star_words "star_words" = true) (k_star_words : PySem.W.keepIn K (.ref f_star_words) = true)
    (a_next_unlike : PySem.W.nsIn K mainGlobals "next_unlike" = some (some (.ref f_next_unlike)))
    (l_next_unlike : K.lookup f_next_unlike = some ⟨oc_next_unlike, od_next_unlike, .func (PySem.W.fnOf "next_unlike" "next_unlike" (defArgs s_next_unlike) (defBody s_next_unlike) (defScope s_next_unlike) .none kV_next_unlike dc_next_unlike pm_next_unlike an_next_unlike cd_next_unlike ct_next_unlike), sl_next_unlike⟩) (c_next_unlike : PySem.W.codeIn K cd_next_unlike "next_unlike" = true) (k_next_unlike : PySem.W.keepIn K (.ref f_next_unlike) = true)
    (a_address : PySem.W.nsIn K mainGlobals "address" = some (some (.ref f_address)))
    (l_address : K.lookup f_address = some ⟨oc_address, od_address, .func (PySem.W.fnOf "address" "address" (defArgs s_address) (defBody s_address) (defScope s_address) .none kV_address dc_address pm_address an_address cd_address ct_address), sl_address⟩) (c_address : PySem.W.codeIn K cd_address "address" = true) (k_address : PySem.W.keepIn K (.ref f_address) = true)
    (a_upper_mark : PySem.W.nsIn K mainGlobals "upper_mark" = some (some (.ref f_upper_mark)))
    (l_upper_mark : K.lookup f_upper_mark = some ⟨oc_upper_mark, od_upper_mark, .func (PySem.W.fnOf "upper_mark" "upper_mark" (defArgs s_upper_mark) (defBody s_upper_mark) (defScope s_upper_mark) .none kV_upper_mark dc_upper_mark pm_upper_mark an_upper_mark cd_upper_mark ct_upper_mark), sl_upper_mark⟩) (c_upper_mark : PySem.W.codeIn K cd_upper_mark "upper_mark" = true) (k_upper_mark : PySem.W.keepIn K (.ref f_upper_mark) = true)
    (a_failing : PySem.W.nsIn K mainGlobals "failing" = some (some (.ref f_failing)))
    (l_failing : K.lookup f_failing = some ⟨oc_failing, od_failing, .func (PySem.W.fnOf "failing" "failing" (defArgs s_failing) (defBody s_failing) (defScope s_failing) .none kV_failing dc_failing pm_failing an_failing cd_failing ct_failing), sl_failing⟩) (c_failing : PySem.W.codeIn K cd_failing "failing" = true) (k_failing : PySem.W.keepIn K (.ref f_failing) = true)
    (a_is_let : PySem.W.nsIn K mainGlobals "is_let" = some (some (.ref f_is_let)))
    (l_is_let : K.lookup f_is_let = some ⟨oc_is_let, od_is_let, .func (PySem.W.fnOf "is_let" "is_let" (defArgs s_is_let) (defBody s_is_let) (defScope s_is_let) .none kV_is_let dc_is_let pm_is_let an_is_let cd_is_let ct_is_let), sl_is_let⟩) (c_is_let : PySem.W.codeIn K cd_is_let "is_let" = true) (k_is_let : PySem.W.keepIn K (.ref f_is_let) = true)
    (a__fails : PySem.W.nsIn K mainGlobals "_fails" = some (some (.ref f__fails)))
    (l__fails : K.lookup f__fails = some ⟨oc__fails, od__fails, .func (PySem.W.fnOf "_fails" "_fails" (defArgs s__fails) (defBody s__fails) (defScope s__fails) .none kV__fails dc__fails pm__fails an__fails cd__fails ct__fails), sl__fails⟩) (c__fails : PySem.W.codeIn K cd__fails "_fails" = true) (k__fails : PySem.W.keepIn K (.ref f__fails) = true)
    (a__rest : PySem.W.nsIn K mainGlobals "_rest" = some (some (.ref f__rest)))
    (l__rest : K.lookup f__rest = some ⟨oc__rest, od__rest, .func (PySem.W.fnOf "_rest" "_rest" (defArgs s__rest) (defBody s__rest) (defScope s__rest) .none kV__rest dc__rest pm__rest an__rest cd__rest ct__rest), sl__rest⟩) (c__rest : PySem.W.codeIn K cd__rest "_rest" = true) (k__rest : PySem.W.keepIn K (.ref f__rest) = true)
    (a__comes_by : PySem.W.nsIn K mainGlobals "_comes_by" = some (some (.ref f__comes_by)))
    (l__comes_by : K.lookup f__comes_by = some ⟨oc__comes_by, od__comes_by, .func (PySem.W.fnOf "_comes_by" "_comes_by" (defArgs s__comes_by) (defBody s__comes_by) (defScope s__comes_by) .none kV__comes_by dc__comes_by pm__comes_by an__comes_by cd__comes_by ct__comes_by), sl__comes_by⟩) (c__comes_by : PySem.W.codeIn K cd__comes_by "_comes_by" = true) (k__comes_by : PySem.W.keepIn K (.ref f__comes_by) = true)
    (a_copied_word : PySem.W.nsIn K mainGlobals "copied_word" = some (some (.ref f_copied_word)))
    (l_copied_word : K.lookup f_copied_word = some ⟨oc_copied_word, od_copied_word, .func (PySem.W.fnOf "copied_word" "copied_word" (defArgs s_copied_word) (defBody s_copied_word) (defScope s_copied_word) .none kV_copied_word dc_copied_word pm_copied_word an_copied_word cd_copied_word ct_copied_word), sl_copied_word⟩) (c_copied_word : PySem.W.codeIn K cd_copied_word "copied_word" = true) (k_copied_word : PySem.W.keepIn K (.ref f_copied_word) = true)
    (a__law_begun : PySem.W.nsIn K mainGlobals "_law_begun" = some (some (.ref f__law_begun)))
    (l__law_begun : K.lookup f__law_begun = some ⟨oc__law_begun, od__law_begun, .func (PySem.W.fnOf "_law_begun" "_law_begun" (defArgs s__law_begun) (defBody s__law_begun) (defScope s__law_begun) .none kV__law_begun dc__law_begun pm__law_begun an__law_begun cd__law_begun ct__law_begun), sl__law_begun⟩) (c__law_begun : PySem.W.codeIn K cd__law_begun "_law_begun" = true) (k__law_begun : PySem.W.keepIn K (.ref f__law_begun) = true)
    (a__law_draw : PySem.W.nsIn K mainGlobals "_law_draw" = some (some (.ref f__law_draw)))
    (l__law_draw : K.lookup f__law_draw = some ⟨oc__law_draw, od__law_draw, .func (PySem.W.fnOf "_law_draw" "_law_draw" (defArgs s__law_draw) (defBody s__law_draw) (defScope s__law_draw) .none kV__law_draw dc__law_draw pm__law_draw an__law_draw cd__law_draw ct__law_draw), sl__law_draw⟩) (c__law_draw : PySem.W.codeIn K cd__law_draw "_law_draw" = true) (k__law_draw : PySem.W.keepIn K (.ref f__law_draw) = true)
    (a__law_of : PySem.W.nsIn K mainGlobals "_law_of" = some (some (.ref f__law_of)))
    (l__law_of : K.lookup f__law_of = some ⟨oc__law_of, od__law_of, .func (PySem.W.fnOf "_law_of" "_law_of" (defArgs s__law_of) (defBody s__law_of) (defScope s__law_of) .none kV__law_of dc__law_of pm__law_of an__law_of cd__law_of ct__law_of), sl__law_of⟩) (c__law_of : PySem.W.codeIn K cd__law_of "_law_of" = true) (k__law_of : PySem.W.keepIn K (.ref f__law_of) = true)
    (a__law_string : PySem.W.nsIn K mainGlobals "_law_string" = some (some (.ref f__law_string)))
    (l__law_string : K.lookup f__law_string = some ⟨oc__law_string, od__law_string, .func (PySem.W.fnOf "_law_string" "_law_string" (defArgs s__law_string) (defBody s__law_string) (defScope s__law_string) .none kV__law_string dc__law_string pm__law_string an__law_string cd__law_string ct__law_string), sl__law_string⟩) (c__law_string : PySem.W.codeIn K cd__law_string "_law_string" = true) (k__law_string : PySem.W.keepIn K (.ref f__law_string) = true)
    (a__law_mark_at : PySem.W.nsIn K mainGlobals "_law_mark_at" = some (some (.ref f__law_mark_at)))
    (l__law_mark_at : K.lookup f__law_mark_at = some ⟨oc__law_mark_at, od__law_mark_at, .func (PySem.W.fnOf "_law_mark_at" "_law_mark_at" (defArgs s__law_mark_at) (defBody s__law_mark_at) (defScope s__law_mark_at) .none kV__law_mark_at dc__law_mark_at pm__law_mark_at an__law_mark_at cd__law_mark_at ct__law_mark_at), sl__law_mark_at⟩) (c__law_mark_at : PySem.W.codeIn K cd__law_mark_at "_law_mark_at" = true) (k__law_mark_at : PySem.W.keepIn K (.ref f__law_mark_at) = true)
    (a__law_unlike : PySem.W.nsIn K mainGlobals "_law_unlike" = some (some (.ref f__law_unlike)))
    (l__law_unlike : K.lookup f__law_unlike = some ⟨oc__law_unlike, od__law_unlike, .func (PySem.W.fnOf "_law_unlike" "_law_unlike" (defArgs s__law_unlike) (defBody s__law_unlike) (defScope s__law_unlike) .none kV__law_unlike dc__law_unlike pm__law_unlike an__law_unlike cd__law_unlike ct__law_unlike), sl__law_unlike⟩) (c__law_unlike : PySem.W.codeIn K cd__law_unlike "_law_unlike" = true) (k__law_unlike : PySem.W.keepIn K (.ref f__law_unlike) = true)
    (a__law_chain : PySem.W.nsIn K mainGlobals "_law_chain" = some (some (.ref f__law_chain)))
    (l__law_chain : K.lookup f__law_chain = some ⟨oc__law_chain, od__law_chain, .func (PySem.W.fnOf "_law_chain" "_law_chain" (defArgs s__law_chain) (defBody s__law_chain) (defScope s__law_chain) .none kV__law_chain dc__law_chain pm__law_chain an__law_chain cd__law_chain ct__law_chain), sl__law_chain⟩) (c__law_chain : PySem.W.codeIn K cd__law_chain "_law_chain" = true) (k__law_chain : PySem.W.keepIn K (.ref f__law_chain) = true)
    (a__law_address : PySem.W.nsIn K mainGlobals "_law_address" = some (some (.ref f__law_address)))
    (l__law_address : K.lookup f__law_address = some ⟨oc__law_address, od__law_address, .func (PySem.W.fnOf "_law_address" "_law_address" (defArgs s__law_address) (defBody s__law_address) (defScope s__law_address) .none kV__law_address dc__law_address pm__law_address an__law_address cd__law_address ct__law_address), sl__law_address⟩) (c__law_address : PySem.W.codeIn K cd__law_address "_law_address" = true) (k__law_address : PySem.W.keepIn K (.ref f__law_address) = true)
    (a__law_fails_at : PySem.W.nsIn K mainGlobals "_law_fails_at" = some (some (.ref f__law_fails_at)))
    (l__law_fails_at : K.lookup f__law_fails_at = some ⟨oc__law_fails_at, od__law_fails_at, .func (PySem.W.fnOf "_law_fails_at" "_law_fails_at" (defArgs s__law_fails_at) (defBody s__law_fails_at) (defScope s__law_fails_at) .none kV__law_fails_at dc__law_fails_at pm__law_fails_at an__law_fails_at cd__law_fails_at ct__law_fails_at), sl__law_fails_at⟩) (c__law_fails_at : PySem.W.codeIn K cd__law_fails_at "_law_fails_at" = true) (k__law_fails_at : PySem.W.keepIn K (.ref f__law_fails_at) = true)
    (a__law_failing : PySem.W.nsIn K mainGlobals "_law_failing" = some (some (.ref f__law_failing)))
    (l__law_failing : K.lookup f__law_failing = some ⟨oc__law_failing, od__law_failing, .func (PySem.W.fnOf "_law_failing" "_law_failing" (defArgs s__law_failing) (defBody s__law_failing) (defScope s__law_failing) .none kV__law_failing dc__law_failing pm__law_failing an__law_failing cd__law_failing ct__law_failing), sl__law_failing⟩) (c__law_failing : PySem.W.codeIn K cd__law_failing "_law_failing" = true) (k__law_failing : PySem.W.keepIn K (.ref f__law_failing) = true)
    (a__law_word : PySem.W.nsIn K mainGlobals "_law_word" = some (some (.ref f__law_word)))
    (l__law_word : K.lookup f__law_word = some ⟨oc__law_word, od__law_word, .func (PySem.W.fnOf "_law_word" "_law_word" (defArgs s__law_word) (defBody s__law_word) (defScope s__law_word) .none kV__law_word dc__law_word pm__law_word an__law_word cd__law_word ct__law_word), sl__law_word⟩) (c__law_word : PySem.W.codeIn K cd__law_word "_law_word" = true) (k__law_word : PySem.W.keepIn K (.ref f__law_word) = true)
    (a__law_is_right : PySem.W.nsIn K mainGlobals "_law_is_right" = some (some (.ref f__law_is_right)))
    (l__law_is_right : K.lookup f__law_is_right = some ⟨oc__law_is_right, od__law_is_right, .func (PySem.W.fnOf "_law_is_right" "_law_is_right" (defArgs s__law_is_right) (defBody s__law_is_right) (defScope s__law_is_right) .none kV__law_is_right dc__law_is_right pm__law_is_right an__law_is_right cd__law_is_right ct__law_is_right), sl__law_is_right⟩) (c__law_is_right : PySem.W.codeIn K cd__law_is_right "_law_is_right" = true) (k__law_is_right : PySem.W.keepIn K (.ref f__law_is_right) = true)
    (a_law : PySem.W.nsIn K mainGlobals "law" = some (some (.ref f_law)))
    (l_law : K.lookup f_law = some ⟨oc_law, od_law, .func (PySem.W.fnOf "law" "law" (defArgs s_law) (defBody s_law) (defScope s_law) .none kV_law dc_law pm_law an_law cd_law ct_law), sl_law⟩) (c_law : PySem.W.codeIn K cd_law "law" = true) (k_law : PySem.W.keepIn K (.ref f_law) = true)
    (z_any : PySem.W.nsIn K mainGlobals "any" = some none)
    (z_bool : PySem.W.nsIn K mainGlobals "bool" = some none)
    (z_int : PySem.W.nsIn K mainGlobals "int" = some none)
    (z_isinstance : PySem.W.nsIn K mainGlobals "isinstance" = some none)
    (z_len : PySem.W.nsIn K mainGlobals "len" = some none)
    (z_range : PySem.W.nsIn K mainGlobals "range" = some none)
    (z_str : PySem.W.nsIn K mainGlobals "str" = some none)
    (z_tuple : PySem.W.nsIn K mainGlobals "tuple" = some none)
    (c_MOST_CHARACTERS : PySem.W.nsIn K mainGlobals "MOST_CHARACTERS" = some (some (.int 24 t_MOST_CHARACTERS)))
    (c_MOST_LISTED : PySem.W.nsIn K mainGlobals "MOST_LISTED" = some (some (.int 12 t_MOST_LISTED))) :
    ∃ fd : FuncData, (∀ (s : Shared) (v : Value), BindsTo s fd ⟨[v], []⟩ [("script", v)]) ∧ ∀ base : Heap, K.In base → base.Ns mainGlobals mg → FnOk l.prog w K mg base CX0 8 fa fd ["script"] (sp_law K) := by
  have e := hfa.symm.trans (PySem.W.mg_of X G a_law)
  cases e
  exact ⟨_, fun s v => .of_eq rfl, fun base _ _ => ok_law (top_mk X G gc_DialError xL_DialError sa_DialError eC_DialError tC_DialError kC_DialError ga_DialError gg_DialError hC_DialError ys_DialError yr_DialError yf_DialError gc_TooMany xL_TooMany sa_TooMany eC_TooMany tC_TooMany kC_TooMany ga_TooMany gg_TooMany hC_TooMany iC_TooMany tI_TooMany n_TooMany_limit l_TooMany__init c_TooMany__init k_TooMany__init a_star_words l_star_words c_star_words k_star_words a_next_unlike l_next_unlike c_next_unlike k_next_unlike a_address l_address c_address k_address a_upper_mark l_upper_mark c_upper_mark k_upper_mark a_failing l_failing c_failing k_failing a_is_let l_is_let c_is_let k_is_let a__fails l__fails c__fails k__fails a__rest l__rest c__rest k__rest a__comes_by l__comes_by c__comes_by k__comes_by a_copied_word l_copied_word c_copied_word k_copied_word a__law_begun l__law_begun c__law_begun k__law_begun a__law_draw l__law_draw c__law_draw k__law_draw a__law_of l__law_of c__law_of k__law_of a__law_string l__law_string c__law_string k__law_string a__law_mark_at l__law_mark_at c__law_mark_at k__law_mark_at a__law_unlike l__law_unlike c__law_unlike k__law_unlike a__law_chain l__law_chain c__law_chain k__law_chain a__law_address l__law_address c__law_address k__law_address a__law_fails_at l__law_fails_at c__law_fails_at k__law_fails_at a__law_failing l__law_failing c__law_failing k__law_failing a__law_word l__law_word c__law_word k__law_word a__law_is_right l__law_is_right c__law_is_right k__law_is_right a_law l_law c_law k_law z_any z_bool z_int z_isinstance z_len z_range z_str z_tuple c_MOST_CHARACTERS c_MOST_LISTED)⟩
end Tw
open PySem PySem.W PyProof.Rows
set_option maxHeartbeats 0 in
theorem PySem.Challenge.cw_twicedial_k61_failing_numbers_holds : PySem.Challenge.rw_twicedial_k61_failing_numbers.Holds := by
  w_on; o_law; k_head; (case hw => w_witness2)
  k_fill
  refine L2.walk_ofB (l := PySem.Challenge.rw_twicedial_k61_failing_numbers) (n := 63) (k := 8) (x := "script") (CX := fun _ => L2.CX0) (sp := fun w => Tw.sp_law _) rfl (by decide) rfl ⟨rfl, by decide, by decide⟩ (fun w h Y => PySem.W.kIn_of Y) ?F (fun _ _ a ns hl hb _ hS => ⟨a, ns, rfl, hS, hl, hb, fun _ => rfl⟩) (fun _ _ _ _ _ h => h)
  case F =>
    intro w mg fa h KX G hmg
    refine' Tw.all_mk KX G hmg ?gc_DialError ?xL_DialError ?sa_DialError ?eC_DialError ?tC_DialError ?kC_DialError ?ga_DialError ?gg_DialError ?hC_DialError ?ys_DialError ?yr_DialError ?yf_DialError ?gc_TooMany ?xL_TooMany ?sa_TooMany ?eC_TooMany ?tC_TooMany ?kC_TooMany ?ga_TooMany ?gg_TooMany ?hC_TooMany ?iC_TooMany ?tI_TooMany ?n_TooMany_limit ?l_TooMany__init ?c_TooMany__init ?k_TooMany__init ?a_star_words ?l_star_words ?c_star_words ?k_star_words ?a_next_unlike ?l_next_unlike ?c_next_unlike ?k_next_unlike ?a_address ?l_address ?c_address ?k_address ?a_upper_mark ?l_upper_mark ?c_upper_mark ?k_upper_mark ?a_failing ?l_failing ?c_failing ?k_failing ?a_is_let ?l_is_let ?c_is_let ?k_is_let ?a__fails ?l__fails ?c__fails ?k__fails ?a__rest ?l__rest ?c__rest ?k__rest ?a__comes_by ?l__comes_by ?c__comes_by ?k__comes_by ?a_copied_word ?l_copied_word ?c_copied_word ?k_copied_word ?a__law_begun ?l__law_begun ?c__law_begun ?k__law_begun ?a__law_draw ?l__law_draw ?c__law_draw ?k__law_draw ?a__law_of ?l__law_of ?c__law_of ?k__law_of ?a__law_string ?l__law_string ?c__law_string ?k__law_string ?a__law_mark_at ?l__law_mark_at ?c__law_mark_at ?k__law_mark_at ?a__law_unlike ?l__law_unlike ?c__law_unlike ?k__law_unlike ?a__law_chain ?l__law_chain ?c__law_chain ?k__law_chain ?a__law_address ?l__law_address ?c__law_address ?k__law_address ?a__law_fails_at ?l__law_fails_at ?c__law_fails_at ?k__law_fails_at ?a__law_failing ?l__law_failing ?c__law_failing ?k__law_failing ?a__law_word ?l__law_word ?c__law_word ?k__law_word ?a__law_is_right ?l__law_is_right ?c__law_is_right ?k__law_is_right ?a_law ?l_law ?c_law ?k_law ?z_any ?z_bool ?z_int ?z_isinstance ?z_len ?z_range ?z_str ?z_tuple ?c_MOST_CHARACTERS ?c_MOST_LISTED
    (case gc_DialError => k_is); (case xL_DialError => k_is); (case sa_DialError => k_is); (case eC_DialError => k_is); (case tC_DialError => k_is); (case kC_DialError => k_is); (case ga_DialError => k_is); (case gg_DialError => k_is); (case hC_DialError => k_is); (case ys_DialError => k_is); (case yr_DialError => k_is); (case yf_DialError => k_is); (case gc_TooMany => k_is); (case xL_TooMany => k_is); (case sa_TooMany => k_is); (case eC_TooMany => k_is); (case tC_TooMany => k_is); (case kC_TooMany => k_is); (case ga_TooMany => k_is); (case gg_TooMany => k_is); (case hC_TooMany => k_is); (case iC_TooMany => k_is); (case tI_TooMany => k_is); (case n_TooMany_limit => k_is); (case l_TooMany__init => k_is); (case c_TooMany__init => k_is); (case k_TooMany__init => k_is); (case a_star_words => k_is); (case l_star_words => k_is); (case c_star_words => k_is); (case k_star_words => k_is); (case a_next_unlike => k_is); (case l_next_unlike => k_is); (case c_next_unlike => k_is); (case k_next_unlike => k_is); (case a_address => k_is); (case l_address => k_is); (case c_address => k_is); (case k_address => k_is); (case a_upper_mark => k_is); (case l_upper_mark => k_is); (case c_upper_mark => k_is); (case k_upper_mark => k_is); (case a_failing => k_is); (case l_failing => k_is); (case c_failing => k_is); (case k_failing => k_is); (case a_is_let => k_is); (case l_is_let => k_is); (case c_is_let => k_is); (case k_is_let => k_is); (case a__fails => k_is); (case l__fails => k_is); (case c__fails => k_is); (case k__fails => k_is); (case a__rest => k_is); (case l__rest => k_is); (case c__rest => k_is); (case k__rest => k_is); (case a__comes_by => k_is); (case l__comes_by => k_is); (case c__comes_by => k_is); (case k__comes_by => k_is); (case a_copied_word => k_is); (case l_copied_word => k_is); (case c_copied_word => k_is); (case k_copied_word => k_is); (case a__law_begun => k_is); (case l__law_begun => k_is); (case c__law_begun => k_is); (case k__law_begun => k_is); (case a__law_draw => k_is); (case l__law_draw => k_is); (case c__law_draw => k_is); (case k__law_draw => k_is); (case a__law_of => k_is); (case l__law_of => k_is); (case c__law_of => k_is); (case k__law_of => k_is); (case a__law_string => k_is); (case l__law_string => k_is); (case c__law_string => k_is); (case k__law_string => k_is); (case a__law_mark_at => k_is); (case l__law_mark_at => k_is); (case c__law_mark_at => k_is); (case k__law_mark_at => k_is); (case a__law_unlike => k_is); (case l__law_unlike => k_is); (case c__law_unlike => k_is); (case k__law_unlike => k_is); (case a__law_chain => k_is); (case l__law_chain => k_is); (case c__law_chain => k_is); (case k__law_chain => k_is); (case a__law_address => k_is); (case l__law_address => k_is); (case c__law_address => k_is); (case k__law_address => k_is); (case a__law_fails_at => k_is); (case l__law_fails_at => k_is); (case c__law_fails_at => k_is); (case k__law_fails_at => k_is); (case a__law_failing => k_is); (case l__law_failing => k_is); (case c__law_failing => k_is); (case k__law_failing => k_is); (case a__law_word => k_is); (case l__law_word => k_is); (case c__law_word => k_is); (case k__law_word => k_is); (case a__law_is_right => k_is); (case l__law_is_right => k_is); (case c__law_is_right => k_is); (case k__law_is_right => k_is); (case a_law => k_is); (case l_law => k_is); (case c_law => k_is); (case k_law => k_is); (case z_any => k_is); (case z_bool => k_is); (case z_int => k_is); (case z_isinstance => k_is); (case z_len => k_is); (case z_range => k_is); (case z_str => k_is); (case z_tuple => k_is); (case c_MOST_CHARACTERS => k_is); (case c_MOST_LISTED => k_is)
