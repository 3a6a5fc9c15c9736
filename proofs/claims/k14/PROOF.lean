import PyProof.Rows.All
import Wide.All
import OpenK.AllK
import Wide.FinOn
import HandS.ForMost
import HandS.Wide
import HandS.WideBits
import HandS.Gcd
import HandS.EndBits
import HandS.Steps
import HandS.Style
import HandS.IsInst
import HandS.StrMore
import PySem.Challenge.RW_twicedial_k14_rows_in_least_form
set_option Elab.async false
set_option linter.all false
set_option maxRecDepth 100000
set_option maxHeartbeats 8000000
namespace Tw
open PySem PySem.Spec PyProof.Rows L2
/-! ### heaps: what stays -/
/-- all tracked objects but dicts stay -/
def Keep (H H' : Hp) : Prop := ∀ b o, (∀ kvs, o ≠ .dK kvs) → H b = some o → H' b = some o
theorem Keep.refl (H : Hp) : Keep H H := fun _ _ _ h => h
theorem Keep.of {H H' : Hp} (e : Same H H') : Keep H H' := fun b o _ h => e b o h
theorem Keep.trans {H H1 H2 : Hp} (a : Keep H H1) (b : Keep H1 H2) : Keep H H2 := fun c o n h => b c o n (a c o n h)
theorem Keep.rd {H H' : Hp} {a : Addr} {u : HO} (e : Keep H H') (n : ∀ kvs, u ≠ .dK kvs) (h : Rd H a u) : Rd H' a u := by
  rcases h with h | ⟨o, h⟩
  · exact .inl (e a _ n h)
  · exact .inr ⟨o, e a _ (fun kvs z => nomatch z) h⟩
theorem Keep.seqL {K : PySem.W.Frag} {H H' : Hp} {a : Addr} {xs : List V} (e : Keep H H') (h : SqL K H a xs) : SqL K H' a xs := by
  rcases h with h | h
  · exact .inl (e.rd (fun _ z => nomatch z) h)
  · exact .inr h
theorem Keep.seqT {K : PySem.W.Frag} {H H' : Hp} {a : Addr} {xs : List V} (e : Keep H H') (h : SqT K H a xs) : SqT K H' a xs := by
  rcases h with h | h
  · exact .inl (e.rd (fun _ z => nomatch z) h)
  · exact .inr h
theorem Keep.l {H H' : Hp} {a : Addr} {xs : List V} (e : Keep H H') (h : H a = some (.lst xs)) : H' a = some (.lst xs) := e a _ (fun _ z => nomatch z) h
theorem Keep.t {H H' : Hp} {a : Addr} {xs : List V} (e : Keep H H') (h : H a = some (.tup xs)) : H' a = some (.tup xs) := e a _ (fun _ z => nomatch z) h
theorem len_ok {n : Nat} (h : n ≤ 1000) : n ≤ sizeLine := Nat.le_trans h (by decide)
theorem len_lt {n : Nat} (h : n ≤ 1000) : n < sizeLine := Nat.lt_of_le_of_lt h (by decide)
theorem same_new {H : Hp} {p : Addr} {o : HO} (h : H p = none) : Same H (upd H p o) := fun b x e => by
  rw [upd_ne (ne_of_none e h)]; exact e
/-- an object that H does not know may change -/
theorem same_mut {H H' : Hp} {p : Addr} {o : HO} (e : Same H H') (h : H p = none) : Same H (upd H' p o) := fun a u ha => by
  rw [upd_ne (ne_of_none ha h)]; exact e a u ha
theorem keep_mut {H H' : Hp} {p : Addr} {o : HO} (e : Keep H H') (h : H p = none) : Keep H (upd H' p o) := fun a u n ha => by
  rw [upd_ne (ne_of_none ha h)]; exact e a u n ha
theorem keep_dict {H : Hp} {m : Addr} {kvs : List (Key × V)} {o : HO} (h : H m = some (.dK kvs)) : Keep H (upd H m o) := fun b u n e => by
  rw [upd_ne]
  · exact e
  · intro z; subst z; rw [h] at e; exact n kvs (Option.some.inj e).symm
theorem keep_free {H H' : Hp} (e : Same H H') {l : Addr} (h : H' l = none) : H l = none := e.free h

/-! ### data -/
abbrev Dt := PyData
mutual
theorem Dpk {K : PySem.W.Frag} {H H' : Hp} (e : Keep H H') : ∀ (d : PyData) (v : V), Dp K H v d → Dp K H' v d
  | .none, _, h => by cases h; exact .non
  | .bool b, _, h => by cases h; exact .bl b
  | .int i, _, h => by cases h; exact .int i
  | .str x, _, h => by cases h; exact .str x
  | .list ds, _, h => by
    cases h with
    | lst hs ha => exact .lst (e.seqL hs) (DpkAll e ds _ ha)
  | .tuple ds, _, h => by
    cases h with
    | tup hs ha => exact .tup (e.seqT hs) (DpkAll e ds _ ha)
  | .dict _, _, h => by cases h
theorem DpkAll {K : PySem.W.Frag} {H H' : Hp} (e : Keep H H') : ∀ (ds : List PyData) (vs : List V), DpAll K H vs ds → DpAll K H' vs ds
  | [], _, h => by cases h; exact .nil
  | d :: ds, _, h => by
    cases h with
    | cons h1 h2 => exact .cons (Dpk e d _ h1) (DpkAll e ds _ h2)
end
section
variable {K : PySem.W.Frag} {H H' : Hp} {v : V} {d : PyData} {vs : List V} {ds : List PyData} {a p : Addr} {xs : List V}
theorem dp_keep (e : Keep H H') (h : Dp K H v d) : Dp K H' v d := Dpk e d v h
theorem dp_same (e : Same H H') (h : Dp K H v d) : Dp K H' v d := Dpk (Keep.of e) d v h
theorem dpa_keep (e : Keep H H') (h : DpAll K H vs ds) : DpAll K H' vs ds := DpkAll e ds vs h
theorem dpa_same (e : Same H H') (h : DpAll K H vs ds) : DpAll K H' vs ds := DpkAll (Keep.of e) ds vs h
theorem dp_int {i : Int} (h : Dp K H v (.int i)) : v = .int i := by cases h; rfl
theorem dp_str {i : Str} (h : Dp K H v (.str i)) : v = .str i := by cases h; rfl
theorem dp_bl {i : Bool} (h : Dp K H v (.bool i)) : v = .bl i := by cases h; rfl
theorem dp_non (h : Dp K H v .none) : v = .non := by cases h; rfl
theorem dp_tup (h : Dp K H v (.tuple ds)) : ∃ a xs, v = .ref a ∧ SqT K H a xs ∧ DpAll K H xs ds := by
  cases h with
  | tup hs ha => exact ⟨_, _, rfl, hs, ha⟩
theorem dp_lst (h : Dp K H v (.list ds)) : ∃ a xs, v = .ref a ∧ SqL K H a xs ∧ DpAll K H xs ds := by
  cases h with
  | lst hs ha => exact ⟨_, _, rfl, hs, ha⟩
theorem dpa_len : ∀ {vs : List V} {ds : List PyData}, DpAll K H vs ds → vs.length = ds.length
  | _, [], h => by cases h; rfl
  | _, d :: ds, h => by
    cases h with
    | cons h1 h2 => simp [dpa_len h2]
theorem dpa_get : ∀ {vs : List V} {ds : List PyData} {i : Nat} {d : PyData}, DpAll K H vs ds → ds[i]? = some d → ∃ v, vs[i]? = some v ∧ Dp K H v d
  | _, [], i, d, h, e => by simp at e
  | _, d0 :: ds, 0, d, h, e => by
    cases h with
    | cons h1 h2 => simp at e; subst e; exact ⟨_, rfl, h1⟩
  | _, d0 :: ds, i + 1, d, h, e => by
    cases h with
    | cons h1 h2 =>
      obtain ⟨v, e1, e2⟩ := dpa_get (i := i) h2 (by simpa using e)
      exact ⟨v, by simpa using e1, e2⟩
theorem dpa_get2 : ∀ {vs : List V} {ds : List PyData} {i : Nat} {v : V}, DpAll K H vs ds → vs[i]? = some v → ∃ d, ds[i]? = some d ∧ Dp K H v d := fun {vs ds i v} h e => by
  have hi : i < ds.length := by
    rw [← dpa_len h]; exact (List.getElem?_eq_some_iff.mp e).1
  obtain ⟨v', e1, e2⟩ := dpa_get h (List.getElem?_eq_getElem hi)
  rw [e] at e1
  cases e1
  exact ⟨_, List.getElem?_eq_getElem hi, e2⟩
theorem dpa_app : ∀ {vs : List V} {ds : List PyData} {ws : List V} {es : List PyData}, DpAll K H vs ds → DpAll K H ws es → DpAll K H (vs ++ ws) (ds ++ es)
  | _, [], _, _, h, g => by cases h; exact g
  | _, d :: ds, _, _, h, g => by
    cases h with
    | cons h1 h2 => exact .cons h1 (dpa_app h2 g)
theorem dpa_one (h : Dp K H v d) : DpAll K H [v] [d] := .cons h .nil
theorem dpa_take : ∀ {vs : List V} {ds : List PyData} (n : Nat), DpAll K H vs ds → DpAll K H (vs.take n) (ds.take n)
  | _, _, 0, h => by simp; exact .nil
  | _, [], n + 1, h => by cases h; exact .nil
  | _, d :: ds, n + 1, h => by
    cases h with
    | cons h1 h2 => exact .cons h1 (dpa_take n h2)
theorem dpa_drop : ∀ {vs : List V} {ds : List PyData} (n : Nat), DpAll K H vs ds → DpAll K H (vs.drop n) (ds.drop n)
  | _, _, 0, h => h
  | _, [], n + 1, h => by cases h; exact .nil
  | _, d :: ds, n + 1, h => by
    cases h with
    | cons h1 h2 => exact dpa_drop n h2
theorem dpa_ints : ∀ (ns : List Int), DpAll K H (ns.map V.int) (ns.map PyData.int)
  | [] => .nil
  | n :: ns => .cons (.int n) (dpa_ints ns)
theorem dpa_ints_inv : ∀ {vs : List V} {ns : List Int}, DpAll K H vs (ns.map PyData.int) → vs = ns.map V.int
  | _, [], h => by cases h; rfl
  | _, n :: ns, h => by
    cases h with
    | cons h1 h2 => cases h1; rw [dpa_ints_inv h2]; rfl
theorem dpa_strs : ∀ (ns : List Str), DpAll K H (ns.map V.str) (ns.map PyData.str)
  | [] => .nil
  | n :: ns => .cons (.str n) (dpa_strs ns)
theorem dpa_strs_inv : ∀ {vs : List V} {ns : List Str}, DpAll K H vs (ns.map PyData.str) → vs = ns.map V.str
  | _, [], h => by cases h; rfl
  | _, n :: ns, h => by
    cases h with
    | cons h1 h2 => cases h1; rw [dpa_strs_inv h2]; rfl
theorem dp_newL (h : H a = some (.lst xs)) (g : DpAll K H xs ds) : Dp K H (.ref a) (.list ds) := .lst (.of h) g
theorem dp_newT (h : H a = some (.tup xs)) (g : DpAll K H xs ds) : Dp K H (.ref a) (.tuple ds) := .tup (.of h) g
end

/-! ### readings, step by step -/
def rB (x : V) (H : Hp) (Q : Bool → Hp → Prop) : Prop := ∃ k, x = .bl k ∧ Q k H
def rBV (x : V) (A : Bool → Prop) : Prop := ∃ c, x = .bl c ∧ A c
def rDG (x y : V) (H : Hp) (Q : VK) : Prop := ∃ a v, x = .ref a ∧ DGet H a y (some v) ∧ Q v H
def rDP (x y v : V) (H : Hp) (Q : Hp → Prop) : Prop := ∃ a H4, x = .ref a ∧ DPut H a y v H4 ∧ Q H4
def r2V (vs : List V) (A : V → V → Prop) : Prop := ∃ v w, vs = [v, w] ∧ A v w
def rNewT (xs : List V) (H : Hp) (Q : VK) : Prop := xs.length ≤ sizeLine ∧ ∀ p, H p = none → Q (.ref p) (upd H p (.tup xs))
def rNewL (xs : List V) (H : Hp) (Q : VK) : Prop := xs.length ≤ sizeLine ∧ ∀ p, H p = none → Q (.ref p) (upd H p (.lst xs))
def rPI (x : V) (A : Option Int → Prop) : Prop := ∃ i, x = .int i ∧ A (some i)
section
variable {K : PySem.W.Frag} {σ : L2.St} {H : Hp} {Q : VK} {D : Ends} {v x y z : V} {i : Nat} {ta tb tc te : TE} {t u : TS} {c : TT} {g : TG} {tn : TA} {r : R2}
theorem w_seq (h : t { D with nx := u D } σ H) : tSeq t u D σ H := h
theorem w_next (h : D.nx σ H) : tNext D σ H := h
theorem w_asg (h : te σ H fun x H1 => D.nx (σ.set i (some x)) H1) : tAsg te (gName i) D σ H := h
theorem w_asgG (h : te σ H fun x H1 => g x σ H1 D.nx) : tAsg te g D σ H := h
theorem w_drop (h : te σ H fun _ H1 => D.nx σ H1) : tDrop te D σ H := h
theorem w_ret (h : te σ H D.rt) : tRet te D σ H := h
theorem w_retN (h : D.rt .non H) : tRetN D σ H := h
theorem w_brk (h : D.bk σ H) : tBreak D σ H := h
theorem w_cont (h : D.ct σ H) : tCont D σ H := h
theorem w_ifS (h : c σ H fun b H1 => if b = true then t D σ H1 else u D σ H1) : tIfS c t u D σ H := h
theorem w_var (h : σ[i]? = some (some v)) (q : Q v H) : tVar i σ H Q := ⟨v, h, q⟩
theorem w_c (q : Q v H) : tC v σ H Q := q
theorem w_op (h : ta σ H fun x H1 => tb σ H1 fun y H2 => r x y H2 Q) : tOp r ta tb σ H Q := h
theorem w_un {r : V → Hp → VK → Prop} (h : ta σ H fun x H1 => r x H1 Q) : tUn r ta σ H Q := h
theorem w_rI0 {g : Int → Int → V} {i j : Int} (q : Q (g i j) H) : rI0 g (.int i) (.int j) H Q := ⟨i, j, rfl, rfl, q⟩
theorem w_rI {C : Int → Int → Prop} {g : Int → Int → V} {i j : Int} (hc : C i j) (q : Q (g i j) H) : rI C g (.int i) (.int j) H Q := ⟨i, j, rfl, rfl, hc, q⟩
theorem w_rU {g : Int → V} {i : Int} (q : Q (g i) H) : rU g (.int i) H Q := ⟨i, rfl, q⟩
theorem w_eqI {i j : Int} (q : Q (.bl (decide (i = j))) H) : rEq (.int i) (.int j) H Q := ⟨rfl, by
  rw [dec_int, show (i == j) = decide (i = j) from rfl]; exact q⟩
theorem w_neI {i j : Int} (q : Q (.bl (!decide (i = j))) H) : rNe (.int i) (.int j) H Q := ⟨rfl, by
  rw [dec_int, show (i == j) = decide (i = j) from rfl]; exact q⟩
theorem w_rEq (hs : scal x y = true) (q : Q (.bl (decide (x = y))) H) : rEq x y H Q := ⟨hs, q⟩
theorem w_rNe (hs : scal x y = true) (q : Q (.bl (!decide (x = y))) H) : rNe x y H Q := ⟨hs, q⟩
theorem w_tI (h : c σ H fun b H1 => if b = true then ta σ H1 Q else tb σ H1 Q) : tIf c ta tb σ H Q := h
theorem w_tTest {Q : Bool → Hp → Prop} (h : te σ H fun x H' => rB x H' Q) : tTest te σ H Q := h
theorem w_tB {Q : Bool → Hp → Prop} (h : te σ H fun x H' => rB x H' Q) : tB te σ H Q := h
theorem w_bl {b : Bool} {Q : Bool → Hp → Prop} (h : Q b H) : rB (.bl b) H Q := ⟨b, rfl, h⟩
theorem w_blV {b : Bool} {A : Bool → Prop} (h : A b) : rBV (.bl b) A := ⟨b, rfl, h⟩
theorem w_and {t u : TT} {Q : Bool → Hp → Prop} (h : t σ H fun c H1 => if c = true then u σ H1 Q else Q false H1) : tAnd t u σ H Q := h
theorem w_or {t u : TT} {Q : Bool → Hp → Prop} (h : t σ H fun c H1 => if c = true then Q true H1 else u σ H1 Q) : tOr t u σ H Q := h
theorem w_not {t : TT} {Q : Bool → Hp → Prop} (h : t σ H fun c H1 => Q (!c) H1) : tNot t σ H Q := h
theorem w_andV (h : ta σ H fun x H1 => rBV x fun c => if c = true then tb σ H1 Q else Q (.bl false) H1) : tAndV ta tb σ H Q := h
theorem w_orV (h : ta σ H fun x H1 => rBV x fun c => if c = true then Q (.bl true) H1 else tb σ H1 Q) : tOrV ta tb σ H Q := h
theorem w_notV (h : ta σ H fun x H1 => rBV x fun c => Q (.bl (!c)) H1) : tNotV ta σ H Q := h
theorem w_chain {r r' : R2} (h : ta σ H fun x H1 => tb σ H1 fun y H2 => r x y H2 fun z H3 => rBV z fun k => if k = true then tc σ H3 fun w' H4 => r' y w' H4 Q else Q (.bl false) H3) : tChain r r' ta tb tc σ H Q := h
theorem w_nil {Q : List V → Hp → Prop} (q : Q [] H) : tNil σ H Q := q
theorem w_cons {Q : List V → Hp → Prop} (h : ta σ H fun x H1 => tn σ H1 fun xs H2 => Q (x :: xs) H2) : tCons ta tn σ H Q := h
theorem w_call {sp : Sp} {dvs : List V} {E : XK} (h : tn σ H fun vs H1 => sp (vs ++ dvs) H1 Q E) : tCall sp dvs E tn σ H Q := h
theorem w_cb {r : List V → Hp → VK → Prop} (h : tn σ H fun vs H1 => r vs H1 Q) : tCB r tn σ H Q := h
theorem w_tup (h : tn σ H fun xs H1 => rNewT xs H1 Q) : tTup tn σ H Q := h
theorem w_lst (h : tn σ H fun xs H1 => rNewL xs H1 Q) : tLst tn σ H Q := h
theorem w_newT {xs : List V} {ds : List PyData} (hl : xs.length ≤ sizeLine) (hd : DpAll K H xs ds) (q : ∀ p H', H p = none → Same H H' → Dp K H' (.ref p) (.tuple ds) → Q (.ref p) H') :
    rNewT xs H Q :=
  ⟨hl, fun p hp => q p _ hp (same_new hp) (dp_newT upd_same (dpa_same (same_new hp) hd))⟩
theorem w_newL {xs : List V} {ds : List PyData} (hl : xs.length ≤ sizeLine) (hd : DpAll K H xs ds) (q : ∀ p H', H p = none → Same H H' → H' p = some (.lst xs) → Dp K H' (.ref p) (.list ds) → Q (.ref p) H') :
    rNewL xs H Q :=
  ⟨hl, fun p hp => q p _ hp (same_new hp) upd_same (dp_newL upd_same (dpa_same (same_new hp) hd))⟩
theorem w_ite {b : Bool} {A B : Prop} (h1 : b = true → A) (h2 : b = false → B) : if b = true then A else B := by
  cases b with
  | true => rw [if_pos rfl]; exact h1 rfl
  | false => rw [if_neg Bool.false_ne_true]; exact h2 rfl
theorem w_iteD {P : Prop} [Decidable P] {A B : Prop} (h1 : P → A) (h2 : ¬ P → B) : if decide P = true then A else B := by
  by_cases h : P
  · rw [if_pos (decide_eq_true h)]; exact h1 h
  · rw [if_neg (by simpa using h)]; exact h2 h
theorem w_iteND {P : Prop} [Decidable P] {A B : Prop} (h1 : ¬ P → A) (h2 : P → B) : if (!decide P) = true then A else B := by
  by_cases h : P
  · rw [decide_eq_true h]; simpa using h2 h
  · rw [decide_eq_false h]; simpa using h1 h
theorem w_iteT {A B : Prop} (h : A) : if true = true then A else B := by rw [if_pos rfl]; exact h
theorem w_iteNT {A B : Prop} (h : B) : if (!true) = true then A else B := by rw [Bool.not_true, if_neg Bool.false_ne_true]; exact h
theorem w_iteNF {A B : Prop} (h : A) : if (!false) = true then A else B := by rw [Bool.not_false, if_pos rfl]; exact h
theorem w_iteF {A B : Prop} (h : B) : if false = true then A else B := by rw [if_neg Bool.false_ne_true]; exact h
end
end Tw
namespace Tw
open PySem PySem.Spec PyProof.Rows L2
/-! ### rules by data -/
section
variable {X : Cx}
def rLen (K : PySem.W.Frag) : List V → Hp → VK → Prop := fun xs H Q => ∃ x n, xs = [x] ∧ LenV K x H n ∧ Q (.int n) H
theorem cl_len {K : PySem.W.Frag} (h : X.K = K := by rfl) : CallR X (.builtin "len") (rLen K) := h ▸ call_len
def rInt : List V → Hp → VK → Prop := fun xs H Q => (∃ i, xs = [.int i] ∧ Q (.int i) H) ∨ ∃ k, xs = [.bl k] ∧ Q (.int (if k then 1 else 0)) H
theorem cl_int : CallR X (.type "int") rInt := call_int1
def rStrI : List V → Hp → VK → Prop := fun xs H Q => ∃ i, xs = [.int i] ∧ i.natAbs.log2 < 1920 ∧ Q (.str (toString i)) H
theorem cl_strI : CallR X (.type "str") rStrI := call_str_int
def rTupOf (K : PySem.W.Frag) : List V → Hp → VK → Prop := fun xs H Q => ∃ p ys, xs = [.ref p] ∧ ((SqL K H p ys ∧ ∀ l, H l = none → Q (.ref l) (upd H l (.tup ys))) ∨ (SqT K H p ys ∧ Q (.ref p) H))
def rMax2 : List V → Hp → VK → Prop := fun xs H Q => ∃ i j, xs = [.int i, .int j] ∧ Q (.int (if j > i then j else i)) H
theorem cl_max2 (hc : X.calm = true) : CallR X (.builtin "max") rMax2 := call_max2 hc
def rMin2 : List V → Hp → VK → Prop := fun xs H Q => ∃ i j, xs = [.int i, .int j] ∧ Q (.int (if j < i then j else i)) H
theorem cl_min2 (hc : X.calm = true) : CallR X (.builtin "min") rMin2 := call_min2 hc
theorem pe_cint {x : Str} {pos : Pos} {i : Int} {t : Tok} (hg : Gl X x) (hm : X.mg x = some (.int i t)) (hd : (x == ("__debug__" : Str)) = false := by decide) : PE X (.Name x pos) (tC (.int i)) := pe_glob hg hm (show RelV (.int i) _ from ⟨t, rfl⟩) hd
theorem cl_tup {K : PySem.W.Frag} (h : X.K = K := by rfl) : CallR X (.type "tuple") (rTupOf K) := h ▸ call_tuple_of
def rLstOf (K : PySem.W.Frag) : List V → Hp → VK → Prop := fun xs H Q => ∃ p ys, xs = [.ref p] ∧ (SqL K H p ys ∨ SqT K H p ys) ∧ ∀ l, H l = none → Q (.ref l) (upd H l (.lst ys))
theorem cl_lst {K : PySem.W.Frag} (h : X.K = K := by rfl) : CallR X (.type "list") (rLstOf K) := h ▸ call_list_of
theorem ix_listK {K : PySem.W.Frag} (h : X.K = K := by rfl) : IxR X (rIxL K) := h ▸ ix_list
theorem ix_tupK {K : PySem.W.Frag} (h : X.K = K := by rfl) : IxR X (rIxT K) := h ▸ ix_tup
theorem op_eqK {K : PySem.W.Frag} (hu : X.A.units + 64 < cLine) (h : X.K = K := by rfl) : OpR X (compareOp .Eq) (rEqD K) := h ▸ op_eqD hu
theorem op_neK {K : PySem.W.Frag} (hu : X.A.units + 64 < cLine) (h : X.K = K := by rfl) : OpR X (compareOp .NotEq) (rNeD K) := h ▸ op_neD hu
theorem sl_listK {K : PySem.W.Frag} (h : X.K = K := by rfl) : SlR X (rSlL K) := h ▸ sl_list
theorem pi_listK {K : PySem.W.Frag} {tg l : Expr} {tl : TE} (hl : PE X l tl) (h : X.K = K := by rfl) : PI X tg l (iList K tl) := h ▸ pi_list hl
theorem pi_tupK {K : PySem.W.Frag} {tg l : Expr} {tl : TE} (hl : PE X l tl) (h : X.K = K := by rfl) : PI X tg l (iTup K tl) := h ▸ pi_tup hl
def rAddStr : R2 := fun x y H Q => ∃ i j, x = .str i ∧ y = .str j ∧ i.length + j.length ≤ sizeLine ∧ Q (.str (i ++ j)) H
theorem op_addS : OpR X (binaryOp .Add) rAddStr := op_add_str
theorem op_catL : OpR X (binaryOp .Add) rCat := op_cat
def rJoin (K : PySem.W.Frag) : V → List V → Hp → VK → Prop := fun x xs H Q => ∃ a p, ∃ ys : List Str, x = .str a ∧ xs = [.ref p] ∧ (SqL K H p (ys.map V.str) ∨ SqT K H p (ys.map V.str)) ∧ (ys.map (·.length)).sum + ys.length * a.length ≤ 16777216 ∧ Q (.str (Txt.join a ys)) H
def tTru (K : PySem.W.Frag) (ta : TE) : TT := fun σ H Q => ta σ H fun x H' => ∃ k, TruV K x H' k ∧ Q k H'
theorem pt_tru {K : PySem.W.Frag} {a : Expr} {ta : TE} (ha : PE X a ta) (he : ∀ whole, isTrue a X.env whole = (do let v ← whole; standAt a.pos; holding [v] (truthy v))) (h : X.K = K := by rfl) : PT X a (tTru K ta) := h ▸ pt_truth ha he
end
end Tw

namespace Tw
open PySem PySem.Spec PyProof.Rows L2
section
variable {X : Cx}
theorem pe_joinD {K : PySem.W.Frag} {o e : Expr} {to te : TE} {apos pos : Pos} (ho : PE X o to) (he : PE X e te) (h : X.K = K := by rfl) (hs : starEach [e] X.env = [(false, eval e X.env)] := by rfl) (hbase : attributeBase o "join" X.env (eval o X.env) = eval o X.env := by rfl) (hline : (apos.endLine == pos.line) = true := by rfl) :
    PE X (.Call (.Attribute o "join" apos) [e] [] pos) (tM1 (rJoin K) to te) := h ▸ pe_join ho he hs hbase hline
end
section
variable {K : PySem.W.Frag} {σ : L2.St} {H : Hp} {Q : VK} {D : Ends} {v x y z : V} {d e : PyData} {ds es : List PyData} {i : Nat} {to ta tb tc te : TE} {t u : TS} {tn : TA}
theorem w_lenL (h : Dp K H v (.list ds)) (q : Q (.int (ds.length : Int)) H) : rLen K [v] H Q := by
  obtain ⟨a, xs, rfl, hs, ha⟩ := dp_lst h
  exact ⟨.ref a, ds.length, rfl, .inl ⟨xs, hs, (dpa_len ha).symm⟩, q⟩
theorem w_lenT (h : Dp K H v (.tuple ds)) (q : Q (.int (ds.length : Int)) H) : rLen K [v] H Q := by
  obtain ⟨a, xs, rfl, hs, ha⟩ := dp_tup h
  exact ⟨.ref a, ds.length, rfl, .inr ⟨xs, hs, (dpa_len ha).symm⟩, q⟩
theorem w_lenS {x : Str} (h : x.length ≤ sizeLine) (q : Q (.int (x.length : Int)) H) : rLen K [.str x] H Q := ⟨.str x, x.length, rfl, ⟨h, rfl⟩, q⟩
theorem w_int {n : Int} (q : Q (.int n) H) : rInt [.int n] H Q := .inl ⟨n, rfl, q⟩
theorem w_strI {n : Int} (h : n.natAbs.log2 < 1920) (q : Q (.str (toString n)) H) : rStrI [.int n] H Q := ⟨n, rfl, h, q⟩
theorem w_max2 {i j : Int} (q : ∀ r, r = max i j → Q (.int r) H) : rMax2 [.int i, .int j] H Q := ⟨i, j, rfl, q _ (by split <;> omega)⟩
theorem w_min2 {i j : Int} (q : ∀ r, r = min i j → Q (.int r) H) : rMin2 [.int i, .int j] H Q := ⟨i, j, rfl, q _ (by split <;> omega)⟩
theorem w_tupOf (h : Dp K H v (.list ds)) (q : ∀ p H', H p = none → Same H H' → Dp K H' (.ref p) (.tuple ds) → Q (.ref p) H') : rTupOf K [v] H Q := by
  obtain ⟨a, xs, rfl, hs, ha⟩ := dp_lst h
  exact ⟨a, xs, rfl, .inl ⟨hs, fun l hl => q l _ hl (same_new hl) (dp_newT upd_same (dpa_same (same_new hl) ha))⟩⟩
theorem w_tupOfT (h : Dp K H v (.tuple ds)) (q : ∀ v, Dp K H v (.tuple ds) → Q v H) : rTupOf K [v] H Q := by
  obtain ⟨a, xs, rfl, hs, ha⟩ := dp_tup h
  exact ⟨a, xs, rfl, .inr ⟨hs, q _ h⟩⟩
theorem w_lstOfT (h : Dp K H v (.tuple ds)) (q : ∀ p H' xs, H p = none → Same H H' → H' p = some (.lst xs) → Dp K H' (.ref p) (.list ds) → Q (.ref p) H') : rLstOf K [v] H Q := by
  obtain ⟨a, xs, rfl, hs, ha⟩ := dp_tup h
  exact ⟨a, xs, rfl, .inr hs, fun l hl => q l _ xs hl (same_new hl) upd_same (dp_newL upd_same (dpa_same (same_new hl) ha))⟩
theorem w_lstOfL (h : Dp K H v (.list ds)) (q : ∀ p H' xs, H p = none → Same H H' → H' p = some (.lst xs) → Dp K H' (.ref p) (.list ds) → Q (.ref p) H') : rLstOf K [v] H Q := by
  obtain ⟨a, xs, rfl, hs, ha⟩ := dp_lst h
  exact ⟨a, xs, rfl, .inl hs, fun l hl => q l _ xs hl (same_new hl) upd_same (dp_newL upd_same (dpa_same (same_new hl) ha))⟩
theorem w_addS {x y : Str} (h : x.length + y.length ≤ sizeLine) (q : Q (.str (x ++ y)) H) : rAddStr (.str x) (.str y) H Q := ⟨x, y, rfl, rfl, h, q⟩
/-- an item by a place that is known to be a number -/
theorem w_ixL {n : Int} {j : Nat} (h : Dp K H v (.list ds)) (hn : n = (j : Int)) (hd : ds[j]? = some d) (q : ∀ v', Dp K H v' d → Q v' H) : rIxL K v (.int n) H Q := by
  obtain ⟨a, xs, rfl, hs, ha⟩ := dp_lst h
  obtain ⟨v', e1, e2⟩ := dpa_get ha hd
  exact ⟨a, xs, n, v', rfl, rfl, hs, at_of hn e1, q v' e2⟩
theorem w_ixT {n : Int} {j : Nat} (h : Dp K H v (.tuple ds)) (hn : n = (j : Int)) (hd : ds[j]? = some d) (q : ∀ v', Dp K H v' d → Q v' H) : rIxT K v (.int n) H Q := by
  obtain ⟨a, xs, rfl, hs, ha⟩ := dp_tup h
  obtain ⟨v', e1, e2⟩ := dpa_get ha hd
  exact ⟨a, xs, n, v', rfl, rfl, hs, at_of hn e1, q v' e2⟩
theorem w_ixLI {n : Int} {ns : List Int} (h : Dp K H v (.list (ns.map PyData.int))) (h0 : 0 ≤ n) (h1 : n < (ns.length : Int)) (q : ∀ z, ns[n.toNat]? = some z → Q (.int z) H) : rIxL K v (.int n) H Q := by
  have hl : n.toNat < ns.length := by omega
  refine w_ixL (j := n.toNat) (d := .int ns[n.toNat]) h (by omega) (by simp [hl]) fun v' hv => ?_
  cases hv
  exact q _ (List.getElem?_eq_getElem hl)
theorem w_ixTI {n : Int} {ns : List Int} (h : Dp K H v (.tuple (ns.map PyData.int))) (h0 : 0 ≤ n) (h1 : n < (ns.length : Int)) (q : ∀ z, ns[n.toNat]? = some z → Q (.int z) H) : rIxT K v (.int n) H Q := by
  have hl : n.toNat < ns.length := by omega
  refine w_ixT (j := n.toNat) (d := .int ns[n.toNat]) h (by omega) (by simp [hl]) fun v' hv => ?_
  cases hv
  exact q _ (List.getElem?_eq_getElem hl)
theorem w_ixLast (h : Dp K H v (.list ds)) (hd : ds.getLast? = some d) (q : ∀ v', Dp K H v' d → Q v' H) : rIxL K v (.int (-1)) H Q := by
  obtain ⟨a, xs, rfl, hs, ha⟩ := dp_lst h
  rw [List.getLast?_eq_getElem?] at hd
  obtain ⟨v', e1, e2⟩ := dpa_get ha hd
  have hne : xs ≠ [] := fun z => by subst z; simp at e1
  have hx : xs = xs.dropLast ++ [xs.getLast hne] := (List.dropLast_concat_getLast hne).symm
  have e3 : v' = xs.getLast hne := by
    rw [← dpa_len ha, ← List.getLast?_eq_getElem?, List.getLast?_eq_getLast hne] at e1
    exact (Option.some.inj e1).symm
  refine ⟨a, xs, -1, v', rfl, rfl, hs, ?_, q v' e2⟩
  rw [hx, e3]; exact atI_last _ _
theorem w_ixLastT (h : Dp K H v (.tuple ds)) (hd : ds.getLast? = some d) (q : ∀ v', Dp K H v' d → Q v' H) : rIxT K v (.int (-1)) H Q := by
  obtain ⟨a, xs, rfl, hs, ha⟩ := dp_tup h
  rw [List.getLast?_eq_getElem?] at hd
  obtain ⟨v', e1, e2⟩ := dpa_get ha hd
  have hne : xs ≠ [] := fun z => by subst z; simp at e1
  have hx : xs = xs.dropLast ++ [xs.getLast hne] := (List.dropLast_concat_getLast hne).symm
  have e3 : v' = xs.getLast hne := by
    rw [← dpa_len ha, ← List.getLast?_eq_getElem?, List.getLast?_eq_getLast hne] at e1
    exact (Option.some.inj e1).symm
  refine ⟨a, xs, -1, v', rfl, rfl, hs, ?_, q v' e2⟩
  rw [hx, e3]; exact atI_last _ _
theorem w_ixS {s : Str} {n : Int} {j c : Nat} (hz : s.length ≤ sizeLine) (hn : n = (j : Int)) (hd : s.cps.toList[j]? = some c) (q : Q (.str ⟨#[c]⟩) H) : rIxS (.str s) (.int n) H Q :=
  ⟨s, n, c, rfl, rfl, hz, by rw [hn]; exact atI_nat hd, q⟩
theorem w_tIsN (q : Q (.bl (decide (x = .non))) H) : rIsN x .non H Q := ⟨rfl, q⟩
theorem w_tNotN (q : Q (.bl (!decide (x = .non))) H) : rNotN x .non H Q := ⟨rfl, q⟩
theorem w_bm {T : String} {r : V → List V → Hp → VK → Prop} (h : to σ H fun x H1 => tyV K T x H1 ∧ tn σ H1 fun xs H2 => r x xs H2 Q) : tBM K T r to tn σ H Q := h
theorem w_bm0 {T : String} {r : V → List V → Hp → VK → Prop} (h : to σ H fun x H1 => tyV K T x H1 ∧ r x [] H1 Q) : tBM0 K T r to σ H Q := h
theorem w_m1 {r : V → List V → Hp → VK → Prop} (h : to σ H fun x H1 => (∃ a, x = .str a) ∧ te σ H1 fun y H2 => r x [y] H2 Q) : tM1 r to te σ H Q := h
theorem w_isStr {s : Str} {A : Prop} (h : A) : (∃ a, V.str s = .str a) ∧ A := ⟨⟨s, rfl⟩, h⟩
theorem w_append {l : Addr} {xs : List V} (h : H l = some (.lst xs)) (hz : xs.length < sizeLine) (q : Q .non (upd H l (.lst (xs ++ [y])))) : rAppend (.ref l) [y] H Q := ⟨l, xs, y, rfl, rfl, h, hz, q⟩
theorem w_tyL {a : Addr} {xs : List V} {A : Prop} (h : H a = some (.lst xs)) (q : A) : tyV K "list" (.ref a) H ∧ A := ⟨.inl ⟨rfl, xs, .of h⟩, q⟩
theorem w_tyS {s : Str} {A : Prop} (q : A) : tyV K "str" (.str s) H ∧ A := ⟨rfl, q⟩
theorem w_join {s : Str} {ys : List Str} (h : Dp K H v (.list (ys.map PyData.str))) (hz : (ys.map (·.length)).sum + ys.length * s.length ≤ 16777216) (q : Q (.str (Txt.join s ys)) H) : rJoin K (.str s) [v] H Q := by
  obtain ⟨a, xs, rfl, hs, ha⟩ := dp_lst h
  rw [dpa_strs_inv ha] at hs
  exact ⟨s, a, ys, rfl, rfl, .inl hs, hz, q⟩
/-- a new list out of two -/
theorem w_catL {a b : Addr} {xs zs : List V} (h : H a = some (.lst xs)) (h' : H b = some (.lst zs)) (hz : xs.length + zs.length ≤ sizeLine) (q : ∀ p H', H p = none → Same H H' → H' p = some (.lst (xs ++ zs)) → Q (.ref p) H') : rCat (.ref a) (.ref b) H Q :=
  ⟨a, b, xs, zs, rfl, rfl, h, h', hz, fun p hp => q p _ hp (same_new hp) upd_same⟩
theorem w_dget {td ty : TE} (h : td σ H fun x H1 => ty σ H1 fun y H2 => rDG x y H2 Q) : tDGet td ty σ H Q := h
theorem w_dgS {k : Str} {kvs : List (Key × V)} {m : Addr} (h : H m = some (.dK kvs)) (e : valV kvs (.inr k) = some v) (q : Q v H) : rDG (.ref m) (.str k) H Q :=
  ⟨m, v, rfl, by rw [← e]; exact DGet.k (k := .inr k) h, q⟩
theorem w_dpS {k : Str} {kvs kvs' : List (Key × V)} {m : Addr} (h : H m = some (.dK kvs)) (e : putK kvs (.inr k) v = kvs') (hl : kvs.length < sizeLine) {Q : Hp → Prop} (q : ∀ H', Keep H H' → H' m = some (.dK kvs') → Q H') : rDP (.ref m) (.str k) v H Q := by
  subst e
  exact ⟨m, _, rfl, DPut.k (k := .inr k) h hl, q _ (keep_dict h) upd_same⟩
theorem w_dput {td ty tv : TE} (h : tv σ H fun v H1 => td σ H1 fun x H2 => ty σ H2 fun y H3 => rDP x y v H3 (D.nx σ)) : sDPut td ty tv D σ H := h
theorem w_par {a b : Nat} {ta : TA} (h : ta σ H fun vs H1 => r2V vs fun v w => D.nx ((σ.set a (some v)).set b (some w)) H1) : tPar a b ta D σ H := h
theorem w_par2 {v w : V} {A : V → V → Prop} (h : A v w) : r2V [v, w] A := ⟨v, w, rfl, h⟩
def r3V (vs : List V) (A : V → V → V → Prop) : Prop := ∃ u v w, vs = [u, v, w] ∧ A u v w
theorem w_par3 {a b c : Nat} {ta : TA} (h : ta σ H fun vs H1 => r3V vs fun u v w => D.nx (((σ.set a (some u)).set b (some v)).set c (some w)) H1) : tPar3 a b c ta D σ H := h
theorem w_par33 {u v w : V} {A : V → V → V → Prop} (h : A u v w) : r3V [u, v, w] A := ⟨u, v, w, rfl, h⟩
theorem w_eqB {a b : Bool} (q1 : a = b → Q (.bl true) H) (q2 : a ≠ b → Q (.bl false) H) : rEq (.bl a) (.bl b) H Q := ⟨rfl, by
  by_cases h : a = b
  · subst h; rw [decide_eq_true rfl]; exact q1 rfl
  · rw [decide_eq_false (fun z => h (V.bl.inj z))]; exact q2 h⟩
theorem w_neB {a b : Bool} (q1 : a = b → Q (.bl false) H) (q2 : a ≠ b → Q (.bl true) H) : rNe (.bl a) (.bl b) H Q := ⟨rfl, by
  by_cases h : a = b
  · subst h; rw [decide_eq_true rfl]; exact q1 rfl
  · rw [decide_eq_false (fun z => h (V.bl.inj z))]; exact q2 h⟩
theorem w_aug {te : TE} {ti : TIp} (h : σ[i]? = some (some x)) (q : te σ H fun y H1 => ti x y H1 fun z H2 => D.nx (σ.set i (some z)) H2) : tAug i te ti D σ H := ⟨x, h, q⟩
theorem w_gTup {n : Nat} {tg : TGs} {Q : L2.St → Hp → Prop} {a : Addr} {xs : List V} (hs : SqT K H a xs) (hn : xs.length = n) (q : tg xs σ H Q) : gTup K n tg (.ref a) σ H Q := ⟨a, xs, rfl, hs, hn, q⟩
theorem w_gTup2 {i j : Nat} {Q : L2.St → Hp → Prop} {d e : PyData} (h : Dp K H v (.tuple [d, e])) (q : ∀ v1 v2, Dp K H v1 d → Dp K H v2 e → Q ((σ.set i (some v1)).set j (some v2)) H) : gTup K 2 (gCons (gName i) (gCons (gName j) gNil)) v σ H Q := by
  obtain ⟨a, xs, rfl, hs, ha⟩ := dp_tup h
  cases ha with
  | cons h1 h2 => cases h2 with
    | cons h3 h4 => cases h4; exact ⟨a, _, rfl, hs, rfl, _, _, rfl, _, _, rfl, rfl, q _ _ h1 h3⟩
theorem w_slice {r : V → Option Int → Option Int → Hp → VK → Prop} {tl th : TO} (h : te σ H fun x H1 => tl σ H1 fun l H2 => th σ H2 fun u H3 => r x l u H3 Q) : tSl r te tl th σ H Q := h
theorem w_noPart {Q : Option Int → Hp → Prop} (h : Q none H) : tNoPart σ H Q := h
theorem w_part {Q : Option Int → Hp → Prop} (h : te σ H fun x H1 => rPI x fun o => Q o H1) : tPart te σ H Q := h
theorem w_pint {n : Int} {A : Option Int → Prop} (h : A (some n)) : rPI (.int n) A := ⟨n, rfl, h⟩
theorem w_slL {lo hi : Option Int} {ds' : List PyData} (h : Dp K H v (.list ds)) (hc : ∀ xs, xs.length = ds.length → DpAll K H xs ds → DpAll K H (cutV xs lo hi) ds') (q : ∀ p H' xs, H p = none → Same H H' → H' p = some (.lst xs) → Dp K H' (.ref p) (.list ds') → Q (.ref p) H') : rSlL K v lo hi H Q := by
  obtain ⟨a, xs, rfl, hs, ha⟩ := dp_lst h
  exact ⟨a, xs, rfl, hs, fun p hp => q p _ _ hp (same_new hp) upd_same (dp_newL upd_same (dpa_same (same_new hp) (hc xs (dpa_len ha) ha)))⟩
end
/-- a text's signs, a text of signs -/
theorem wideX {i j : Int} {a b : Nat} (ha : i.natAbs < 2 ^ a) (hb : j.natAbs < 2 ^ b) (h : a + b ≤ 134217728) : CMulX i j := mulx_ok ha hb h
theorem mulS {i j : Int} (ha : -(2 ^ 250) < i ∧ i < 2 ^ 250) (hb : -(2 ^ 250) < j ∧ j < 2 ^ 250) : CMulX i j := mulx_ok (a := 250) (b := 250) (by omega) (by omega) (by decide)
theorem divS {i j : Int} (h : 0 < j ∧ j < 2 ^ 250) : CDivW i j := wide_div (b := 250) h.1 (by omega) (by decide) (by decide)
end Tw
namespace Tw
open PySem PySem.Spec PyProof.Rows L2
def rMod : R2 := rI (fun _ j => 0 < j) fun i j => .int (i % j)
theorem op_modD {X : Cx} : OpR X (binaryOp .Mod) rMod := op_mod
theorem w_rMod {H : Hp} {Q : VK} {i j : Int} (hc : 0 < j) (q : Q (.int (i % j)) H) : rMod (.int i) (.int j) H Q := ⟨i, j, rfl, rfl, hc, q⟩
/-- the rest as a letter -/
theorem w_rModA {H : Hp} {Q : VK} {i j : Int} (hc : 0 < j) (q : ∀ r, r = i % j → 0 ≤ r → r < j → Q (.int r) H) : rMod (.int i) (.int j) H Q :=
  ⟨i, j, rfl, rfl, hc, q _ rfl (Int.emod_nonneg _ (by omega)) (Int.emod_lt_of_pos _ hc)⟩
theorem w_rModB {H : Hp} {Q : VK} {i j : Int} (hc : 0 < j) (q : ∀ r, 0 ≤ r → r < j → Q (.int r) H) : rMod (.int i) (.int j) H Q :=
  w_rModA hc fun r _ => q r
def rWB (W : Nat → L2.St → Hp → Prop) (m : Nat) (tb : TS) (D : Ends) (σ : L2.St) (H1 : Hp) : Prop := ∃ N : L2.St → Hp → Prop, (∀ σ' H', N σ' H' → ∃ m', m' < m ∧ W m' σ' H') ∧ tb { D with nx := N, ct := N, bk := D.nx } σ H1
theorem w_wb {W : Nat → L2.St → Hp → Prop} {m : Nat} {tb : TS} {D : Ends} {σ : L2.St} {H1 : Hp} (h : tb { D with nx := fun σ' H' => ∃ m', m' < m ∧ W m' σ' H', ct := fun σ' H' => ∃ m', m' < m ∧ W m' σ' H', bk := D.nx } σ H1) : rWB W m tb D σ H1 :=
  ⟨_, fun _ _ h => h, h⟩
theorem whl_by {c : TT} {tb : TS} {D : Ends} {σ : L2.St} {H : Hp} (W : Nat → L2.St → Hp → Prop) (m0 : Nat) (h0 : W m0 σ H) (hs : ∀ m σ H, W m σ H → c σ H fun b H1 => if b = true then rWB W m tb D σ H1 else D.nx σ H1) : tWhile c tb D σ H :=
  ⟨W, ⟨m0, h0⟩, hs⟩
/-- two ways of an expression meet behind it -/
theorem w_meet {t : TE} {σ : L2.St} {H : Hp} {Q : VK} (Pm : V → Hp → Prop) (h : ∀ Q' : VK, (∀ v H', Pm v H' → Q' v H') → t σ H Q') (k : ∀ v H', Pm v H' → Q v H') : t σ H Q := h Q k
/-- .. of a statement -/
theorem w_meetS {t : TS} {D : Ends} {σ : L2.St} {H : Hp} (Pm : L2.St → Hp → Prop) (h : ∀ nx' : L2.St → Hp → Prop, (∀ σ' H', Pm σ' H' → nx' σ' H') → t { D with nx := nx' } σ H) (k : ∀ σ' H', Pm σ' H' → D.nx σ' H') : t D σ H := h D.nx k
theorem cxK {CX : CXT} {P : Program} {w : World} {K : PySem.W.Frag} {mg : Str → Option Value} {base : Heap} {N : List Str} {qual : Str} {scope : Scope} {f : Addr} {cd : Value} {A : Around} {outer : List Env} {s : Shared} {H : Hp} {E : XK} :
    (cxOf CX P w K mg base N qual scope f cd A outer s H E).nox.K = K := rfl
end Tw
namespace Tw
open PySem PySem.Spec PyProof.Rows L2
/-! ### slices, for -/
def cutD {α : Type} (ds : List α) (lo hi : Option Int) : List α := (ds.drop (HT.sIx ds.length 0 lo)).take (HT.sIx ds.length ds.length hi - HT.sIx ds.length 0 lo)
theorem cutD_len {α : Type} (ds : List α) (lo hi : Option Int) : (cutD ds lo hi).length ≤ ds.length := by
  unfold cutD; rw [List.length_take, List.length_drop]; omega
theorem cutD_map {α β : Type} (f : α → β) (ds : List α) (lo hi : Option Int) : cutD (ds.map f) lo hi = (cutD ds lo hi).map f := by
  unfold cutD; rw [List.length_map, List.map_take, List.map_drop]
theorem cutD_from {α : Type} (ds : List α) {k : Int} (h : 0 ≤ k) : cutD ds (some k) none = ds.drop k.toNat := by
  obtain ⟨n, rfl⟩ := Int.eq_ofNat_of_zero_le h
  unfold cutD
  rw [show HT.sIx ds.length 0 (some (n : Int)) = min n ds.length from HT.sIx_nat _ _ _, HT.sIx_none, Int.toNat_natCast]
  by_cases hn : n ≤ ds.length
  · rw [Nat.min_eq_left hn, List.take_of_length_le (by rw [List.length_drop]; omega)]
  · rw [Nat.min_eq_right (by omega), List.drop_eq_nil_of_le (Nat.le_refl _), List.drop_eq_nil_of_le (by omega)]
    simp
theorem cutD_to {α : Type} (ds : List α) {k : Int} (h : 0 ≤ k) : cutD ds none (some k) = ds.take k.toNat := by
  obtain ⟨n, rfl⟩ := Int.eq_ofNat_of_zero_le h
  unfold cutD
  rw [show HT.sIx ds.length ds.length (some (n : Int)) = min n ds.length from HT.sIx_nat _ _ _, HT.sIx_none, Int.toNat_natCast, Nat.sub_zero, List.drop_zero]
  by_cases hn : n ≤ ds.length
  · rw [Nat.min_eq_left hn]
  · rw [Nat.min_eq_right (by omega), List.take_length, List.take_of_length_le (by omega)]
theorem cutD_both {α : Type} (ds : List α) {a b : Int} (h : 0 ≤ a) (h2 : 0 ≤ b) : cutD ds (some a) (some b) = (ds.take b.toNat).drop a.toNat := by
  obtain ⟨n, rfl⟩ := Int.eq_ofNat_of_zero_le h
  obtain ⟨k, rfl⟩ := Int.eq_ofNat_of_zero_le h2
  unfold cutD
  rw [show HT.sIx ds.length 0 (some (n : Int)) = min n ds.length from HT.sIx_nat _ _ _, show HT.sIx ds.length ds.length (some (k : Int)) = min k ds.length from HT.sIx_nat _ _ _, Int.toNat_natCast, Int.toNat_natCast, ← List.drop_take]
  have e1 : List.take (min k ds.length) ds = List.take k ds := by
    by_cases hk : k ≤ ds.length
    · rw [Nat.min_eq_left hk]
    · rw [Nat.min_eq_right (show ds.length ≤ k by omega), List.take_length, List.take_of_length_le (show ds.length ≤ k by omega)]
  rw [e1]
  by_cases hn : n ≤ ds.length
  · rw [Nat.min_eq_left hn]
  · rw [Nat.min_eq_right (show ds.length ≤ n by omega), List.drop_eq_nil_of_le (by rw [List.length_take]; omega), List.drop_eq_nil_of_le (by rw [List.length_take]; omega)]
theorem cutD_butlast {α : Type} (ds : List α) : cutD ds none (some (-1)) = ds.dropLast := by
  unfold cutD
  rw [HT.sIx_none]
  show (List.drop 0 ds).take ((if (-1 : Int) < 0 then ((-1 : Int) + (ds.length : Int)).toNat else min (-1 : Int).toNat ds.length) - 0) = _
  rw [if_pos (by decide), List.drop_zero, List.dropLast_eq_take]
  congr 1
  omega
theorem cutV_D (xs : List V) (lo hi : Option Int) : cutV xs lo hi = cutD xs lo hi := rfl
section
variable {K : PySem.W.Frag} {σ : L2.St} {H : Hp} {Q : VK} {D : Ends} {v x y z : V} {d e : PyData} {ds es : List PyData} {tl te : TE} {ta : TA} {tb : TS} {g : TG} {lo hi : Option Int}
theorem dpa_cut {vs : List V} (h : DpAll K H vs ds) : DpAll K H (cutD vs lo hi) (cutD ds lo hi) := by
  unfold cutD
  rw [dpa_len h]
  exact dpa_take _ (dpa_drop _ h)
theorem w_slD (h : Dp K H v (.list ds)) (q : ∀ p H' xs, H p = none → Same H H' → H' p = some (.lst xs) → Dp K H' (.ref p) (.list (cutD ds lo hi)) → Q (.ref p) H') : rSlL K v lo hi H Q := by
  obtain ⟨a, xs, rfl, hs, ha⟩ := dp_lst h
  exact ⟨a, xs, rfl, hs, fun p hp => q p _ _ hp (same_new hp) upd_same (dp_newL upd_same (dpa_same (same_new hp) (dpa_cut ha)))⟩
theorem w_slV {a : Addr} {xs : List V} (h : SqL K H a xs) (q : ∀ p H', H p = none → Same H H' → H' p = some (.lst (cutD xs lo hi)) → Q (.ref p) H') : rSlL K (.ref a) lo hi H Q :=
  ⟨a, xs, rfl, h, fun p hp => q p _ hp (same_new hp) upd_same⟩
theorem w_slT (h : Dp K H v (.tuple ds)) (q : ∀ p H', Same H H' → Dp K H' (.ref p) (.tuple (cutD ds lo hi)) → Q (.ref p) H') (hne : ¬ (HT.sIx ds.length 0 lo = 0 ∧ HT.sIx ds.length ds.length hi = ds.length)) : ∃ a xs, v = .ref a ∧ SqT K H a xs := by
  obtain ⟨a, xs, rfl, hs, ha⟩ := dp_tup h
  exact ⟨a, xs, rfl, hs⟩
/-- strings -/
theorem w_slS {s : Str} (hz : s.length ≤ sizeLine) (q : Q (.str ⟨(cutD s.cps.toList lo hi).toArray⟩) H) : rSlS (.str s) lo hi H Q := ⟨s, rfl, hz, q⟩
def rForL (K : PySem.W.Frag) (g : TG) (tb : TS) (D : Ends) (σ : L2.St) (x : V) (H1 : Hp) : Prop := ∃ a, x = .ref a ∧ (∃ xs, SqL K H1 a xs) ∧ ∃ W : Nat → Nat → L2.St → Hp → Prop, (∃ m, W 0 m σ H1) ∧ ∀ i m σ H, W i m σ H →
  ((Itl K a).stop i H ∧ D.nx σ H) ∨ ((Itl K a).go i H ∧ ∃ N : L2.St → Hp → Prop, (∀ σ' H', N σ' H' → ∃ m', m' < m ∧ W (i + 1) m' σ' H') ∧ ∀ x H', (Itl K a).yld i H x H' → g x σ H' fun σ2 H2 => tb { D with nx := N, ct := N, bk := D.nx } σ2 H2)
theorem w_forL (h : tl σ H fun x H1 => rForL K g tb D σ x H1) : tFor (iList K tl) g tb D σ H := h
def rForT (K : PySem.W.Frag) (g : TG) (tb : TS) (D : Ends) (σ : L2.St) (x : V) (H1 : Hp) : Prop := ∃ a, x = .ref a ∧ (∃ xs, SqT K H1 a xs) ∧ ∃ W : Nat → Nat → L2.St → Hp → Prop, (∃ m, W 0 m σ H1) ∧ ∀ i m σ H, W i m σ H →
  ((Itt K a).stop i H ∧ D.nx σ H) ∨ ((Itt K a).go i H ∧ ∃ N : L2.St → Hp → Prop, (∀ σ' H', N σ' H' → ∃ m', m' < m ∧ W (i + 1) m' σ' H') ∧ ∀ x H', (Itt K a).yld i H x H' → g x σ H' fun σ2 H2 => tb { D with nx := N, ct := N, bk := D.nx } σ2 H2)
theorem w_forT (h : tl σ H fun x H1 => rForT K g tb D σ x H1) : tFor (iTup K tl) g tb D σ H := h
def rForR (g : TG) (tb : TS) (D : Ends) (σ : L2.St) (lo : Int) (n : Nat) (H1 : Hp) : Prop := ∃ W : Nat → Nat → L2.St → Hp → Prop, (∃ m, W 0 m σ H1) ∧ ∀ i m σ H, W i m σ H →
  ((Itr lo n).stop i H ∧ D.nx σ H) ∨ ((Itr lo n).go i H ∧ ∃ N : L2.St → Hp → Prop, (∀ σ' H', N σ' H' → ∃ m', m' < m ∧ W (i + 1) m' σ' H') ∧ ∀ x H', (Itr lo n).yld i H x H' → g x σ H' fun σ2 H2 => tb { D with nx := N, ct := N, bk := D.nx } σ2 H2)
def rForR1 (g : TG) (tb : TS) (D : Ends) (σ : L2.St) (vs : List V) (H1 : Hp) : Prop := ∃ j : Int, vs = [.int j] ∧ -(2 ^ 62) ≤ j ∧ j < 2 ^ 62 ∧ rForR g tb D σ 0 j.toNat H1
def rForR2 (g : TG) (tb : TS) (D : Ends) (σ : L2.St) (vs : List V) (H1 : Hp) : Prop := ∃ i j : Int, vs = [.int i, .int j] ∧ (-(2 ^ 62) ≤ i ∧ i < 2 ^ 62 ∧ -(2 ^ 62) ≤ j ∧ j < 2 ^ 62) ∧ rForR g tb D σ i (j - i).toNat H1
theorem w_forR1 (h : ta σ H fun vs H1 => rForR1 g tb D σ vs H1) : tFor (iRng1 ta) g tb D σ H := h
theorem w_forR2 (h : ta σ H fun vs H1 => rForR2 g tb D σ vs H1) : tFor (iRng2 ta) g tb D σ H := h
def rForS (g : TG) (tb : TS) (D : Ends) (σ : L2.St) (v : V) (H1 : Hp) : Prop := ∃ x, v = .str x ∧ ∃ W : Nat → Nat → L2.St → Hp → Prop, (∃ m, W 0 m σ H1) ∧ ∀ i m σ H, W i m σ H →
  ((Its x).stop i H ∧ D.nx σ H) ∨ ((Its x).go i H ∧ ∃ N : L2.St → Hp → Prop, (∀ σ' H', N σ' H' → ∃ m', m' < m ∧ W (i + 1) m' σ' H') ∧ ∀ x' H', (Its x).yld i H x' H' → g x' σ H' fun σ2 H2 => tb { D with nx := N, ct := N, bk := D.nx } σ2 H2)
theorem w_forS (h : te σ H fun v H1 => rForS g tb D σ v H1) : tFor (iStr te) g tb D σ H := h
/-- a list walked: at each turn an item by its data -/
theorem forL_by (Pv : Nat → L2.St → Hp → Prop) (src : Dp K H x (.list ds)) (h0 : Pv 0 σ H) (hk : ∀ i σ' H', i ≤ ds.length → Pv i σ' H' → Keep H H')
    (hs : ∀ i d y σ' H', ds[i]? = some d → Dp K H' y d → Pv i σ' H' → g y σ' H' fun σ2 H2 => tb { D with nx := Pv (i + 1), ct := Pv (i + 1), bk := D.nx } σ2 H2) (hd : ∀ σ' H', Pv ds.length σ' H' → D.nx σ' H') : rForL K g tb D σ x H := by
  obtain ⟨a, xs, rfl, hq, ha⟩ := dp_lst src
  have hl := dpa_len ha
  refine ⟨a, rfl, ⟨xs, hq⟩, for_list (xs := xs) Pv h0 (fun i σ' H' hi p => (hk i σ' H' (by omega) p).seqL hq) (fun i y σ' H' hi p => ?_) (fun σ' H' p => hd σ' H' (by rw [← hl]; exact p))⟩
  obtain ⟨d, e1, e2⟩ := dpa_get2 ha hi
  exact hs i d y σ' H' e1 (dp_keep (hk i σ' H' (by have := (List.getElem?_eq_some_iff.mp e1).1; omega) p) e2) p
theorem forT_by (Pv : Nat → L2.St → Hp → Prop) (src : Dp K H x (.tuple ds)) (h0 : Pv 0 σ H) (hk : ∀ i σ' H', i ≤ ds.length → Pv i σ' H' → Keep H H')
    (hs : ∀ i d y σ' H', ds[i]? = some d → Dp K H' y d → Pv i σ' H' → g y σ' H' fun σ2 H2 => tb { D with nx := Pv (i + 1), ct := Pv (i + 1), bk := D.nx } σ2 H2) (hd : ∀ σ' H', Pv ds.length σ' H' → D.nx σ' H') : rForT K g tb D σ x H := by
  obtain ⟨a, xs, rfl, hq, ha⟩ := dp_tup src
  have hl := dpa_len ha
  refine ⟨a, rfl, ⟨xs, hq⟩, for_tup (xs := xs) Pv h0 (fun i σ' H' hi p => (hk i σ' H' (by omega) p).seqT hq) (fun i y σ' H' hi p => ?_) (fun σ' H' p => hd σ' H' (by rw [← hl]; exact p))⟩
  obtain ⟨d, e1, e2⟩ := dpa_get2 ha hi
  exact hs i d y σ' H' e1 (dp_keep (hk i σ' H' (by have := (List.getElem?_eq_some_iff.mp e1).1; omega) p) e2) p
theorem forR1_by {k : Int} (Pv : Nat → L2.St → Hp → Prop) (hz : -(2 ^ 62) ≤ k ∧ k < 2 ^ 62) (h0 : Pv 0 σ H)
    (hs : ∀ (i : Nat) σ' H', (i : Int) < k → Pv i σ' H' → g (.int (i : Int)) σ' H' fun σ2 H2 => tb { D with nx := Pv (i + 1), ct := Pv (i + 1), bk := D.nx } σ2 H2) (hd : ∀ σ' H', Pv k.toNat σ' H' → D.nx σ' H') : rForR1 g tb D σ [.int k] H :=
  ⟨k, rfl, hz.1, hz.2, for_range (lo := 0) (n := k.toNat) Pv h0 (fun i σ' H' hi p => by rw [Int.zero_add]; exact hs i σ' H' (by omega) p) hd⟩
theorem forR2_by {lo k : Int} (Pv : Nat → L2.St → Hp → Prop) (hz : -(2 ^ 62) ≤ lo ∧ lo < 2 ^ 62 ∧ -(2 ^ 62) ≤ k ∧ k < 2 ^ 62) (h0 : Pv 0 σ H)
    (hs : ∀ (i : Nat) σ' H', lo + (i : Int) < k → Pv i σ' H' → g (.int (lo + (i : Int))) σ' H' fun σ2 H2 => tb { D with nx := Pv (i + 1), ct := Pv (i + 1), bk := D.nx } σ2 H2) (hd : ∀ σ' H', Pv (k - lo).toNat σ' H' → D.nx σ' H') : rForR2 g tb D σ [.int lo, .int k] H :=
  ⟨lo, k, rfl, hz, for_range (lo := lo) (n := (k - lo).toNat) Pv h0 (fun i σ' H' hi p => hs i σ' H' (by omega) p) hd⟩
theorem forS_by {s : Str} (Pv : Nat → L2.St → Hp → Prop) (h0 : Pv 0 σ H)
    (hs : ∀ (i : Nat) c σ' H', s.cps.toList[i]? = some c → Pv i σ' H' → g (.str ⟨#[c]⟩) σ' H' fun σ2 H2 => tb { D with nx := Pv (i + 1), ct := Pv (i + 1), bk := D.nx } σ2 H2) (hd : ∀ σ' H', Pv s.length σ' H' → D.nx σ' H') : rForS g tb D σ (.str s) H := by
  refine ⟨s, rfl, fun i m σ H => m = s.length - i ∧ i ≤ s.length ∧ Pv i σ H, ⟨s.length, by simp, Nat.zero_le _, h0⟩, ?_⟩
  rintro i m σ H ⟨rfl, hi, p⟩
  by_cases hlt : i < s.length
  · refine .inr ⟨hlt, Pv (i + 1), fun σ' H' p' => ⟨s.length - (i + 1), by omega, rfl, hlt, p'⟩, fun x H' y => ?_⟩
    obtain ⟨e, c, hc, rfl⟩ := y
    subst e
    exact hs i c σ _ (by simpa using hc) p
  · have e : i = s.length := by omega
    subst e
    exact .inl ⟨Nat.le_refl _, hd σ H p⟩
theorem w_gName {j : Nat} {Q : L2.St → Hp → Prop} (q : Q (σ.set j (some v)) H) : gName j v σ H Q := q
theorem w_pw {P : Prop} (h : P) : P := h
end
end Tw
namespace Tw
open PySem PySem.Spec PyProof.Rows L2
/-! ### data without bools and dicts: == is equality -/
def pln : Nat → PyData → Bool
  | _, .none => true
  | _, .int _ => true
  | _, .str x => PyData.strOk x
  | k + 1, .list ds => ds.all (pln k)
  | k + 1, .tuple ds => ds.all (pln k)
  | _, _ => false
theorem pln_shape : ∀ (k : Nat) (d : PyData), pln k d = true → d.canLay0 = true ∧ d.depth ≤ k := by
  intro k
  induction k with
  | zero =>
    intro d h
    cases d <;> simp [pln] at h <;> simp [PyData.canLay0, PyData.depth, h]
  | succ k ih =>
    have all : ∀ ds : List PyData, ds.all (pln k) = true → PyData.canLayAll0 ds = true ∧ PyData.depthAll ds ≤ k := by
      intro ds
      induction ds with
      | nil => intro _; exact ⟨rfl, Nat.zero_le _⟩
      | cons d ds ihd =>
        intro h
        rw [List.all_cons, Bool.and_eq_true] at h
        obtain ⟨a, b⟩ := ih d h.1
        obtain ⟨a', b'⟩ := ihd h.2
        exact ⟨by simp [PyData.canLayAll0, a, a'], by simp only [PyData.depthAll]; omega⟩
    intro d h
    cases d with
    | list ds =>
      obtain ⟨a, b⟩ := all ds (by simpa [pln] using h)
      exact ⟨by simpa [PyData.canLay0] using a, by simp only [PyData.depth]; omega⟩
    | tuple ds =>
      obtain ⟨a, b⟩ := all ds (by simpa [pln] using h)
      exact ⟨by simpa [PyData.canLay0] using a, by simp only [PyData.depth]; omega⟩
    | none => simp [PyData.canLay0, PyData.depth]
    | int i => simp [PyData.canLay0, PyData.depth]
    | str x => simp [pln] at h; simp [PyData.canLay0, PyData.depth, h]
    | bool b => simp [pln] at h
    | dict kvs => simp [pln] at h
theorem pln_shaped {k : Nat} {d : PyData} (h : pln k d = true) (hk : k ≤ 64) : SeqAt.shaped d = true := by
  obtain ⟨a, b⟩ := pln_shape k d h
  unfold SeqAt.shaped
  rw [a, Bool.true_and, decide_eq_true]
  omega
theorem pln_eqv : ∀ (k l : Nat) (d e : PyData), pln k d = true → pln l e = true → (PyData.eqv d e = true ↔ d = e) := by
  intro k
  induction k with
  | zero =>
    intro l d e h1 h2
    cases d <;> simp [pln] at h1 <;> cases e <;> simp [PyData.eqv] <;> cases l <;> simp [pln] at h2
  | succ k ih =>
    have all : ∀ (l : Nat) (ds es : List PyData), ds.all (pln k) = true → es.all (pln l) = true → (PyData.eqvAll ds es = true ↔ ds = es) := by
      intro l ds
      induction ds with
      | nil => intro es _ _; cases es <;> simp [PyData.eqvAll]
      | cons d ds ihd =>
        intro es h1 h2
        cases es with
        | nil => simp [PyData.eqvAll]
        | cons e es =>
          rw [List.all_cons, Bool.and_eq_true] at h1 h2
          simp only [PyData.eqvAll, Bool.and_eq_true, List.cons.injEq]
          rw [ih l d e h1.1 h2.1, ihd es h1.2 h2.2]
    intro l d e h1 h2
    cases d with
    | list ds =>
      cases e with
      | list es =>
        cases l with
        | zero => simp [pln] at h2
        | succ l =>
          have := all l ds es (by simpa [pln] using h1) (by simpa [pln] using h2)
          simpa [PyData.eqv] using this
      | _ => simp [PyData.eqv]
    | tuple ds =>
      cases e with
      | tuple es =>
        cases l with
        | zero => simp [pln] at h2
        | succ l =>
          have := all l ds es (by simpa [pln] using h1) (by simpa [pln] using h2)
          simpa [PyData.eqv] using this
      | _ => simp [PyData.eqv]
    | none => cases e <;> simp [PyData.eqv]
    | int i => cases e <;> simp [PyData.eqv] <;> (cases l <;> simp [pln] at h2)
    | str x => cases e <;> simp [PyData.eqv]
    | bool b => simp [pln] at h1
    | dict kvs => simp [pln] at h1
theorem pln_ints {k : Nat} (ns : List Int) : pln (k + 1) (.list (ns.map PyData.int)) = true := by
  cases k <;> simp [pln, List.all_eq_true]
theorem pln_intsT {k : Nat} (ns : List Int) : pln (k + 1) (.tuple (ns.map PyData.int)) = true := by
  cases k <;> simp [pln, List.all_eq_true]
section
variable {K : PySem.W.Frag} {H : Hp} {Q : VK} {x y : V} {d e : PyData}
theorem w_eqP (h1 : Dp K H x d) (h2 : Dp K H y e) (p1 : pln 9 d = true) (p2 : pln 9 e = true) (q1 : d = e → Q (.bl true) H) (q2 : d ≠ e → Q (.bl false) H) : rEqD K x y H Q := by
  refine ⟨d, e, h1, h2, pln_shaped p1 (by decide), pln_shaped p2 (by decide), ?_⟩
  have r := pln_eqv _ _ d e p1 p2
  cases he : PyData.eqv d e with
  | true => exact q1 (r.mp he)
  | false => exact q2 (fun z => by rw [r.mpr z] at he; cases he)
theorem w_neP (h1 : Dp K H x d) (h2 : Dp K H y e) (p1 : pln 9 d = true) (p2 : pln 9 e = true) (q1 : d = e → Q (.bl false) H) (q2 : d ≠ e → Q (.bl true) H) : rNeD K x y H Q := by
  refine ⟨d, e, h1, h2, pln_shaped p1 (by decide), pln_shaped p2 (by decide), ?_⟩
  have r := pln_eqv _ _ d e p1 p2
  cases he : PyData.eqv d e with
  | true => exact q1 (r.mp he)
  | false => exact q2 (fun z => by rw [r.mpr z] at he; cases he)
end
/-! ### a dict written out -/
def rDisp (p : Addr) (ps : List (V × V)) (H2 : Hp) (Q : VK) : Prop := H2 p = some (.dK []) ∧ ∃ kvs : List (Key × V), ps = kvs.map (fun kv => (kV kv.1, kv.2)) ∧ kvs.length ≤ 15 ∧ Q (.ref p) (upd H2 p (.dK (mergeK [] kvs)))
theorem w_disp {σ : L2.St} {H : Hp} {Q : VK} {trs : List (TE × TE)} (h : ∀ p H0, H p = none → Same H H0 → H0 p = some (.dK []) → tPairs trs σ H0 fun ps H2 => rDisp p ps H2 Q) : tDisp trs σ H Q := fun p hp => h p _ hp (same_new hp) upd_same
theorem w_pp {σ : L2.St} {H : Hp} {Q : List (V × V) → Hp → Prop} {tk tv : TE} {r : List (TE × TE)} (h : tk σ H fun x H1 => tv σ H1 fun y H2 => tPairs r σ H2 fun ps H3 => Q ((x, y) :: ps) H3) : tPairs ((tk, tv) :: r) σ H Q := h
theorem w_pp0 {σ : L2.St} {H : Hp} {Q : List (V × V) → Hp → Prop} (h : Q [] H) : tPairs [] σ H Q := h
theorem pg_tupK {X : Cx} {K : PySem.W.Frag} {es : List Expr} {k : Nat} {t : TGs} {n : Nat} {pos : Pos} (hc : X.calm = true) (hh : PGs X es t) (h : X.K = K := by rfl)
    (hn : (assignEach es X.env).length = n := by rfl) (hst : (assignEach es X.env).findIdx? (·.1) = none := by rfl) : PG X (.Tuple es k pos) (gTup K n t) := h ▸ pg_tup hc hh hn hst
end Tw
namespace Tw
open PySem PySem.Spec PyProof.Rows L2
/-! ### the law's own drawing: its dict -/
def moKvs (left seed : Int) (c : Addr) (spot : Int) : List (Key × V) := [(.inr "left", .int left), (.inr "seed", .int seed), (.inr "cells", .ref c), (.inr "spot", .int spot)]
theorem mo_len {l s : Int} {c : Addr} {p : Int} : (moKvs l s c p).length < sizeLine := by show 4 < sizeLine; decide
/-- a number of the script, or a little more -/
structure Big (n : Int) : Prop where
  lt : n.natAbs < 2 ^ 1048600
theorem Big.mul {i j : Int} (h : Big i) (hb : -(2 ^ 250) < j ∧ j < 2 ^ 250) : CMulX i j := mulx_ok (a := 1048600) (b := 250) h.lt (by omega) (by decide)
theorem Big.bits {n : Int} (h : Builtin.Int.intBits n ≤ 1048576) : Big n := by
  have h1 : n.natAbs < 2 ^ Builtin.Int.intBits n := by
    by_cases h0 : n = 0
    · subst h0; decide
    · unfold Builtin.Int.intBits
      rw [if_neg (by simpa using h0)]
      exact Nat.lt_log2_self
  exact ⟨Nat.lt_of_lt_of_le h1 (Nat.pow_le_pow_right (by decide) (by omega))⟩
theorem Big.small {n : Int} (h : -(2 ^ 250) < n ∧ n < 2 ^ 250) : Big n := by
  exact ⟨Nat.lt_of_lt_of_le (show n.natAbs < 2 ^ 250 by omega) (Nat.pow_le_pow_right (by decide) (by decide))⟩
/-- the dict of the law's draws, at most b of which were made; its cells at c -/
def Mo (H : Hp) (m c : Addr) (b : Nat) : Prop := ∃ (left seed spot : Int) (ns : List Int),
  H m = some (.dK (moKvs left seed c spot)) ∧ H c = some (.lst (ns.map V.int)) ∧ 0 < ns.length ∧ ns.length ≤ 100 ∧ (∀ n ∈ ns, Big n) ∧ 0 ≤ seed ∧ seed < 2147483647 ∧ 0 ≤ spot ∧ spot ≤ b
theorem k_left_seed : ¬ Str.ofString "left" = Str.ofString "seed" := by decide +kernel
theorem k_left_cells : ¬ Str.ofString "left" = Str.ofString "cells" := by decide +kernel
theorem k_left_spot : ¬ Str.ofString "left" = Str.ofString "spot" := by decide +kernel
theorem k_seed_cells : ¬ Str.ofString "seed" = Str.ofString "cells" := by decide +kernel
theorem k_seed_spot : ¬ Str.ofString "seed" = Str.ofString "spot" := by decide +kernel
theorem k_cells_spot : ¬ Str.ofString "cells" = Str.ofString "spot" := by decide +kernel
theorem mo_left {l s : Int} {c : Addr} {p : Int} : valV (moKvs l s c p) (.inr "left") = some (.int l) := by simp [valV, moKvs]
theorem mo_seed {l s : Int} {c : Addr} {p : Int} : valV (moKvs l s c p) (.inr "seed") = some (.int s) := by simp [valV, moKvs, k_left_seed]
theorem mo_cells {l s : Int} {c : Addr} {p : Int} : valV (moKvs l s c p) (.inr "cells") = some (.ref c) := by simp [valV, moKvs, k_left_cells, k_seed_cells]
theorem mo_spot {l s : Int} {c : Addr} {p : Int} : valV (moKvs l s c p) (.inr "spot") = some (.int p) := by simp [valV, moKvs, k_left_spot, k_seed_spot, k_cells_spot]
theorem mo_put_left {l s : Int} {c : Addr} {p z : Int} : putK (moKvs l s c p) (.inr "left") (.int z) = moKvs z s c p := by
  simp [putK, moKvs, k_left_seed, k_left_cells, k_left_spot, Ne.symm k_left_seed, Ne.symm k_left_cells, Ne.symm k_left_spot]
theorem mo_put_spot {l s : Int} {c : Addr} {p z : Int} : putK (moKvs l s c p) (.inr "spot") (.int z) = moKvs l s c z := by
  simp [putK, moKvs, k_left_spot, k_seed_spot, k_cells_spot]
theorem Mo.mono {H : Hp} {m c : Addr} {a b : Nat} (h : Mo H m c a) (l : a ≤ b) : Mo H m c b := by
  obtain ⟨left, seed, spot, ns, h1, h2, h3, h4, h5, h6, h7, h8, h9⟩ := h
  exact ⟨left, seed, spot, ns, h1, h2, h3, h4, h5, h6, h7, h8, by omega⟩
theorem Mo.same {H H' : Hp} {m c : Addr} {a : Nat} (e : Same H H') (h : Mo H m c a) : Mo H' m c a := by
  obtain ⟨left, seed, spot, ns, h1, h2, h⟩ := h
  exact ⟨left, seed, spot, ns, e _ _ h1, e _ _ h2, h⟩
theorem Mo.ne {H : Hp} {m c : Addr} {a : Nat} {D : Addr} (h : Mo H m c a) (hD : H D = none) : c ≠ D := by
  obtain ⟨left, seed, spot, ns, h1, h2, h⟩ := h
  exact ne_of_none h2 hD
theorem Mo.upd {H : Hp} {m c : Addr} {a : Nat} {D : Addr} {o : HO} {xs : List V} (h : Mo H m c a) (hD : H D = some (.lst xs)) (n : c ≠ D) : Mo (upd H D o) m c a := by
  obtain ⟨left, seed, spot, ns, h1, h2, h⟩ := h
  refine ⟨left, seed, spot, ns, ?_, ?_, h⟩
  · rw [upd_ne (ne_of h1 hD (fun z => nomatch z))]; exact h1
  · rw [upd_ne n]; exact h2
theorem Mo.new {H : Hp} {m c : Addr} {a : Nat} {D : Addr} {o : HO} (h : Mo H m c a) (hD : H D = none) : Mo (L2.upd H D o) m c a := h.same (same_new hD)
/-! ### data without lists -/
mutual
def noL : PyData → Bool
  | .list _ => false
  | .dict _ => false
  | .tuple ds => noLs ds
  | .none => true
  | .bool _ => true
  | .int _ => true
  | .str _ => true
def noLs : List PyData → Bool
  | [] => true
  | d :: ds => noL d && noLs ds
end
mutual
theorem dp_upd {K : PySem.W.Frag} {H : Hp} {D : Addr} {o : HO} {xs0 : List V} (hD : H D = some (.lst xs0)) : ∀ (d : PyData) (v : V), noL d = true → Dp K H v d → Dp K (upd H D o) v d
  | .none, _, _, h => by cases h; exact .non
  | .bool b, _, _, h => by cases h; exact .bl b
  | .int i, _, _, h => by cases h; exact .int i
  | .str x, _, _, h => by cases h; exact .str x
  | .list ds, _, n, h => by simp [noL] at n
  | .tuple ds, _, n, h => by
    cases h with
    | tup hs ha =>
      refine .tup ?_ (dpa_upd hD ds _ (by simpa [noL] using n) ha)
      rcases hs with (hs | ⟨ob, hs⟩) | hs
      · exact .inl (.inl (by rw [upd_ne (ne_of hs hD (fun z => nomatch z))]; exact hs))
      · exact .inl (.inr ⟨ob, by rw [upd_ne (ne_of hs hD (fun z => nomatch z))]; exact hs⟩)
      · exact .inr hs
  | .dict _, _, n, h => by cases h
theorem dpa_upd {K : PySem.W.Frag} {H : Hp} {D : Addr} {o : HO} {xs0 : List V} (hD : H D = some (.lst xs0)) : ∀ (ds : List PyData) (vs : List V), noLs ds = true → DpAll K H vs ds → DpAll K (upd H D o) vs ds
  | [], _, _, h => by cases h; exact .nil
  | d :: ds, _, n, h => by
    simp only [noLs, Bool.and_eq_true] at n
    cases h with
    | cons h1 h2 => exact .cons (dp_upd hD d _ n.1 h1) (dpa_upd hD ds _ n.2 h2)
end
theorem noLs_app : ∀ {ds es : List PyData}, noLs ds = true → noLs es = true → noLs (ds ++ es) = true
  | [], _, _, h => h
  | d :: ds, es, n, h => by
    simp only [noLs, Bool.and_eq_true] at n
    simp only [List.cons_append, noLs, Bool.and_eq_true]
    exact ⟨n.1, noLs_app n.2 h⟩
theorem noLs_one {d : PyData} (h : noL d = true) : noLs [d] = true := by simp [noLs, h]

/-! ### comprehensions -/
section
variable {K : PySem.W.Frag} {σ : L2.St} {H H1 : Hp} {Q : VK} {x : V} {ds : List PyData} {j : Nat} {vs : List Nat} {tt : TT} {te tl : TE} {ta : TA}
/-- what holds between two turns of a comprehension: i turns, the data made so far, the heap -/
structure LcJ (H1 : Hp) (J : Nat → List PyData → Hp → Prop) : Prop where
  start : ∀ D, H1 D = none → J 0 [] (L2.upd H1 D (.lst []))
  keep : ∀ i es H', J i es H' → Keep H1 H'
  upd : ∀ i es H' D xs o, H1 D = none → H' D = some (.lst xs) → J i es H' → J i es (L2.upd H' D o)
def LcP (K : PySem.W.Frag) (J : Nat → List PyData → Hp → Prop) (D : Addr) (i : Nat) (H' : Hp) : Prop :=
  ∃ vs es, H' D = some (.lst vs) ∧ DpAll K H' vs es ∧ noLs es = true ∧ es.length ≤ i ∧ J i es H'
def LcTurn (K : PySem.W.Frag) (J : Nat → List PyData → Hp → Prop) (tt : TT) (te : TE) (σx : L2.St) (i : Nat) (es : List PyData) (H' : Hp) : Prop :=
  ∀ (Yes : VK) (No : Hp → Prop), (∀ z H4 e, Keep H' H4 → noL e = true → Dp K H4 z e → J (i + 1) (es ++ [e]) H4 → Yes z H4) → (∀ H3, Keep H' H3 → J (i + 1) es H3 → No H3) →
    tt σx H' fun b H3 => if b = true then te σx H3 Yes else No H3
theorem lc_turn {J : Nat → List PyData → Hp → Prop} (lj : LcJ H1 J) {D : Addr} (hD : H1 D = none) {i : Nat} (hi : i < 1000000) {H' : Hp} {σx : L2.St} (p : LcP K J D i H') (turn : ∀ es, J i es H' → LcTurn K J tt te σx i es H') :
    tt σx H' fun b H3 => if b = true then te σx H3 fun y H4 => ∃ acc, H4 D = some (.lst acc) ∧ acc.length < sizeLine ∧ LcP K J D (i + 1) (L2.upd H4 D (.lst (acc ++ [y]))) else LcP K J D (i + 1) H3 := by
  obtain ⟨vs, es, p1, p2, p3, p4, p5⟩ := p
  have hs : sizeLine = 16777216 := sizeLine_eq
  refine turn es p5 _ _ (fun z H4 e k n dz j => ?_) (fun H3 k j => ?_)
  · have l := dpa_len p2
    refine ⟨vs, k.l p1, by omega, _, es ++ [e], upd_same, ?_, noLs_app p3 (noLs_one n), by simp; omega, lj.upd _ _ _ _ vs _ hD (k.l p1) j⟩
    exact dpa_app (dpa_upd (k.l p1) _ _ p3 (dpa_keep k p2)) (dpa_one (dp_upd (k.l p1) _ _ n dz))
  · exact ⟨vs, es, k.l p1, dpa_keep k p2, p3, by omega, j⟩
def rLcL (K : PySem.W.Frag) (j : Nat) (tt : TT) (te : TE) (vs : List Nat) (σ : L2.St) (x : V) (H1 : Hp) (Q : VK) : Prop := ∃ a, x = .ref a ∧ (∃ xs, SqL K H1 a xs) ∧ ∀ D, H1 D = none → ∃ W : Nat → Nat → Hp → Prop, (∃ m, W 0 m (L2.upd H1 D (.lst []))) ∧ ∀ i m H, W i m H →
  ((Itl K a).stop i H ∧ Q (.ref D) H) ∨ ((Itl K a).go i H ∧ ∃ Nx : Hp → Prop, (∀ H', Nx H' → ∃ m', m' < m ∧ W (i + 1) m' H') ∧ ∀ x H', (Itl K a).yld i H x H' → gName j x (wipe σ vs) H' fun σ2 H2 => wipe σ2 vs = wipe σ vs ∧ tt σ2 H2 fun b H3 =>
    if b = true then te σ2 H3 fun y H4 => ∃ acc, H4 D = some (.lst acc) ∧ acc.length < sizeLine ∧ Nx (L2.upd H4 D (.lst (acc ++ [y]))) else Nx H3)
theorem w_lcL (h : tl σ H fun x H1 => rLcL K j tt te vs σ x H1 Q) : tLc (iList K tl) (gName j) tt te vs σ H Q := h
theorem lc_list_by (J : Nat → List PyData → Hp → Prop) (lj : LcJ H1 J) (src : Dp K H1 x (.list ds)) (hz : ds.length ≤ 1000000) (hw : ∀ x, wipe ((wipe σ vs).set j (some x)) vs = wipe σ vs)
    (turn : ∀ i d y H' es, ds[i]? = some d → Dp K H' y d → J i es H' → LcTurn K J tt te ((wipe σ vs).set j (some y)) i es H')
    (done : ∀ p H' vs es, H1 p = none → Keep H1 H' → H' p = some (.lst vs) → Dp K H' (.ref p) (.list es) → J ds.length es H' → Q (.ref p) H') : rLcL K j tt te vs σ x H1 Q := by
  obtain ⟨a, xs, rfl, hs, ha⟩ := dp_lst src
  have hl := dpa_len ha
  refine ⟨a, rfl, ⟨xs, hs⟩, fun D hD => lc_list (xs := xs) (LcP K J D) ⟨[], [], upd_same, .nil, rfl, Nat.le_refl _, lj.start D hD⟩ (fun i H' _ p => ?_) (fun i y H' hi p => ⟨hw y, lc_turn lj hD ?_ p fun es q => ?_⟩) fun H' p => ?_⟩
  · obtain ⟨vs, es, p1, p2, p3, p4, p5⟩ := p
    exact (lj.keep _ _ _ p5).seqL hs
  · have := (List.getElem?_eq_some_iff.mp hi).1; omega
  · obtain ⟨d, e1, e2⟩ := dpa_get2 ha hi
    exact turn i d y H' es e1 (dp_keep (lj.keep _ _ _ q) e2) q
  · obtain ⟨vs, es, p1, p2, p3, p4, p5⟩ := p
    rw [hl] at p5
    exact done D H' vs es hD (lj.keep _ _ _ p5) p1 (dp_newL p1 p2) p5
def rLcT (K : PySem.W.Frag) (j : Nat) (tt : TT) (te : TE) (vs : List Nat) (σ : L2.St) (x : V) (H1 : Hp) (Q : VK) : Prop := ∃ a, x = .ref a ∧ (∃ xs, SqT K H1 a xs) ∧ ∀ D, H1 D = none → ∃ W : Nat → Nat → Hp → Prop, (∃ m, W 0 m (L2.upd H1 D (.lst []))) ∧ ∀ i m H, W i m H →
  ((Itt K a).stop i H ∧ Q (.ref D) H) ∨ ((Itt K a).go i H ∧ ∃ Nx : Hp → Prop, (∀ H', Nx H' → ∃ m', m' < m ∧ W (i + 1) m' H') ∧ ∀ x H', (Itt K a).yld i H x H' → gName j x (wipe σ vs) H' fun σ2 H2 => wipe σ2 vs = wipe σ vs ∧ tt σ2 H2 fun b H3 =>
    if b = true then te σ2 H3 fun y H4 => ∃ acc, H4 D = some (.lst acc) ∧ acc.length < sizeLine ∧ Nx (L2.upd H4 D (.lst (acc ++ [y]))) else Nx H3)
theorem w_lcT (h : tl σ H fun x H1 => rLcT K j tt te vs σ x H1 Q) : tLc (iTup K tl) (gName j) tt te vs σ H Q := h
theorem lc_tup_by (J : Nat → List PyData → Hp → Prop) (lj : LcJ H1 J) (src : Dp K H1 x (.tuple ds)) (hz : ds.length ≤ 1000000) (hw : ∀ x, wipe ((wipe σ vs).set j (some x)) vs = wipe σ vs)
    (turn : ∀ i d y H' es, ds[i]? = some d → Dp K H' y d → J i es H' → LcTurn K J tt te ((wipe σ vs).set j (some y)) i es H')
    (done : ∀ p H' vs es, H1 p = none → Keep H1 H' → H' p = some (.lst vs) → Dp K H' (.ref p) (.list es) → J ds.length es H' → Q (.ref p) H') : rLcT K j tt te vs σ x H1 Q := by
  obtain ⟨a, xs, rfl, hs, ha⟩ := dp_tup src
  have hl := dpa_len ha
  refine ⟨a, rfl, ⟨xs, hs⟩, fun D hD => lc_tup (xs := xs) (LcP K J D) ⟨[], [], upd_same, .nil, rfl, Nat.le_refl _, lj.start D hD⟩ (fun i H' _ p => ?_) (fun i y H' hi p => ⟨hw y, lc_turn lj hD ?_ p fun es q => ?_⟩) fun H' p => ?_⟩
  · obtain ⟨vs, es, p1, p2, p3, p4, p5⟩ := p
    exact (lj.keep _ _ _ p5).seqT hs
  · have := (List.getElem?_eq_some_iff.mp hi).1; omega
  · obtain ⟨d, e1, e2⟩ := dpa_get2 ha hi
    exact turn i d y H' es e1 (dp_keep (lj.keep _ _ _ q) e2) q
  · obtain ⟨vs, es, p1, p2, p3, p4, p5⟩ := p
    rw [hl] at p5
    exact done D H' vs es hD (lj.keep _ _ _ p5) p1 (dp_newL p1 p2) p5
def rLcR (j : Nat) (tt : TT) (te : TE) (us : List Nat) (σ : L2.St) (lo : Int) (n : Nat) (H1 : Hp) (Q : VK) : Prop := ∀ D, H1 D = none → ∃ W : Nat → Nat → Hp → Prop, (∃ m, W 0 m (L2.upd H1 D (.lst []))) ∧ ∀ i m H, W i m H →
  ((Itr lo n).stop i H ∧ Q (.ref D) H) ∨ ((Itr lo n).go i H ∧ ∃ Nx : Hp → Prop, (∀ H', Nx H' → ∃ m', m' < m ∧ W (i + 1) m' H') ∧ ∀ x H', (Itr lo n).yld i H x H' → gName j x (wipe σ us) H' fun σ2 H2 => wipe σ2 us = wipe σ us ∧ tt σ2 H2 fun b H3 =>
    if b = true then te σ2 H3 fun y H4 => ∃ acc, H4 D = some (.lst acc) ∧ acc.length < sizeLine ∧ Nx (L2.upd H4 D (.lst (acc ++ [y]))) else Nx H3)
def rLcR1 (j : Nat) (tt : TT) (te : TE) (us : List Nat) (σ : L2.St) (vs : List V) (H1 : Hp) (Q : VK) : Prop := ∃ k : Int, vs = [.int k] ∧ -(2 ^ 62) ≤ k ∧ k < 2 ^ 62 ∧ rLcR j tt te us σ 0 k.toNat H1 Q
def rLcR2 (j : Nat) (tt : TT) (te : TE) (us : List Nat) (σ : L2.St) (vs : List V) (H1 : Hp) (Q : VK) : Prop := ∃ i k : Int, vs = [.int i, .int k] ∧ (-(2 ^ 62) ≤ i ∧ i < 2 ^ 62 ∧ -(2 ^ 62) ≤ k ∧ k < 2 ^ 62) ∧ rLcR j tt te us σ i (k - i).toNat H1 Q
theorem w_lcR1 (h : ta σ H fun ws H1 => rLcR1 j tt te vs σ ws H1 Q) : tLc (iRng1 ta) (gName j) tt te vs σ H Q := h
theorem w_lcR2 (h : ta σ H fun ws H1 => rLcR2 j tt te vs σ ws H1 Q) : tLc (iRng2 ta) (gName j) tt te vs σ H Q := h
theorem lc_rng_by {lo : Int} {n : Nat} (J : Nat → List PyData → Hp → Prop) (lj : LcJ H1 J) (hz : n ≤ 1000000) (hw : ∀ x, wipe ((wipe σ vs).set j (some x)) vs = wipe σ vs)
    (turn : ∀ (i : Nat) H' es, i < n → J i es H' → LcTurn K J tt te ((wipe σ vs).set j (some (.int (lo + (i : Int))))) i es H')
    (done : ∀ p H' vs es, H1 p = none → Keep H1 H' → H' p = some (.lst vs) → Dp K H' (.ref p) (.list es) → J n es H' → Q (.ref p) H') : rLcR j tt te vs σ lo n H1 Q := by
  refine fun D hD => lc_range (lo := lo) (n := n) (LcP K J D) ⟨[], [], upd_same, .nil, rfl, Nat.le_refl _, lj.start D hD⟩ (fun i H' hi p => ⟨hw _, lc_turn lj hD (by omega) p fun es q => turn i H' es hi q⟩) fun H' p => ?_
  obtain ⟨vs, es, p1, p2, p3, p4, p5⟩ := p
  exact done D H' vs es hD (lj.keep _ _ _ p5) p1 (dp_newL p1 p2) p5
theorem lc_rng1_by {k : Int} (J : Nat → List PyData → Hp → Prop) (lj : LcJ H1 J) (hz : 0 ≤ k ∧ k ≤ 1000000) (hw : ∀ x, wipe ((wipe σ vs).set j (some x)) vs = wipe σ vs)
    (turn : ∀ (i : Nat) H' es, (i : Int) < k → J i es H' → LcTurn K J tt te ((wipe σ vs).set j (some (.int (i : Int)))) i es H')
    (done : ∀ p H' vs es, H1 p = none → Keep H1 H' → H' p = some (.lst vs) → Dp K H' (.ref p) (.list es) → J k.toNat es H' → Q (.ref p) H') : rLcR1 j tt te vs σ [.int k] H1 Q := by
  refine ⟨k, rfl, by omega, by omega, lc_rng_by (K := K) J lj (by omega) hw (fun i H' es hi q => ?_) done⟩
  rw [Int.zero_add]
  exact turn i H' es (by omega) q
theorem lc_rng2_by {lo k : Int} (J : Nat → List PyData → Hp → Prop) (lj : LcJ H1 J) (hz : -1000000 ≤ lo ∧ lo ≤ 1000000 ∧ -1000000 ≤ k ∧ k ≤ 1000000 ∧ k - lo ≤ 1000000) (hw : ∀ x, wipe ((wipe σ vs).set j (some x)) vs = wipe σ vs)
    (turn : ∀ (i : Nat) H' es, lo + (i : Int) < k → J i es H' → LcTurn K J tt te ((wipe σ vs).set j (some (.int (lo + (i : Int))))) i es H')
    (done : ∀ p H' vs es, H1 p = none → Keep H1 H' → H' p = some (.lst vs) → Dp K H' (.ref p) (.list es) → J (k - lo).toNat es H' → Q (.ref p) H') : rLcR2 j tt te vs σ [.int lo, .int k] H1 Q :=
  ⟨lo, k, rfl, by omega, lc_rng_by (K := K) J lj (by omega) hw (fun i H' es hi q => turn i H' es (by omega) q) done⟩
theorem w_tYes {Q : Bool → Hp → Prop} (q : Q true H) : tYes σ H Q := q
/-- nothing but new objects: a word about the turns and the data -/
def JP (H1 : Hp) (R : Nat → List PyData → Prop) (i : Nat) (es : List PyData) (H' : Hp) : Prop := Same H1 H' ∧ R i es
theorem JP.ok {R : Nat → List PyData → Prop} (r0 : R 0 []) : LcJ H1 (JP H1 R) where
  start := fun D hD => ⟨same_new hD, r0⟩
  keep := fun _ _ _ h => Keep.of h.1
  upd := fun _ _ _ _ _ _ hD _ h => ⟨same_mut h.1 hD, h.2⟩
/-- .. and draws, at most n a turn -/
def JM (H1 : Hp) (m c : Addr) (b n : Nat) (R : Nat → List PyData → Prop) (i : Nat) (es : List PyData) (H' : Hp) : Prop := Keep H1 H' ∧ Mo H' m c (b + n * i) ∧ R i es
theorem JM.ok {m c : Addr} {b n : Nat} {R : Nat → List PyData → Prop} (hm : Mo H1 m c b) (r0 : R 0 []) : LcJ H1 (JM H1 m c b n R) where
  start := fun D hD => ⟨Keep.of (same_new hD), hm.new hD, r0⟩
  keep := fun _ _ _ h => h.1
  upd := fun _ _ _ _ _ _ hD hx h => ⟨keep_mut h.1 hD, h.2.1.upd hx (hm.ne hD), h.2.2⟩
end
end Tw
namespace Tw
open PySem PySem.Spec PyProof.Rows L2
/-! ### texts as lists of codes -/
def Sg (l : List Nat) : Str := ⟨l.toArray⟩
theorem sg_tl (l : List Nat) : (Sg l).cps.toList = l := by simp [Sg]
theorem sg_len (l : List Nat) : (Sg l).length = l.length := by simp [Sg, Str.length]
theorem sg_app (a b : List Nat) : Sg a ++ Sg b = Sg (a ++ b) := by
  show Str.append (Sg a) (Sg b) = _
  simp [Sg, Str.append]
theorem sg_inj {a b : List Nat} (h : Sg a = Sg b) : a = b := by
  have := congrArg (fun s : Str => s.cps.toList) h
  simpa [Sg] using this
theorem sg_eq {a b : List Nat} : Sg a = Sg b ↔ a = b := ⟨sg_inj, fun h => by rw [h]⟩
theorem sg_one (c : Nat) : (⟨#[c]⟩ : Str) = Sg [c] := rfl
theorem sg_of (s : Str) : ∃ l, s = Sg l := ⟨s.cps.toList, by simp [Sg]⟩
theorem sg_V {a b : List Nat} : (V.str (Sg a) = V.str (Sg b)) ↔ a = b := by
  constructor
  · intro h; exact sg_inj (V.str.inj h)
  · intro h; rw [h]
theorem sg_join (ys : List (List Nat)) : Txt.join (Sg []) (ys.map Sg) = Sg ys.flatten := by
  rw [TL.join_eq]
  induction ys with
  | nil => rfl
  | cons a r ih =>
    cases r with
    | nil => simp [Str.join]
    | cons b r =>
      show Str.append (Str.append (Sg a) (Sg [])) (Str.join (Sg []) (Sg b :: r.map Sg)) = _
      rw [show Sg b :: r.map Sg = (b :: r).map Sg from rfl, ih]
      simp [Sg, Str.append]
theorem sg_empty : Str.ofString "" = Sg [] := by decide +kernel
theorem sg_cut (l : List Nat) (lo hi : Option Int) : (⟨(cutD (Sg l).cps.toList lo hi).toArray⟩ : Str) = Sg (cutD l lo hi) := by simp [Sg]
section
variable {K : PySem.W.Frag} {H : Hp} {Q : VK} {v : V} {lo hi : Option Int}
theorem w_ixSg {l : List Nat} {n : Int} (hz : l.length ≤ 1000000) (h0 : 0 ≤ n) (h1 : n < (l.length : Int)) (q : ∀ c, l[n.toNat]? = some c → Q (.str (Sg [c])) H) : rIxS (.str (Sg l)) (.int n) H Q := by
  have hl : n.toNat < l.length := by omega
  have hs : sizeLine = 16777216 := sizeLine_eq
  exact w_ixS (j := n.toNat) (c := l[n.toNat]) (by rw [sg_len]; omega) (by omega) (by rw [sg_tl]; exact List.getElem?_eq_getElem hl) (q _ (List.getElem?_eq_getElem hl))
theorem w_ixSgLast {l : List Nat} (hz : l.length ≤ 1000000) (h1 : l ≠ []) (q : Q (.str (Sg [l.getLast h1])) H) : rIxS (.str (Sg l)) (.int (-1)) H Q := by
  have hs : sizeLine = 16777216 := sizeLine_eq
  refine ⟨Sg l, -1, l.getLast h1, rfl, rfl, by rw [sg_len]; omega, ?_, q⟩
  rw [sg_tl]
  have e : l = l.dropLast ++ [l.getLast h1] := (List.dropLast_concat_getLast h1).symm
  rw [show atI l (-1) = atI (l.dropLast ++ [l.getLast h1]) (-1) by rw [← e]]
  exact atI_last _ _
theorem w_lenSg {l : List Nat} (h : l.length ≤ 1000000) (q : Q (.int (l.length : Int)) H) : rLen K [.str (Sg l)] H Q := by
  have hs : sizeLine = 16777216 := sizeLine_eq
  refine w_lenS (by rw [sg_len]; omega) ?_
  rw [sg_len]; exact q
theorem w_addSg {a b : List Nat} (h : a.length + b.length ≤ 1000000) (q : Q (.str (Sg (a ++ b))) H) : rAddStr (.str (Sg a)) (.str (Sg b)) H Q := by
  have hs : sizeLine = 16777216 := sizeLine_eq
  refine w_addS (by rw [sg_len, sg_len]; omega) ?_
  rw [sg_app]; exact q
theorem w_slSg {l : List Nat} (h : l.length ≤ 1000000) (q : Q (.str (Sg (cutD l lo hi))) H) : rSlS (.str (Sg l)) lo hi H Q := by
  have hs : sizeLine = 16777216 := sizeLine_eq
  refine w_slS (by rw [sg_len]; omega) ?_
  rw [sg_cut]; exact q
theorem w_eqSg {a b : List Nat} (q1 : a = b → Q (.bl true) H) (q2 : a ≠ b → Q (.bl false) H) : rEq (.str (Sg a)) (.str (Sg b)) H Q := by
  refine ⟨rfl, ?_⟩
  by_cases h : a = b
  · rw [decide_eq_true (sg_V.mpr h)]; exact q1 h
  · rw [decide_eq_false (fun z => h (sg_V.mp z))]; exact q2 h
theorem w_neSg {a b : List Nat} (q1 : a = b → Q (.bl false) H) (q2 : a ≠ b → Q (.bl true) H) : rNe (.str (Sg a)) (.str (Sg b)) H Q := by
  refine ⟨rfl, ?_⟩
  by_cases h : a = b
  · rw [decide_eq_true (sg_V.mpr h)]; exact q1 h
  · rw [decide_eq_false (fun z => h (sg_V.mp z))]; exact q2 h
theorem w_joinSg {ys : List (List Nat)} (h : Dp K H v (.list (ys.map fun y => PyData.str (Sg y)))) (hz : ys.flatten.length ≤ 1000000) (q : Q (.str (Sg ys.flatten)) H) : rJoin K (.str (Sg [])) [v] H Q := by
  refine w_join (ys := ys.map Sg) (by rw [List.map_map]; exact h) ?_ (by rw [sg_join]; exact q)
  rw [List.map_map, sg_len, List.length_nil, Nat.mul_zero, Nat.add_zero]
  have e : (ys.map ((·.length) ∘ Sg)).sum = ys.flatten.length := by
    rw [List.length_flatten]
    congr 1
    first
    | done
    | (apply List.map_congr_left; intro a _; exact sg_len a)
  omega
end
section
variable {K : PySem.W.Frag} {H : Hp} {Q : VK} {v x : V} {ds : List PyData}
theorem cl_isi {X : Cx} {K : PySem.W.Frag} (h : X.K = K := by rfl) : CallR X (.builtin "isinstance") (rIsi K) := h ▸ call_isi
theorem w_isiY {t n : String} (ty : TyX K H x (.type t)) (h : kitB t n = some true) (q : Q (.bl true) H) : rIsi K [x, .ty n] H Q := ⟨x, .ty n, .type t, .type n, true, rfl, .ty n, ty, kit_ty h, q⟩
theorem w_isiN {t n : String} (ty : TyX K H x (.type t)) (h : kitB t n = some false) (q : Q (.bl false) H) : rIsi K [x, .ty n] H Q := ⟨x, .ty n, .type t, .type n, false, rfl, .ty n, ty, kit_ty h, q⟩
theorem ty_tup (h : Dp K H v (.tuple ds)) : TyX K H v (.type "tuple") := by
  obtain ⟨a, xs, rfl, hs, ha⟩ := dp_tup h
  rcases hs with (hs | ⟨o, hs⟩) | ⟨o, its, n, e, c, _⟩
  · exact .base (.tup hs)
  · exact .fTuple hs
  · exact .kTuple e c
theorem ty_lst (h : Dp K H v (.list ds)) : TyX K H v (.type "list") := by
  obtain ⟨a, xs, rfl, hs, ha⟩ := dp_lst h
  rcases hs with (hs | ⟨o, hs⟩) | ⟨o, its, n, e, c, _⟩
  · exact .base (.lst hs)
  · exact .base (.frz hs)
  · exact .kList e c
theorem ty_int {i : Int} : TyX K H (.int i) (.type "int") := .base (.int i)
theorem ty_non : TyX K H .non (.type "NoneType") := .base .non
theorem ty_bl {b : Bool} : TyX K H (.bl b) (.type "bool") := .base (.bl b)
theorem ty_str {s : Str} : TyX K H (.str s) (.type "str") := .base (.str s)
end
end Tw
namespace Tw
open PySem PySem.Spec PyProof.Rows L2
/-! ### a text's first occurrence from a place on -/
section
open PySem.StrLaws PySem.Builtin PySem.Builtin.Str
theorem occ_full (s sub : Str) (hi : Nat) : ∀ (l : List Nat) (st : Array Nat × Nat), st.fst.size = 1 → (forIn l st (occBody s sub hi 1)).run.fst = st.fst
  | [], st, h => rfl
  | a :: l, st, h => by
    rw [List.forIn_cons]
    unfold occBody
    rw [if_neg (fun z => by have := z.1.1.1; omega)]
    exact occ_full s sub hi l _ h
theorem occ_first (s sub : Str) (hi p : Nat) : ∀ (l1 l2 : List Nat) (free : Nat), (∀ i ∈ l1, ¬ (i + sub.length ≤ hi ∧ subAt s sub i = true)) → free ≤ p → p + sub.length ≤ hi → subAt s sub p = true →
    (forIn (l1 ++ p :: l2) ((#[] : Array Nat), free) (occBody s sub hi 1)).run.fst = #[p]
  | [], l2, free, _, hf, h1, h2 => by
    rw [List.nil_append, List.forIn_cons]
    unfold occBody
    rw [if_pos ⟨⟨⟨by simp, hf⟩, h1⟩, h2⟩]
    exact occ_full s sub hi l2 _ (by simp)
  | a :: l1, l2, free, h, hf, h1, h2 => by
    rw [List.cons_append, List.forIn_cons]
    unfold occBody
    rw [if_neg (fun z => h a List.mem_cons_self ⟨z.1.2, z.2⟩)]
    exact occ_first s sub hi p l1 l2 free (fun i hi' => h i (List.mem_cons_of_mem _ hi')) hf h1 h2
theorem find3_first {x y : Str} {p : Nat} (hp : 1 ≤ p) (h1 : p + y.length ≤ x.length) (h2 : subAt x y p = true) (h3 : ∀ i, 1 ≤ i → i < p → subAt x y i = false) : Txt.find3 x y 1 = (p : Int) := by
  have e : occurrences x y (fromIndex x.length 1) x.length 1 = [p] := by
    rw [show fromIndex x.length 1 = 1 from rfl, occ_eq]
    have es : List.range' 1 (x.length + 1 - 1) = List.range' 1 (p - 1) ++ p :: List.range' (p + 1) (x.length - p) := by
      rw [show x.length + 1 - 1 = (p - 1) + (x.length - p + 1) by omega, ← List.range'_append_1, show 1 + (p - 1) = p by omega]
      rfl
    rw [es, occ_first x y x.length p _ _ 1 (fun i hi hc => ?_) hp h1 h2]
    obtain ⟨i1, i2⟩ := List.mem_range'_1.mp hi
    rw [h3 i i1 (by omega)] at hc
    exact absurd hc.2 Bool.false_ne_true
  unfold Txt.find3
  rw [e]
end
/-! ### endless rows -/
def cz (c : List Nat) (z : Int) : Nat := c.getD (z % (c.length : Int)).toNat 0
def rz (h c : List Nat) (k : Int) : Nat := if k < h.length then h.getD k.toNat 0 else cz c (k - h.length)
def Per (c : List Nat) (p : Int) : Prop := ∀ z, cz c (z + p) = cz c z
theorem per_len (c : List Nat) : Per c c.length := fun z => by unfold cz; rw [Int.add_emod_right]
theorem Per.add {c : List Nat} {p q : Int} (a : Per c p) (b : Per c q) : Per c (p + q) := fun z => by rw [← Int.add_assoc, b, a]
theorem Per.neg {c : List Nat} {p : Int} (a : Per c p) : Per c (-p) := fun z => by
  have := a (z + -p)
  rw [show z + -p + p = z by omega] at this
  exact this.symm
theorem Per.mul {c : List Nat} {p : Int} (a : Per c p) : ∀ n : Nat, Per c (p * n)
  | 0 => fun z => by simp
  | n + 1 => by
    have := (Per.mul a n).add a
    rw [show p * ((n + 1 : Nat) : Int) = p * n + p by rw [Int.natCast_add, Int.mul_add]; simp]
    exact this
theorem Per.mulz {c : List Nat} {p : Int} (a : Per c p) (k : Int) : Per c (p * k) := by
  rcases Int.natAbs_eq k with e | e
  · rw [e]; exact a.mul _
  · rw [e, Int.mul_neg]; exact (a.mul _).neg
theorem Per.emod {c : List Nat} {p q : Int} (a : Per c p) (b : Per c q) : Per c (q % p) := by
  rw [Int.emod_def]
  have := b.add (a.mulz (q / p)).neg
  rw [← Int.sub_eq_add_neg] at this
  exact this
/-- the least period -/
def MinP (c : List Nat) (p : Nat) : Prop := 0 < p ∧ Per c p ∧ ∀ q : Nat, 0 < q → q < p → ¬ Per c q
theorem MinP.dvd {c : List Nat} {p n : Nat} (h : MinP c p) (hn : Per c n) : p ∣ n := by
  have h1 := h.2.1.emod hn
  by_cases h0 : n % p = 0
  · exact Nat.dvd_of_mod_eq_zero h0
  · refine absurd ?_ (h.2.2 (n % p) (by omega) (Nat.mod_lt _ h.1))
    rw [Int.natCast_emod]
    exact h1
theorem minP_exists (c : List Nat) (hc : c ≠ []) : ∃ p, MinP c p := by
  have hl : 0 < c.length := List.length_pos_iff.mpr hc
  have key : ∀ n : Nat, ∀ q : Nat, q ≤ n → 0 < q → Per c q → ∃ p, MinP c p := by
    intro n
    induction n with
    | zero => intro q h1 h2; omega
    | succ n ih =>
      intro q h1 h2 h3
      by_cases hm : ∃ r : Nat, 0 < r ∧ r < q ∧ Per c r
      · obtain ⟨r, r1, r2, r3⟩ := hm
        exact ih r (by omega) r1 r3
      · exact ⟨q, h2, h3, fun r r1 r2 r3 => hm ⟨r, r1, r2, r3⟩⟩
  exact key c.length c.length (Nat.le_refl _) hl (per_len c)
theorem cz_nat {c : List Nat} {i : Nat} (h : i < c.length) : cz c i = c[i] := by
  unfold cz
  rw [Int.emod_eq_of_lt (by omega) (by omega), Int.toNat_natCast, List.getD_eq_getElem?_getD, List.getElem?_eq_getElem h]
  rfl
theorem cz_last {c : List Nat} (h : c ≠ []) : cz c (-1) = c.getLast h := by
  have hl : 0 < c.length := List.length_pos_iff.mpr h
  have := per_len c (-1)
  rw [← this, show (-1 : Int) + c.length = ((c.length - 1 : Nat) : Int) by omega, cz_nat (by omega), List.getLast_eq_getElem]
theorem cz_ext {c d : List Nat} (hl : c.length = d.length) (h : ∀ i : Nat, i < c.length → cz c i = cz d i) : c = d := by
  refine List.ext_getElem hl fun i h1 h2 => ?_
  have := h i h1
  rw [cz_nat h1, cz_nat h2] at this
  exact this
/-- a row in its least form -/
structure LF (h c : List Nat) : Prop where
  ne : c ≠ []
  min : MinP c c.length
  last : ∀ e : h ≠ [], h.getLast e ≠ cz c (-1)
theorem rz_lt {h c : List Nat} {i : Nat} (hi : i < h.length) : rz h c i = h[i] := by
  unfold rz
  rw [if_pos (by omega), Int.toNat_natCast, List.getD_eq_getElem?_getD, List.getElem?_eq_getElem hi]
  rfl
theorem rz_ge {h c : List Nat} {k : Int} (hk : (h.length : Int) ≤ k) : rz h c k = cz c (k - h.length) := by
  unfold rz
  rw [if_neg (by omega)]
/-- two sequences that repeat and agree from a place on agree -/
theorem agree {c d : List Nat} (hc : c ≠ []) (hd : d ≠ []) {s : Int} (h : ∀ z : Int, 0 ≤ z → cz c (z + s) = cz d z) (z : Int) : cz c (z + s) = cz d z := by
  have lc : 0 < c.length := List.length_pos_iff.mpr hc
  have ld : 0 < d.length := List.length_pos_iff.mpr hd
  have p1 := (per_len c).mul (d.length * z.natAbs) (z + s)
  have p2 := (per_len d).mul (c.length * z.natAbs) z
  have e : (c.length : Int) * ((d.length * z.natAbs : Nat) : Int) = (d.length : Int) * ((c.length * z.natAbs : Nat) : Int) := by
    rw [Int.natCast_mul, Int.natCast_mul, ← Int.mul_assoc, ← Int.mul_assoc, Int.mul_comm (c.length : Int)]
  have hz : (z.natAbs : Int) ≤ (d.length : Int) * ((c.length * z.natAbs : Nat) : Int) := by
    have : 1 * z.natAbs ≤ (d.length * c.length) * z.natAbs := Nat.mul_le_mul_right _ (Nat.mul_pos ld lc)
    rw [Nat.one_mul, Nat.mul_assoc] at this
    exact_mod_cast this
  rw [← p1, ← p2, e, ← h _ (by omega)]
  congr 1
  omega
theorem LF.unique_le {h c h' c' : List Nat} (a : LF h c) (b : LF h' c') (hle : h.length ≤ h'.length) (e : ∀ k : Nat, rz h c k = rz h' c' k) : h = h' ∧ c = c' := by
  have ag := agree (s := (h'.length : Int) - h.length) a.ne b.ne (fun z hz => by
    have := e (z + h'.length).toNat
    rw [rz_ge (by omega), rz_ge (by omega)] at this
    rw [show (((z + (h'.length : Int)).toNat : Nat) : Int) = z + h'.length by omega] at this
    rw [show z + (h'.length : Int) - h'.length = z by omega] at this
    rw [← this]
    congr 1
    omega)
  have per_iff : ∀ p : Int, Per c p ↔ Per c' p := by
    intro p
    constructor
    · intro hp z
      rw [← ag, ← ag, show z + p + ((h'.length : Int) - h.length) = (z + ((h'.length : Int) - h.length)) + p by omega, hp]
    · intro hp z
      have h1 := ag (z + p - ((h'.length : Int) - h.length))
      have h2 := ag (z - ((h'.length : Int) - h.length))
      rw [show z + p - ((h'.length : Int) - h.length) + ((h'.length : Int) - h.length) = z + p by omega] at h1
      rw [show z - ((h'.length : Int) - h.length) + ((h'.length : Int) - h.length) = z by omega] at h2
      rw [h1, h2, show z + p - ((h'.length : Int) - h.length) = (z - ((h'.length : Int) - h.length)) + p by omega, hp]
  have hlen : c.length = c'.length := by
    have d1 := a.min.dvd ((per_iff _).mpr (per_len c'))
    have d2 := b.min.dvd ((per_iff _).mp (per_len c))
    exact Nat.dvd_antisymm d1 d2
  have hh : h.length = h'.length := by
    by_cases z : h.length = h'.length
    · exact z
    · exfalso
      have hne : h' ≠ [] := fun q => by rw [q] at hle z; simp at hle; simp [hle] at z
      have l := b.last hne
      apply l
      have hp : 0 < h'.length := List.length_pos_iff.mpr hne
      have := e (h'.length - 1)
      rw [rz_lt (show h'.length - 1 < h'.length by omega), rz_ge (by omega)] at this
      rw [List.getLast_eq_getElem, ← this, ← ag]
      congr 1
      omega
  refine ⟨List.ext_getElem hh fun i h1 h2 => ?_, cz_ext hlen fun i _ => ?_⟩
  · have := e i
    rw [rz_lt h1, rz_lt h2] at this
    exact this
  · have := ag i
    rw [show (i : Int) + ((h'.length : Int) - h.length) = i by omega] at this
    exact this
theorem LF.unique {h c h' c' : List Nat} (a : LF h c) (b : LF h' c') (e : ∀ k : Nat, rz h c k = rz h' c' k) : h = h' ∧ c = c' := by
  rcases Nat.le_total h.length h'.length with l | l
  · exact a.unique_le b l e
  · obtain ⟨x, y⟩ := b.unique_le a l fun k => (e k).symm
    exact ⟨x.symm, y.symm⟩
/-- rows that agree long enough agree for ever -/
theorem rz_agree {h c h' c' : List Nat} {N : Nat} (hc : c ≠ []) (hc' : c' ≠ []) (h1 : h.length ≤ N) (h2 : h'.length ≤ N) (e : ∀ k : Nat, k < N + c.length + c'.length → rz h c k = rz h' c' k) : ∀ k : Nat, rz h c k = rz h' c' k := by
  have l1 : 0 < c.length := List.length_pos_iff.mpr hc
  have l2 : 0 < c'.length := List.length_pos_iff.mpr hc'
  have s1 : ∀ k : Nat, N + c.length ≤ k → rz h c k = rz h c (k - c.length : Nat) := fun k hk => by
    rw [rz_ge (by omega), rz_ge (by omega), ← per_len c (((k - c.length : Nat) : Int) - h.length)]
    congr 1; omega
  have s2 : ∀ k : Nat, N + c'.length ≤ k → rz h' c' k = rz h' c' (k - c'.length : Nat) := fun k hk => by
    rw [rz_ge (by omega), rz_ge (by omega), ← per_len c' (((k - c'.length : Nat) : Int) - h'.length)]
    congr 1; omega
  have all : ∀ n : Nat, ∀ k : Nat, k < n → rz h c k = rz h' c' k := by
    intro n
    induction n with
    | zero => intro k hk; omega
    | succ n ih =>
      intro k hk
      by_cases hs : k < N + c.length + c'.length
      · exact e k hs
      · rw [s1 k (by omega), ih (k - c.length) (by omega), s2 (k - c.length) (by omega), ← ih (k - c.length - c'.length) (by omega), s2 k (by omega), ← ih (k - c'.length) (by omega), s1 (k - c'.length) (by omega)]
        congr 1; omega
  intro k
  exact all (k + 1) k (by omega)
end Tw
namespace Tw
open PySem PySem.Spec PyProof.Rows L2
/-- a text written n times -/
def rMulS : R2 := fun x y H Q => ∃ (l : List Nat) (n : Int), x = .str (Sg l) ∧ y = .int n ∧ 0 ≤ n ∧ n ≤ 1000 ∧ l.length ≤ 1000 ∧ Q (.str (Sg (List.replicate n.toNat l).flatten)) H
theorem rep_fold (x : Array Nat) : ∀ (n : Nat) (a : Array Nat), ((List.replicate n x).foldl (· ++ ·) a).toList = a.toList ++ (List.replicate n x.toList).flatten
  | 0, a => by simp
  | n + 1, a => by
    rw [List.replicate_succ, List.foldl_cons, rep_fold x n, List.replicate_succ, List.flatten_cons]
    simp
theorem op_mulStr {X : Cx} : OpR X (binaryOp .Mult) rMulS := by
  intro pins s σ H x y v u Q I rx ry h
  obtain ⟨l, n, rfl, rfl, h0, h1, hl, q⟩ := h
  obtain ⟨t, rfl⟩ := rx
  obtain ⟨t', rfl⟩ := ry
  have hlen : (Sg l).length = l.length := sg_len l
  have hz : sizeLine = 16777216 := sizeLine_eq
  have hprod : l.length * n.toNat ≤ 1000 * 1000 := Nat.mul_le_mul hl (by omega)
  refine PySem.P.mul_str (by simp; omega) (fun hn _ => ?_) (fun _ _ => ?_) ?_
  · rw [hlen]
    have : (1000 : Int) ≤ (2 ^ 63 - 1) / n := by
      rw [Int.le_ediv_iff_mul_le (by omega)]
      omega
    omega
  · rw [hlen]
    unfold Builtin.Str.tooLong
    rw [decide_eq_false_iff_not]
    omega
  · split
    · rename_i hn
      have hn0 : n = 0 := by omega
      subst hn0
      exact ⟨by decide, .str (Sg []), H, I.tok _, ⟨_, rfl⟩, q⟩
    · rename_i hn
      split
      · rename_i hc
        have e : (List.replicate n.toNat l).flatten = l := by
          rw [Bool.or_eq_true, beq_iff_eq, beq_iff_eq, hlen] at hc
          rcases hc with hc | hc
          · subst hc; simp
          · have : l = [] := List.length_eq_zero_iff.mp hc
            subst this; simp
        rw [e] at q
        exact ⟨.str (Sg l), H, I, ⟨_, rfl⟩, q⟩
      · have e : (⟨(List.replicate n.toNat (Sg l).cps).foldl (· ++ ·) #[]⟩ : Str) = Sg (List.replicate n.toNat l).flatten := by
          have := rep_fold (Sg l).cps n.toNat #[]
          rw [sg_tl] at this
          show (⟨_⟩ : Str) = ⟨_⟩
          congr 1
          apply Array.toList_inj.mp
          rw [this]
          simp
        rw [e]
        refine ⟨?_, .str _, H, I.tok _, ⟨_, rfl⟩, q⟩
        rw [sg_len, List.length_flatten, List.map_replicate, List.sum_replicate_nat, Nat.mul_comm]
        omega
theorem w_mulS {l : List Nat} {n : Int} {H : Hp} {Q : VK} (h : 0 ≤ n ∧ n ≤ 1000) (hl : l.length ≤ 1000) (q : Q (.str (Sg (List.replicate n.toNat l).flatten)) H) : rMulS (.str (Sg l)) (.int n) H Q := ⟨l, n, rfl, rfl, h.1, h.2, hl, q⟩
end Tw
namespace Tw
open PySem PySem.Spec PyProof.Rows L2
theorem cz_ix {c : List Nat} {p : Nat} (hp : Per c p) (h0 : 0 < p) (hl : p ≤ c.length) (z : Int) : c[(z % (p : Int)).toNat]? = some (cz c z) := by
  have r0 := Int.emod_nonneg z (b := (p : Int)) (by omega)
  have r1 := Int.emod_lt_of_pos z (b := (p : Int)) (by omega)
  have e : cz c z = cz c (z % p) := by
    have := hp.mulz (z / p) (z % p)
    rw [← this]
    congr 1
    have := Int.emod_add_mul_ediv z p
    omega
  rw [e]
  obtain ⟨r, hr⟩ : ∃ r : Nat, z % (p : Int) = r := ⟨(z % (p : Int)).toNat, by omega⟩
  rw [hr, Int.toNat_natCast, cz_nat (by omega)]
  exact List.getElem?_eq_getElem (by omega)
theorem MinP.le {c : List Nat} {p : Nat} (h : MinP c p) (hc : c ≠ []) : p ≤ c.length := Nat.le_of_dvd (List.length_pos_iff.mpr hc) (h.dvd (per_len c))
theorem per_of {c : List Nat} (hc : c ≠ []) {i : Nat} (h : ∀ j : Nat, j < c.length → cz c (j + i) = cz c j) : Per c i := by
  have hl : 0 < c.length := List.length_pos_iff.mpr hc
  intro z
  have r0 := Int.emod_nonneg z (b := (c.length : Int)) (by omega)
  have r1 := Int.emod_lt_of_pos z (b := (c.length : Int)) (by omega)
  have e := Int.emod_add_mul_ediv z c.length
  have p1 := (per_len c).mulz (z / c.length) (z % c.length + i)
  have p2 := (per_len c).mulz (z / c.length) (z % c.length)
  rw [show z % (c.length : Int) + i + c.length * (z / c.length) = z + i by omega] at p1
  rw [e] at p2
  rw [p1, p2]
  obtain ⟨r, hr⟩ : ∃ r : Nat, z % (c.length : Int) = r := ⟨(z % (c.length : Int)).toNat, by omega⟩
  rw [hr]
  exact h r (by omega)
theorem dbl_ix {c : List Nat} {i : Nat} (h : i < c.length + c.length) : (c ++ c)[i]? = some (cz c i) := by
  by_cases hi : i < c.length
  · rw [List.getElem?_append_left hi, List.getElem?_eq_getElem hi, cz_nat hi]
  · rw [List.getElem?_append_right (by omega), List.getElem?_eq_getElem (by omega)]
    have := per_len c ((i - c.length : Nat) : Int)
    rw [show ((i - c.length : Nat) : Int) + c.length = i by omega, cz_nat (i := i - c.length) (by omega)] at this
    rw [this]
theorem subAt_per {c : List Nat} (hc : c ≠ []) {i : Nat} (hi : i ≤ c.length) : Builtin.Str.subAt (Sg (c ++ c)) (Sg c) i = true ↔ Per c i := by
  rw [PySem.StrLaws.subAt_eq, sg_tl, sg_tl, sg_len, beq_iff_eq]
  constructor
  · intro h
    refine per_of hc fun j hj => ?_
    have h1 : (((c ++ c).drop i).take c.length)[j]? = c[j]? := by rw [h]
    rw [List.getElem?_take_of_lt hj, List.getElem?_drop, dbl_ix (by omega), List.getElem?_eq_getElem hj] at h1
    have h2 := Option.some.inj h1
    rw [cz_nat hj, ← h2]
    congr 1
    omega
  · intro h
    refine List.ext_getElem? fun j => ?_
    by_cases hj : j < c.length
    · rw [List.getElem?_take_of_lt hj, List.getElem?_drop, dbl_ix (by omega), List.getElem?_eq_getElem hj]
      congr 1
      have := h j
      rw [cz_nat hj] at this
      rw [← this]
      congr 1
      omega
    · rw [List.getElem?_eq_none (by rw [List.length_take]; omega), List.getElem?_eq_none (by omega)]
theorem find_again {c : List Nat} (hc : c ≠ []) {p : Nat} (h : MinP c p) : Txt.find3 (Sg (c ++ c)) (Sg c) 1 = (p : Int) := by
  have hl := h.le hc
  refine find3_first h.1 (by rw [sg_len, sg_len, List.length_append]; omega) ((subAt_per hc hl).mpr h.2.1) fun i h1 h2 => ?_
  rw [← Bool.not_eq_true]
  intro z
  exact h.2.2 i h1 h2 ((subAt_per hc (by omega)).mp z)
/-- begun s marks later -/
theorem rot_cz {c : List Nat} {p s : Nat} (hp : Per c p) (hs : s < p) (hl : p ≤ c.length) : ((c.take p).drop s ++ c.take s).length = p ∧ ∀ z, cz ((c.take p).drop s ++ c.take s) z = cz c (z + s) := by
  have len : ((c.take p).drop s ++ c.take s).length = p := by simp only [List.length_append, List.length_drop, List.length_take]; omega
  refine ⟨len, fun z => ?_⟩
  have r0 := Int.emod_nonneg z (b := (p : Int)) (by omega)
  have r1 := Int.emod_lt_of_pos z (b := (p : Int)) (by omega)
  have e : cz c (z + s) = cz c (z % p + s) := by
    have := hp.mulz (z / p) (z % p + s)
    rw [← this]
    congr 1
    have := Int.emod_add_mul_ediv z p
    omega
  rw [e]
  unfold cz
  rw [len]
  obtain ⟨r, hr⟩ : ∃ r : Nat, z % (p : Int) = r := ⟨(z % (p : Int)).toNat, by omega⟩
  rw [hr, Int.toNat_natCast, List.getD_eq_getElem?_getD, List.getD_eq_getElem?_getD]
  by_cases h : r < p - s
  · rw [List.getElem?_append_left (by simp only [List.length_drop, List.length_take]; omega), List.getElem?_drop, List.getElem?_take_of_lt (by omega), Int.emod_eq_of_lt (by omega) (by omega)]
    congr 2
    omega
  · rw [List.getElem?_append_right (by simp only [List.length_drop, List.length_take]; omega), List.getElem?_take_of_lt (by simp only [List.length_drop, List.length_take]; omega)]
    have q := hp ((r + s - p : Nat) : Int)
    rw [show ((r + s - p : Nat) : Int) + p = (r : Int) + s by omega] at q
    unfold cz at q
    rw [List.getD_eq_getElem?_getD, List.getD_eq_getElem?_getD] at q
    rw [q, Int.emod_eq_of_lt (by omega) (by omega), Int.toNat_natCast]
    congr 2
    simp only [List.length_drop, List.length_take]
    omega
theorem minP_shift {c d : List Nat} {s : Int} {p : Nat} (h : ∀ z, cz d z = cz c (z + s)) (m : MinP c p) : MinP d p := by
  have key : ∀ q : Int, Per c q ↔ Per d q := by
    intro q
    constructor
    · intro hq z
      rw [h, h, show z + q + s = (z + s) + q by omega, hq]
    · intro hq z
      have := hq (z - s)
      rw [h, h] at this
      rw [show z - s + q + s = z + q by omega, show z - s + s = z by omega] at this
      exact this
  exact ⟨m.1, (key _).mp m.2.1, fun q h1 h2 h3 => m.2.2 q h1 h2 ((key _).mpr h3)⟩
/-- the head cut, the cycle begun at its end -/
theorem cut_row {h c c' : List Nat} {k p : Nat} (hk : k ≤ h.length) (hp : Per c p) (hr : ∀ z, cz c' z = cz c (z + (((k : Int) - h.length) % (p : Int)))) (hh : ∀ j : Nat, k ≤ j → ∀ x, h[j]? = some x → x = cz c ((j : Int) - h.length)) (n : Nat) : rz (h.take k) c' n = rz h c n := by
  have e : ∀ z, cz c' z = cz c (z + k - h.length) := by
    intro z
    rw [hr]
    have := hp.mulz (((k : Int) - h.length) / p) (z + (((k : Int) - h.length) % (p : Int)))
    rw [← this]
    congr 1
    have := Int.emod_add_mul_ediv ((k : Int) - h.length) p
    omega
  have hl : (h.take k).length = k := by rw [List.length_take]; omega
  by_cases h1 : n < k
  · rw [rz_lt (by omega), rz_lt (by omega), List.getElem_take]
  · rw [rz_ge (by rw [hl]; omega), hl, e]
    by_cases h2 : n < h.length
    · rw [rz_lt h2]
      have := hh n (by omega) _ (List.getElem?_eq_getElem h2)
      rw [this]
      congr 1
      omega
    · rw [rz_ge (by omega)]
      congr 1
      omega
theorem rep_get {x : List Nat} (hx : 0 < x.length) : ∀ (k j : Nat), j < k * x.length → ((List.replicate k x).flatten)[j]? = x[j % x.length]?
  | 0, j, h => by omega
  | k + 1, j, h => by
    rw [List.replicate_succ, List.flatten_cons]
    by_cases hj : j < x.length
    · rw [List.getElem?_append_left hj, Nat.mod_eq_of_lt hj]
    · rw [List.getElem?_append_right (by omega), rep_get hx k (j - x.length) (by rw [Nat.succ_mul] at h; omega)]
      congr 1
      rw [← Nat.mod_eq_sub_mod (by omega)]
theorem rep_iff {c : List Nat} {s : Nat} (h0 : 0 < s) (hs : s ≤ c.length) (hd : s ∣ c.length) : c = (List.replicate (c.length / s) (c.take s)).flatten ↔ Per c s := by
  have hl : (c.take s).length = s := by rw [List.length_take]; omega
  have hn : c.length / s * s = c.length := Nat.div_mul_cancel hd
  have hc : c ≠ [] := fun z => by rw [z] at hs; simp at hs; omega
  constructor
  · intro e
    have g : ∀ j : Nat, j < c.length → c[j]? = c[j % s]? := by
      intro j hj
      have h1 : c[j]? = ((List.replicate (c.length / s) (c.take s)).flatten)[j]? := by rw [← e]
      rw [h1, rep_get (by omega) _ _ (by rw [hl, hn]; exact hj), hl, List.getElem?_take_of_lt (Nat.mod_lt _ h0)]
    refine per_of hc fun j hj => ?_
    have all : ∀ i : Nat, cz c i = c.getD (i % s) 0 := by
      intro i
      unfold cz
      rw [← Int.natCast_emod, Int.toNat_natCast, List.getD_eq_getElem?_getD, List.getD_eq_getElem?_getD, g _ (Nat.mod_lt _ (by omega)), Nat.mod_mod_of_dvd _ hd]
    have h1 := all (j + s)
    have h2 := all j
    rw [Nat.add_mod_right] at h1
    rw [show ((j + s : Nat) : Int) = (j : Int) + s by omega] at h1
    rw [h1, h2]
  · intro hp
    refine List.ext_getElem? fun j => ?_
    by_cases hj : j < c.length
    · rw [rep_get (by omega) _ _ (by rw [hl, hn]; exact hj), hl, List.getElem?_take_of_lt (Nat.mod_lt _ h0)]
      have h1 := cz_ix hp h0 hs j
      rw [← Int.natCast_emod, Int.toNat_natCast] at h1
      rw [h1, cz_nat hj, List.getElem?_eq_getElem hj]
    · rw [List.getElem?_eq_none (by omega), List.getElem?_eq_none (by rw [List.length_flatten, List.map_replicate, List.sum_replicate_nat, hl, hn]; omega)]
theorem take_cz {c : List Nat} {p : Nat} (hp : Per c p) (h0 : 0 < p) (hl : p ≤ c.length) : (c.take p).length = p ∧ ∀ z, cz (c.take p) z = cz c z := by
  have := rot_cz (s := 0) hp h0 hl
  simp only [List.drop_zero, List.take_zero, List.append_nil] at this
  refine ⟨this.1, fun z => ?_⟩
  rw [this.2]
  congr 1
  omega
/-- one mark from the head's end into the cycle -/
theorem back_cz {c : List Nat} (hc : c ≠ []) : (c.getLast hc :: c.dropLast).length = c.length ∧ ∀ z, cz (c.getLast hc :: c.dropLast) z = cz c (z - 1) := by
  have hl : 0 < c.length := List.length_pos_iff.mpr hc
  have len : (c.getLast hc :: c.dropLast).length = c.length := by simp; omega
  refine ⟨len, fun z => ?_⟩
  have r0 := Int.emod_nonneg z (b := (c.length : Int)) (by omega)
  have r1 := Int.emod_lt_of_pos z (b := (c.length : Int)) (by omega)
  have e : cz c (z - 1) = cz c (z % c.length - 1) := by
    have := (per_len c).mulz (z / c.length) (z % c.length - 1)
    rw [← this]
    congr 1
    have := Int.emod_add_mul_ediv z c.length
    omega
  rw [e]
  unfold cz
  rw [len]
  obtain ⟨r, hr⟩ : ∃ r : Nat, z % (c.length : Int) = r := ⟨(z % (c.length : Int)).toNat, by omega⟩
  rw [hr, Int.toNat_natCast]
  cases r with
  | zero =>
    have := cz_last hc
    unfold cz at this
    rw [show ((0 : Nat) : Int) - 1 = -1 by omega, this]
    rfl
  | succ r =>
    rw [show ((r + 1 : Nat) : Int) - 1 = r by omega, Int.emod_eq_of_lt (by omega) (by omega), Int.toNat_natCast, List.getD_eq_getElem?_getD, List.getD_eq_getElem?_getD, List.getElem?_cons_succ, List.getElem?_dropLast, if_pos (by omega)]
theorem back_row {h c : List Nat} (hh : h ≠ []) (hc : c ≠ []) (e : h.getLast hh = c.getLast hc) (n : Nat) : rz h.dropLast (c.getLast hc :: c.dropLast) n = rz h c n := by
  have hl : 0 < h.length := List.length_pos_iff.mpr hh
  have hd : h.dropLast.length = h.length - 1 := List.length_dropLast
  by_cases h1 : n < h.length - 1
  · rw [rz_lt (by omega), rz_lt (by omega), List.getElem_dropLast]
  · rw [rz_ge (by omega), (back_cz hc).2, hd]
    by_cases h2 : n < h.length
    · have hn : n = h.length - 1 := by omega
      subst hn
      rw [rz_lt (by omega), ← List.getLast_eq_getElem hh, e, ← cz_last hc]
      congr 1
      omega
    · rw [rz_ge (by omega)]
      congr 1
      omega
/-- without its first mark -/
theorem shift_row {h c : List Nat} (n : Nat) : (∀ x t, h = x :: t → rz t c n = rz h c ((n + 1 : Nat) : Int)) ∧ (h = [] → ∀ d : List Nat, (∀ z, cz d z = cz c (z + 1)) → rz [] d n = rz h c ((n + 1 : Nat) : Int)) := by
  refine ⟨?_, ?_⟩
  · rintro x t rfl
    by_cases h1 : n < t.length
    · rw [rz_lt h1, rz_lt (by simp; omega), List.getElem_cons_succ]
    · rw [rz_ge (by omega), rz_ge (by simp; omega)]
      congr 1
      simp only [List.length_cons]
      omega
  · rintro rfl d hd
    rw [rz_ge (by simp only [List.length_nil]; omega), rz_ge (by simp only [List.length_nil]; omega), hd]
    congr 1
def rowD (h c : List Nat) : PyData := .tuple [.str (Sg h), .str (Sg c)]
def Mk (l : List Nat) : Prop := ∀ x ∈ l, x < 1000
theorem strOk_sg {l : List Nat} (h : Mk l) : PyData.strOk (Sg l) = true := by
  unfold PyData.strOk
  rw [← Array.all_toList, sg_tl, List.all_eq_true]
  intro x hx
  have := h x hx
  exact decide_eq_true (by omega)
theorem rowD_pln {k : Nat} {h c : List Nat} (a : Mk h) (b : Mk c) : pln (k + 1) (rowD h c) = true := by
  cases k <;> simp [rowD, pln, strOk_sg a, strOk_sg b]
theorem rowD_inj {h c h' c' : List Nat} (e : rowD h c = rowD h' c') : h = h' ∧ c = c' := by
  simp only [rowD, PyData.tuple.injEq, List.cons.injEq, PyData.str.injEq, and_true] at e
  exact ⟨sg_inj e.1, sg_inj e.2⟩
section
variable {K : PySem.W.Frag} {σ : L2.St} {H : Hp} {Q : VK} {v : V} {ta : TE} {h c : List Nat}
def rTruS (x : V) (H : Hp) (Q : Bool → Hp → Prop) : Prop := ∃ l : List Nat, x = .str (Sg l) ∧ l.length ≤ 1000000 ∧ Q (decide (l ≠ [])) H
theorem w_truS {Q : Bool → Hp → Prop} (q : ta σ H fun x H' => rTruS x H' Q) (m : ∀ (P P' : VK), (∀ v H', P v H' → P' v H') → ta σ H P → ta σ H P') : tTru K ta σ H Q := by
  refine m _ _ (fun v H' z => ?_) q
  obtain ⟨l, rfl, hl, z⟩ := z
  have hs : sizeLine = 16777216 := sizeLine_eq
  refine ⟨decide (l ≠ []), ⟨by rw [sg_len]; omega, ?_⟩, z⟩
  rw [sg_len]
  cases l with
  | nil => rfl
  | cons a l => simp; omega
theorem var_mono {i : Nat} (P P' : VK) (h : ∀ v H', P v H' → P' v H') (q : tVar i σ H P) : tVar i σ H P' := by
  obtain ⟨v, e, z⟩ := q
  exact ⟨v, e, h _ _ z⟩
theorem w_truV {Q : Bool → Hp → Prop} {i : Nat} {l : List Nat} (e : σ[i]? = some (some (.str (Sg l)))) (hl : l.length ≤ 1000000) (q : Q (decide (l ≠ [])) H) : tTru K (tVar i) σ H Q :=
  w_truS ⟨_, e, l, rfl, hl, q⟩ fun P P' a b => var_mono P P' a b
theorem w_row0 (d : Dp K H v (rowD h c)) (q : Q (.str (Sg h)) H) : rIxT K v (.int 0) H Q := w_ixT (j := 0) d rfl rfl fun v' hv => by cases hv; exact q
theorem w_row1 (d : Dp K H v (rowD h c)) (q : Q (.str (Sg c)) H) : rIxT K v (.int 1) H Q := w_ixT (j := 1) d rfl rfl fun v' hv => by cases hv; exact q
theorem w_gTupR {i j : Nat} {Q : L2.St → Hp → Prop} (d : Dp K H v (rowD h c)) (q : Q ((σ.set i (some (.str (Sg h)))).set j (some (.str (Sg c)))) H) : gTup K 2 (gCons (gName i) (gCons (gName j) gNil)) v σ H Q :=
  w_gTup2 d fun v1 v2 h1 h2 => by cases h1; cases h2; exact q
def rFind3 : V → List V → Hp → VK → Prop := fun x xs H Q => ∃ (a b : Str) (i : Int), x = .str a ∧ xs = [.str b, .int i] ∧ Q (.int (Txt.find3 a b i)) H
theorem mt_find3D {X : Cx} : MtR X "str.find" rFind3 := mt_find3
theorem w_find3 {a b : Str} {i : Int} (q : Q (.int (Txt.find3 a b i)) H) : rFind3 (.str a) [.str b, .int i] H Q := ⟨a, b, i, rfl, rfl, q⟩
end
end Tw
namespace Tw
theorem rep_len (c : List Nat) (n : Nat) : (List.replicate n c).flatten.length = n * c.length := by rw [List.length_flatten, List.map_replicate, List.sum_replicate_nat]
theorem rep_mk {c : List Nat} (mc : Mk c) (n : Nat) : Mk (List.replicate n c).flatten := fun x hx => by
  obtain ⟨l, hl1, hl2⟩ := List.mem_flatten.mp hx
  rw [(List.mem_replicate.mp hl1).2] at hl2
  exact mc x hl2
end Tw
namespace Tw
open PySem PySem.Spec PyProof.Rows L2
section
variable {K : PySem.W.Frag} {H : Hp} {Q : VK} {x y : V} {d e : PyData}
theorem w_eqPb (h1 : Dp K H x d) (h2 : Dp K H y e) (p1 : pln 9 d = true) (p2 : pln 9 e = true) (q : ∀ b, (b = true ↔ d = e) → Q (.bl b) H) : rEqD K x y H Q :=
  w_eqP h1 h2 p1 p2 (fun z => q true ⟨fun _ => z, fun _ => rfl⟩) (fun z => q false ⟨fun h => absurd h Bool.false_ne_true, fun h => absurd h z⟩)
end
theorem pln_intsL (ns : List Int) : pln 9 (.list (ns.map PyData.int)) = true := pln_ints ns
theorem line_ix {h c : List Nat} (hc : c ≠ []) (n j : Nat) (hj : j < h.length + n * c.length) : (h ++ (List.replicate n c).flatten)[j]? = some (rz h c j) := by
  have hl : 0 < c.length := List.length_pos_iff.mpr hc
  by_cases h1 : j < h.length
  · rw [List.getElem?_append_left h1, rz_lt h1, List.getElem?_eq_getElem h1]
  · rw [List.getElem?_append_right (by omega), rep_get hl _ _ (by omega), rz_ge (by omega), show ((j : Int) - h.length) = ((j - h.length : Nat) : Int) by omega]
    have hm := Nat.mod_lt (j - h.length) hl
    unfold cz
    rw [← Int.natCast_emod, Int.toNat_natCast, List.getD_eq_getElem?_getD, List.getElem?_eq_getElem hm]
    rfl
theorem rest_rz {h c : List Nat} (hc : c ≠ []) {k : Nat} (hk : k ≤ h.length + c.length) (n : Nat) : rz (((h ++ (List.replicate 12 c).flatten).take (h.length + c.length * 3)).drop (k + 1)) c n = rz h c ((n + k + 1 : Nat) : Int) := by
  have hl : 0 < c.length := List.length_pos_iff.mpr hc
  have len : (((h ++ (List.replicate 12 c).flatten).take (h.length + c.length * 3)).drop (k + 1)).length = h.length + c.length * 3 - (k + 1) := by
    rw [List.length_drop, List.length_take, List.length_append, rep_len]
    omega
  by_cases h1 : n < h.length + c.length * 3 - (k + 1)
  · rw [rz_lt (by omega)]
    have e := line_ix hc 12 (n + k + 1) (h := h) (by omega)
    have g : (((h ++ (List.replicate 12 c).flatten).take (h.length + c.length * 3)).drop (k + 1))[n]? = some (rz h c ((n + k + 1 : Nat) : Int)) := by
      rw [List.getElem?_drop, List.getElem?_take_of_lt (by omega), show k + 1 + n = n + k + 1 by omega, e]
    exact (List.getElem?_eq_some_iff.mp g).2
  · rw [rz_ge (by omega), rz_ge (by omega), len]
    have p := (per_len c).mul 3 ((n : Int) - ((h.length + c.length * 3 - (k + 1) : Nat) : Int))
    rw [← p]
    congr 1
    omega
end Tw
namespace Tw
open PySem PySem.Spec PyProof.Rows L2
def topS (i : Nat) : Stmt := PySem.Challenge.pw_twicedial_k14_rows_in_least_form.main.body.getD i (.Pass ⟨0, 0, 0, 0⟩)
abbrev s_least_row : Stmt := topS 1
abbrev N_least_row : List Str := ["head", "cycle", "again", "kept", "start"]
theorem sc_least_row : FnScope N_least_row ["head", "cycle"] (defScope s_least_row) := ⟨rfl, rfl, rfl, by decide +kernel, rfl, by decide +kernel, by decide +kernel⟩
abbrev s_first_mark : Stmt := topS 2
abbrev N_first_mark : List Str := ["row", "head", "cycle"]
theorem sc_first_mark : FnScope N_first_mark ["row"] (defScope s_first_mark) := ⟨rfl, rfl, rfl, by decide +kernel, rfl, by decide +kernel, by decide +kernel⟩
abbrev s_shifted : Stmt := topS 3
abbrev N_shifted : List Str := ["row", "head", "cycle"]
theorem sc_shifted : FnScope N_shifted ["row"] (defScope s_shifted) := ⟨rfl, rfl, rfl, by decide +kernel, rfl, by decide +kernel, by decide +kernel⟩
abbrev s__law_begun : Stmt := topS 5
abbrev N__law_begun : List Str := ["script", "k", "cells", "great", "seed", "cell"]
theorem sc__law_begun : FnScope N__law_begun ["script", "k"] (defScope s__law_begun) := ⟨rfl, rfl, rfl, by decide +kernel, rfl, by decide +kernel, by decide +kernel⟩
abbrev s__law_draw : Stmt := topS 6
abbrev N__law_draw : List Str := ["m", "below", "found", "spot", "cells", "extra", "cell", "blend"]
theorem sc__law_draw : FnScope N__law_draw ["m", "below"] (defScope s__law_draw) := ⟨rfl, rfl, rfl, by decide +kernel, rfl, by decide +kernel, by decide +kernel⟩
abbrev s__law_of : Stmt := topS 7
abbrev N__law_of : List Str := ["m", "some"]
theorem sc__law_of : FnScope N__law_of ["m", "some"] (defScope s__law_of) := ⟨rfl, rfl, rfl, by decide +kernel, rfl, by decide +kernel, by decide +kernel⟩
abbrev s__law_at : Stmt := topS 8
abbrev N__law_at : List Str := ["row", "k"]
theorem sc__law_at : FnScope N__law_at ["row", "k"] (defScope s__law_at) := ⟨rfl, rfl, rfl, by decide +kernel, rfl, by decide +kernel, by decide +kernel⟩
abbrev s__law_least_row : Stmt := topS 9
abbrev N__law_least_row : List Str := ["head", "cycle", "size", "k"]
theorem sc__law_least_row : FnScope N__law_least_row ["head", "cycle"] (defScope s__law_least_row) := ⟨rfl, rfl, rfl, by decide +kernel, rfl, by decide +kernel, by decide +kernel⟩
abbrev s__law_is_least : Stmt := topS 10
abbrev N__law_is_least : List Str := ["row", "head", "cycle", "size"]
theorem sc__law_is_least : FnScope N__law_is_least ["row"] (defScope s__law_is_least) := ⟨rfl, rfl, rfl, by decide +kernel, rfl, by decide +kernel, by decide +kernel⟩
abbrev s__law_marks : Stmt := topS 11
abbrev N__law_marks : List Str := ["m", "size", "k"]
theorem sc__law_marks : FnScope N__law_marks ["m", "size"] (defScope s__law_marks) := ⟨rfl, rfl, rfl, by decide +kernel, rfl, by decide +kernel, by decide +kernel⟩
abbrev s__law_otherwise : Stmt := topS 12
abbrev N__law_otherwise : List Str := ["m", "head", "cycle", "spare", "k", "both", "at"]
theorem sc__law_otherwise : FnScope N__law_otherwise ["m", "head", "cycle"] (defScope s__law_otherwise) := ⟨rfl, rfl, rfl, by decide +kernel, rfl, by decide +kernel, by decide +kernel⟩
abbrev s_law : Stmt := topS 13
abbrev N_law : List Str := ["script", "turn", "m", "head", "cycle", "told", "other", "same", "left", "line", "k", "rest"]
theorem sc_law : FnScope N_law ["script"] (defScope s_law) := ⟨rfl, rfl, rfl, by decide +kernel, rfl, by decide +kernel, by decide +kernel⟩
structure Top (K : PySem.W.Frag) (mg : Str → Option Value) where
  f_least_row : Addr
  fd_least_row : FuncData
  F_least_row : Fun K "least_row" "least_row" s_least_row f_least_row fd_least_row
  b_least_row : Binds K fd_least_row ["head", "cycle"] []
  g_least_row : mg "least_row" = some (.ref f_least_row)
  f_first_mark : Addr
  fd_first_mark : FuncData
  F_first_mark : Fun K "first_mark" "first_mark" s_first_mark f_first_mark fd_first_mark
  b_first_mark : Binds K fd_first_mark ["row"] []
  g_first_mark : mg "first_mark" = some (.ref f_first_mark)
  f_shifted : Addr
  fd_shifted : FuncData
  F_shifted : Fun K "shifted" "shifted" s_shifted f_shifted fd_shifted
  b_shifted : Binds K fd_shifted ["row"] []
  g_shifted : mg "shifted" = some (.ref f_shifted)
  f__law_begun : Addr
  fd__law_begun : FuncData
  F__law_begun : Fun K "_law_begun" "_law_begun" s__law_begun f__law_begun fd__law_begun
  b__law_begun : Binds K fd__law_begun ["script", "k"] []
  g__law_begun : mg "_law_begun" = some (.ref f__law_begun)
  f__law_draw : Addr
  fd__law_draw : FuncData
  F__law_draw : Fun K "_law_draw" "_law_draw" s__law_draw f__law_draw fd__law_draw
  b__law_draw : Binds K fd__law_draw ["m", "below"] []
  g__law_draw : mg "_law_draw" = some (.ref f__law_draw)
  f__law_of : Addr
  fd__law_of : FuncData
  F__law_of : Fun K "_law_of" "_law_of" s__law_of f__law_of fd__law_of
  b__law_of : Binds K fd__law_of ["m", "some"] []
  g__law_of : mg "_law_of" = some (.ref f__law_of)
  f__law_at : Addr
  fd__law_at : FuncData
  F__law_at : Fun K "_law_at" "_law_at" s__law_at f__law_at fd__law_at
  b__law_at : Binds K fd__law_at ["row", "k"] []
  g__law_at : mg "_law_at" = some (.ref f__law_at)
  f__law_least_row : Addr
  fd__law_least_row : FuncData
  F__law_least_row : Fun K "_law_least_row" "_law_least_row" s__law_least_row f__law_least_row fd__law_least_row
  b__law_least_row : Binds K fd__law_least_row ["head", "cycle"] []
  g__law_least_row : mg "_law_least_row" = some (.ref f__law_least_row)
  f__law_is_least : Addr
  fd__law_is_least : FuncData
  F__law_is_least : Fun K "_law_is_least" "_law_is_least" s__law_is_least f__law_is_least fd__law_is_least
  b__law_is_least : Binds K fd__law_is_least ["row"] []
  g__law_is_least : mg "_law_is_least" = some (.ref f__law_is_least)
  f__law_marks : Addr
  fd__law_marks : FuncData
  F__law_marks : Fun K "_law_marks" "_law_marks" s__law_marks f__law_marks fd__law_marks
  b__law_marks : Binds K fd__law_marks ["m", "size"] []
  g__law_marks : mg "_law_marks" = some (.ref f__law_marks)
  f__law_otherwise : Addr
  fd__law_otherwise : FuncData
  F__law_otherwise : Fun K "_law_otherwise" "_law_otherwise" s__law_otherwise f__law_otherwise fd__law_otherwise
  b__law_otherwise : Binds K fd__law_otherwise ["m", "head", "cycle"] []
  g__law_otherwise : mg "_law_otherwise" = some (.ref f__law_otherwise)
  f_law : Addr
  fd_law : FuncData
  F_law : Fun K "law" "law" s_law f_law fd_law
  b_law : Binds K fd_law ["script"] []
  g_law : mg "law" = some (.ref f_law)
  z_int : mg "int" = none
  z_isinstance : mg "isinstance" = none
  z_len : mg "len" = none
  z_max : mg "max" = none
  z_min : mg "min" = none
  z_range : mg "range" = none
  z_str : mg "str" = none
  z_tuple : mg "tuple" = none
end Tw
namespace Tw
open PySem PySem.Spec PyProof.Rows L2
local macro_rules | `(tactic| walk_at "dp") => `(tactic| first
  | exact Dp.int _ | exact Dp.str _ | exact Dp.bl _ | exact Dp.non
  | assumption
  | ((refine' dp_same ?he ?hd); (case he => assumption); (case hd => walk_at "dp"))
  | ((refine' dp_keep ?he ?hd); (case he => assumption); (case hd => walk_at "dp")))
local macro_rules | `(tactic| walk_at "dpa") => `(tactic| first
  | exact DpAll.nil
  | assumption
  | ((refine' DpAll.cons ?ha ?hb); (case ha => walk_at "dp"); (case hb => walk_at "dpa")))
local macro_rules | `(tactic| walk_at "ty") => `(tactic| first
  | exact ty_int | exact ty_non | exact ty_bl | exact ty_str
  | ((refine' ty_tup ?hx); (case hx => walk_at "dp"))
  | ((refine' ty_lst ?hx); (case hx => walk_at "dp")))
local macro_rules | `(tactic| walk_at "c") => `(tactic| ((try dsimp only); (first
  | (with_reducible assumption) | omega | decide
  | (simp only [List.length_map]; omega)
  | exact mulS ⟨by omega, by omega⟩ ⟨by omega, by omega⟩
  | exact divS ⟨by omega, by omega⟩)))
local macro_rules | `(tactic| walk_at "e0") => `(tactic| first
  | with_reducible refine w_c ?_
  | ((with_reducible refine' w_var ?hv ?_); case hv => rfl)
  | with_reducible refine w_op ?_
  | with_reducible refine w_rI0 ?_
  | with_reducible refine w_rU ?_
  | with_reducible refine w_cons ?_
  | with_reducible refine w_nil ?_
  | with_reducible refine w_cb ?_
  | with_reducible refine w_call ?_
  | with_reducible refine w_tTest ?_
  | with_reducible refine w_bl ?_
  | with_reducible refine w_blV ?_
  | with_reducible refine w_andV ?_
  | with_reducible refine w_chain ?_
  | with_reducible refine w_orV ?_
  | with_reducible refine w_notV ?_
  | with_reducible refine w_tB ?_
  | with_reducible refine w_and ?_
  | with_reducible refine w_or ?_
  | with_reducible refine w_not ?_
  | with_reducible refine w_tI ?_
  | with_reducible refine w_un ?_
  | with_reducible refine w_int ?_
  | with_reducible refine w_tup ?_
  | with_reducible refine w_lst ?_
  | with_reducible refine w_tIsN ?_
  | with_reducible refine w_tNotN ?_
  | with_reducible refine w_slice ?_
  | with_reducible refine w_noPart ?_
  | with_reducible refine w_part ?_
  | with_reducible refine w_pint ?_
  | with_reducible refine w_isStr ?_
  | with_reducible refine w_bm ?_
  | with_reducible refine w_bm0 ?_
  | with_reducible refine w_m1 ?_
  | with_reducible refine w_tyS ?_
  | with_reducible refine w_dget ?_
  | with_reducible refine w_iteT ?_
  | with_reducible refine w_iteF ?_
  | with_reducible refine w_iteNT ?_
  | with_reducible refine w_iteNF ?_
  | with_reducible refine w_pp ?_
  | with_reducible refine w_pp0 ?_
  | with_reducible refine w_lcL ?_
  | with_reducible refine w_lcT ?_
  | with_reducible refine w_lcR1 ?_
  | with_reducible refine w_lcR2 ?_
  | with_reducible refine w_tYes ?_
  | ((with_reducible refine' w_dgS ?h ?hm ?_); (case h => assumption); (case hm => first | exact mo_left | exact mo_seed | exact mo_cells | exact mo_spot))
  | ((with_reducible refine' w_isiY ?ty ?h ?_); (case ty => walk_at "ty"); (case h => decide +kernel))
  | ((with_reducible refine' w_isiN ?ty ?h ?_); (case ty => walk_at "ty"); (case h => decide +kernel))
  | ((with_reducible refine' w_lenL ?h ?_); case h => walk_at "dp")
  | ((with_reducible refine' w_lenT ?h ?_); case h => walk_at "dp")
  | ((with_reducible refine' w_lenSg ?h ?_); case h => walk_at "c")
  | ((with_reducible refine' w_lenS ?h ?_); case h => walk_at "c")
  | ((with_reducible refine' w_addSg ?h ?_); case h => walk_at "c")
  | ((with_reducible refine' w_rI ?c ?_); case c => walk_at "c")
  | with_reducible refine w_eqI ?_
  | with_reducible refine w_neI ?_
  | ((with_reducible refine' w_rEq ?hs ?_); case hs => rfl)
  | ((with_reducible refine' w_rNe ?hs ?_); case hs => rfl))
local macro_rules | `(tactic| walk_at "e") => `(tactic| first
  | walk_at "e0"
  | ((with_reducible refine' w_rMod ?c ?_); case c => walk_at "c"))
local macro_rules | `(tactic| walk_at "p") => `(tactic| first
  | ((with_reducible refine' w_row0 ?h ?_); case h => walk_at "dp")
  | ((with_reducible refine' w_row1 ?h ?_); case h => walk_at "dp")
  | ((with_reducible refine' w_gTupR ?h ?_); case h => walk_at "dp")
  | ((with_reducible refine' w_truV ?he ?hl ?_); (case he => rfl); (case hl => walk_at "c"))
  | ((with_reducible refine' w_slSg ?hl ?_); (case hl => walk_at "c"))
  | with_reducible refine w_find3 ?_
  | with_reducible refine w_max2 (fun _ _ => ?_)
  | with_reducible refine w_min2 (fun _ _ => ?_))
local macro_rules | `(tactic| walk_at "s0") => `(tactic| first
  | with_reducible refine w_seq ?_
  | with_reducible refine w_asg ?_
  | with_reducible refine w_ret ?_
  | with_reducible refine w_drop ?_
  | with_reducible refine w_next ?_
  | with_reducible refine w_retN ?_
  | with_reducible refine w_brk ?_
  | with_reducible refine w_cont ?_
  | with_reducible refine w_dput ?_
  | with_reducible refine w_forL ?_
  | with_reducible refine w_wb ?_
  | with_reducible refine w_forT ?_
  | with_reducible refine w_forR1 ?_
  | with_reducible refine w_forR2 ?_
  | with_reducible refine w_forS ?_
  | with_reducible refine w_gName ?_
  | with_reducible refine w_par ?_
  | with_reducible refine w_asgG ?_
  | with_reducible refine w_par3 ?_
  | with_reducible refine w_par33 ?_
  | with_reducible refine w_par2 ?_)
local macro_rules | `(tactic| walk_at "s") => `(tactic| first
  | walk_at "s0"
  | with_reducible refine w_ifS ?_)
local macro_rules | `(tactic| walk_at "w") => `(tactic| repeat first | walk_at "e" | walk_at "s")
local macro_rules | `(tactic| walk_at "w0") => `(tactic| repeat first | walk_at "e0" | walk_at "s")
local macro_rules | `(tactic| walk_at "wp") => `(tactic| repeat first | walk_at "e" | walk_at "s" | walk_at "p")
local macro_rules | `(tactic| walk_at "t") => `(tactic| first
  | ((with_reducible refine' w_newT (K := ‹PySem.W.Frag›) ?hl ?hd (fun _ _ _ _ _ => ?_)); (case hl => exact len_ok (by simp)); (case hd => walk_at "dpa"))
  | ((with_reducible refine' w_newL (K := ‹PySem.W.Frag›) ?hl ?hd (fun _ _ _ _ _ _ => ?_)); (case hl => exact len_ok (by simp)); (case hd => walk_at "dpa"))
  | ((with_reducible refine' w_gTup2 ?h (fun _ _ _ _ => ?_)); case h => walk_at "dp"))
local macro_rules | `(tactic| walk_at "wt") => `(tactic| repeat first | walk_at "e" | walk_at "s" | walk_at "p" | walk_at "t")
local macro_rules | `(tactic| walk_at "same") => `(tactic| first
  | exact Same.refl _
  | assumption
  | ((refine' Same.trans ?ha ?hb); (case hb => assumption); (case ha => walk_at "same")))
local macro_rules | `(tactic| walk_at "keep") => `(tactic| first
  | exact Keep.refl _
  | assumption
  | (refine Keep.of ?_; assumption)
  | ((refine' Keep.trans ?ha ?hb); (case hb => first | assumption | (refine Keep.of ?_; assumption)); (case ha => walk_at "keep")))
local macro_rules | `(tactic| walk_at "wi") => `(tactic| repeat first | walk_at "e" | walk_at "s0" | walk_at "p" | walk_at "t")
section
variable {P : Program} {w : World} {K : PySem.W.Frag} {mg : Str → Option Value} {base : Heap}
/-! ### least_row -/
def sp_least_row (K : PySem.W.Frag) : Sp := fun vs H Q _ => ∃ h c : List Nat, vs = [.str (Sg h), .str (Sg c)] ∧ c ≠ [] ∧ h.length ≤ 400 ∧ c.length ≤ 400 ∧ ∀ h' c' v H', LF h' c' → (∀ n : Nat, rz h' c' n = rz h c n) → h'.length ≤ h.length → c'.length ≤ c.length → (∀ x ∈ h', x ∈ h) → (∀ x ∈ c', x ∈ c) → Same H H' → Dp K H' v (rowD h' c') → Q v H'
theorem ok_least_row (T : Top K mg) : FnOk P w K mg base CX0 1 T.f_least_row T.fd_least_row ["head", "cycle"] (sp_least_row K) := by
  refine T.F_least_row.ok sc_least_row (fun vs H Q E h => ?_) (fun cdv A outer s H vs Q E hr h => ?_)
  · obtain ⟨h, c, rfl, _⟩ := h
    rfl
  · obtain ⟨h, c, rfl, hc, hl, cl, q⟩ := h
    refine ⟨_, (pss_cons (ps_set (i := 2) sc_least_row.nd (by rfl) (by first | exact Or.inl rfl | exact Or.inr rfl) (pe_bm PySem.F.plainAttrs_str PySem.F.slot_str_find PySem.F.type_str_find mt_find3D (pe_op op_addS (pv 1) (pv 1)) (pa_cons (pv 1) (pa_cons pe_int pa_nil))))
      (pss_cons (ps_set (i := 3) sc_least_row.nd (by rfl) (by first | exact Or.inl rfl | exact Or.inr rfl) (pe_callB (cl_len (K := K)) (by rfl) T.z_len (by decide +kernel) (pa_cons (pv 0) pa_nil)))
      (pss_cons (ps_while PassesOwn.never (PW.pt (pw_and (pt_cmpR op_gt (pv 3) pe_int (nomark _)) (pw_and1 (pt_cmpR op_eq (pe_ix ix_str (pv 0) (pe_op op_sub (pv 3) pe_int) (fun _ _ => rfl)) (pe_ix ix_str (pv 1) (pe_op op_modD (pe_op op_sub (pe_op op_sub (pv 3) pe_int) (pe_callB (cl_len (K := K)) (by rfl) T.z_len (by decide +kernel) (pa_cons (pv 0) pa_nil))) (pv 2)) (fun _ _ => rfl)) (nomark _))))) (pss_one (ps_aug (i := 3) sc_least_row.nd (by rfl) (by first | exact Or.inl rfl | exact Or.inr rfl) pe_int ip_sub)))
      (pss_cons (ps_set (i := 4) sc_least_row.nd (by rfl) (by first | exact Or.inl rfl | exact Or.inr rfl) (pe_op op_modD (pe_op op_sub (pv 3) (pe_callB (cl_len (K := K)) (by rfl) T.z_len (by decide +kernel) (pa_cons (pv 0) pa_nil))) (pv 2)))
      (pss_one (ps_ret (pe_tup (pa_cons (pe_slice sl_str (pv 0) po_none (po_some (pv 3))) (pa_cons (pe_op op_addS (pe_slice sl_str (pv 1) (po_some (pv 4)) (po_some (pv 2))) (pe_slice sl_str (pv 1) po_none (po_some (pv 4)))) pa_nil))))))))), ?_⟩
    rw [show start N_least_row [.str (Sg h), .str (Sg c)] = [some (.str (Sg h)), some (.str (Sg c)), none, none, none] from rfl]
    try dsimp only [cxK]
    obtain ⟨p, hp⟩ := minP_exists c hc
    have hpl := hp.le hc
    have hp0 := hp.1
    walk_at "wt"
    rw [find_again hc hp]
    refine whl_by (fun mm σ' H' => ∃ k : Nat, σ' = [some (.str (Sg h)), some (.str (Sg c)), some (.int (p : Int)), some (.int (k : Int)), none] ∧ H = H' ∧ k = mm ∧ k ≤ h.length ∧ ∀ j : Nat, k ≤ j → ∀ x, h[j]? = some x → x = cz c ((j : Int) - h.length)) h.length ⟨h.length, rfl, rfl, rfl, Nat.le_refl _, fun j hj x hx => by have := (List.getElem?_eq_some_iff.mp hx).1; omega⟩ ?_
    rintro mm σ' H' ⟨k, rfl, rfl, rfl, hk, hh⟩
    have fin : (k = 0 ∨ ∀ x, h[k - 1]? = some x → x ≠ cz c ((k : Int) - 1 - h.length)) → ∀ v H', Same H H' → Dp K H' v (rowD (h.take k) ((c.take p).drop (((k : Int) - h.length) % p).toNat ++ c.take (((k : Int) - h.length) % p).toNat)) → Q v H' := by
      intro hlast v H' e d
      have r0 := Int.emod_nonneg ((k : Int) - h.length) (b := (p : Int)) (by omega)
      have r1 := Int.emod_lt_of_pos ((k : Int) - h.length) (b := (p : Int)) (by omega)
      have hr := rot_cz (s := (((k : Int) - h.length) % p).toNat) hp.2.1 (by omega) hpl
      have hr2 : ∀ z, cz ((c.take p).drop (((k : Int) - h.length) % p).toNat ++ c.take (((k : Int) - h.length) % p).toNat) z = cz c (z + (((k : Int) - h.length) % (p : Int))) := by
        intro z
        rw [hr.2]
        congr 1
        omega
      refine q _ _ v H' ⟨?_, ?_, ?_⟩ (cut_row hk hp.2.1 hr2 hh) (by rw [List.length_take]; omega) (by rw [hr.1]; exact hpl) (fun x hx => List.mem_of_mem_take hx) (fun x hx => ?_) e d
      · intro z
        rw [z] at hr
        simp at hr
        omega
      · rw [hr.1]
        exact minP_shift hr2 hp
      · intro ne
        have hk0 : k ≠ 0 := fun z => by subst z; simp at ne
        rcases hlast with z | hlast
        · exact absurd z hk0
        · have hkl : k - 1 < h.length := by omega
          have e1 : (h.take k).getLast ne = h[k - 1] := by
            rw [List.getLast_eq_getElem, List.getElem_take]
            congr 1
            rw [List.length_take]
            omega
          rw [e1, hr2]
          have e2 := hlast _ (List.getElem?_eq_getElem hkl)
          have e3 := hp.2.1.mulz (((k : Int) - h.length) / p) (-1 + (((k : Int) - h.length) % (p : Int)))
          rw [← e3]
          have e4 := Int.emod_add_mul_ediv ((k : Int) - h.length) p
          rw [show -1 + ((k : Int) - h.length) % (p : Int) + (p : Int) * (((k : Int) - h.length) / p) = (k : Int) - 1 - h.length by omega]
          exact e2
      · rcases List.mem_append.mp hx with hx | hx
        · exact List.mem_of_mem_take (List.mem_of_mem_drop hx)
        · exact List.mem_of_mem_take hx
    have after : (k = 0 ∨ ∀ x, h[k - 1]? = some x → x ≠ cz c ((k : Int) - 1 - h.length)) → tSeq (tAsg (tOp rMod (tOp (rI0 fun i j => V.int (i - j)) (tVar 3) (tCB (rLen K) (tCons (tVar 0) tNil))) (tVar 2)) (gName 4))
        (tRet (tTup (tCons (tSl rSlS (tVar 0) tNoPart (tPart (tVar 3))) (tCons (tOp rAddStr (tSl rSlS (tVar 1) (tPart (tVar 4)) (tPart (tVar 2))) (tSl rSlS (tVar 1) tNoPart (tPart (tVar 4)))) tNil))))
        { nx := fun x H' => Q V.non H', rt := Q } [some (.str (Sg h)), some (.str (Sg c)), some (.int (p : Int)), some (.int (k : Int)), none] H := by
      intro hlast
      have r0 := Int.emod_nonneg ((k : Int) - h.length) (b := (p : Int)) (by omega)
      have r1 := Int.emod_lt_of_pos ((k : Int) - h.length) (b := (p : Int)) (by omega)
      walk_at "wi"
      rw [cutD_both _ r0 (by omega), cutD_to _ r0, Int.toNat_natCast]
      refine w_addSg (by simp only [List.length_drop, List.length_take]; omega) ?_
      walk_at "wi"
      rename_i t1 H1 n1 e1 d1
      rw [cutD_to _ (Int.natCast_nonneg k), Int.toNat_natCast] at d1
      exact fin hlast _ _ e1 d1
    walk_at "wi"
    refine w_iteD (fun hk0 => ?_) (fun hk0 => ?_)
    · have hi := cz_ix hp.2.1 hp0 hpl ((k : Int) - 1 - h.length)
      walk_at "wi"
      refine w_ixSg (by omega) (by omega) (by omega) fun x hx => ?_
      walk_at "wi"
      refine w_ixSg (by omega) (Int.emod_nonneg _ (by omega)) (by have := Int.emod_lt_of_pos ((k : Int) - 1 - h.length) (b := (p : Int)) (by omega); omega) fun x2 hx2 => ?_
      rw [hi] at hx2
      cases hx2
      have hx' : h[k - 1]? = some x := by
        rw [show ((k : Int) - 1).toNat = k - 1 by omega] at hx
        exact hx
      refine w_eqSg (fun e => ?_) (fun e => ?_)
      · walk_at "wi"
        refine w_aug rfl ?_
        walk_at "wi"
        refine ⟨_, _, rfl, rfl, ?_⟩
        refine ⟨k - 1, by omega, k - 1, ?_, rfl, rfl, by omega, fun j hj y hy => ?_⟩
        · rw [show ((k - 1 : Nat) : Int) = (k : Int) - 1 by omega]
          rfl
        · by_cases hjk : j = k - 1
          · subst hjk
            rw [hx'] at hy
            cases hy
            have := (List.cons.inj e).1
            rw [this]
            congr 1
            omega
          · exact hh j (by omega) y hy
      · (repeat walk_at "e")
        refine after (.inr fun y hy => ?_)
        rw [hx'] at hy
        cases hy
        exact fun z => e (by rw [z])
    · (repeat walk_at "e")
      exact after (.inl (by omega))

/-! ### first_mark -/
def sp_first_mark (K : PySem.W.Frag) : Sp := fun vs H Q _ => ∃ v h c, vs = [v] ∧ Dp K H v (rowD h c) ∧ c ≠ [] ∧ h.length ≤ 400 ∧ c.length ≤ 400 ∧ Q (.str (Sg [rz h c 0])) H
theorem ok_first_mark (T : Top K mg) : FnOk P w K mg base CX0 1 T.f_first_mark T.fd_first_mark ["row"] (sp_first_mark K) := by
  refine T.F_first_mark.ok sc_first_mark (fun vs H Q E h => ?_) (fun cdv A outer s H vs Q E hr h => ?_)
  · obtain ⟨v, h, c, rfl, _⟩ := h
    rfl
  · obtain ⟨v, h, c, rfl, hv, hc, hl, cl, q⟩ := h
    refine ⟨_, (pss_cons (ps_asg (pv 0) (pg_tupK (K := K) (n := 2) (by rfl) (pgs_cons (pg_name (i := 1) sc_first_mark.nd (by rfl) (by first | exact Or.inl rfl | exact Or.inr rfl)) (pgs_cons (pg_name (i := 2) sc_first_mark.nd (by rfl) (by first | exact Or.inl rfl | exact Or.inr rfl)) pgs_nil))))
      (pss_one (ps_ret (pe_ifExp (pt_tru (K := K) (pv 1) (by intro _; rfl)) (pe_ix ix_str (pv 1) pe_int (fun _ _ => rfl)) (pe_ix ix_str (pv 2) pe_int (fun _ _ => rfl)))))), ?_⟩
    rw [show start N_first_mark [v] = [some (v), none, none] from rfl]
    try dsimp only [cxK]
    have hcl : 0 < c.length := List.length_pos_iff.mpr hc
    walk_at "wi"
    refine w_iteD (fun hh => ?_) (fun hh => ?_)
    · have hhl : 0 < h.length := List.length_pos_iff.mpr hh
      walk_at "wi"
      refine w_ixSg (by omega) (by decide) (by omega) fun x hx => ?_
      have : rz h c 0 = x := by
        have e := rz_lt (h := h) (c := c) (i := 0) hhl
        rw [show ((0 : Nat) : Int) = 0 from rfl] at e
        rw [e]
        exact Option.some.inj ((List.getElem?_eq_getElem hhl).symm.trans hx)
      rw [this] at q
      exact q
    · have hh0 : h = [] := by simpa using hh
      subst hh0
      walk_at "wi"
      refine w_ixSg (by omega) (by decide) (by omega) fun x hx => ?_
      have : rz [] c 0 = x := by
        rw [rz_ge (by simp)]
        have e := cz_nat (c := c) (i := 0) hcl
        rw [show ((0 : Nat) : Int) = 0 from rfl] at e
        rw [show (0 : Int) - (([] : List Nat).length : Int) = 0 by simp, e]
        exact Option.some.inj ((List.getElem?_eq_getElem hcl).symm.trans hx)
      rw [this] at q
      exact q

/-! ### shifted -/
def sp_shifted (K : PySem.W.Frag) : Sp := fun vs H Q _ => ∃ v h c, vs = [v] ∧ Dp K H v (rowD h c) ∧ LF h c ∧ h.length ≤ 400 ∧ c.length ≤ 400 ∧ ∀ h' c' v H', LF h' c' → (∀ n : Nat, rz h' c' n = rz h c ((n + 1 : Nat) : Int)) → h'.length ≤ h.length → c'.length ≤ c.length → (∀ x ∈ h', x ∈ h) → (∀ x ∈ c', x ∈ c) → Same H H' → Dp K H' v (rowD h' c') → Q v H'
theorem ok_shifted (T : Top K mg) : FnOk P w K mg base CX0 1 T.f_shifted T.fd_shifted ["row"] (sp_shifted K) := by
  refine T.F_shifted.ok sc_shifted (fun vs H Q E h => ?_) (fun cdv A outer s H vs Q E hr h => ?_)
  · obtain ⟨v, h, c, rfl, _⟩ := h
    rfl
  · obtain ⟨v, h, c, rfl, hv, hf, hl, cl, q⟩ := h
    refine ⟨_, (pss_cons (ps_asg (pv 0) (pg_tupK (K := K) (n := 2) (by rfl) (pgs_cons (pg_name (i := 1) sc_shifted.nd (by rfl) (by first | exact Or.inl rfl | exact Or.inr rfl)) (pgs_cons (pg_name (i := 2) sc_shifted.nd (by rfl) (by first | exact Or.inl rfl | exact Or.inr rfl)) pgs_nil))))
      (pss_cons (ps_if (pt_tru (K := K) (pv 1) (by intro _; rfl)) (pss_one (ps_ret (pe_tup (pa_cons (pe_slice sl_str (pv 1) (po_some pe_int) po_none) (pa_cons (pv 2) pa_nil))))) pss_nil)
      (pss_one (ps_ret (pe_tup (pa_cons pe_str (pa_cons (pe_op op_addS (pe_slice sl_str (pv 2) (po_some pe_int) po_none) (pe_slice sl_str (pv 2) po_none (po_some pe_int))) pa_nil))))))), ?_⟩
    rw [show start N_shifted [v] = [some (v), none, none] from rfl]
    try dsimp only [cxK]
    have hc := hf.ne
    have hcl : 0 < c.length := List.length_pos_iff.mpr hc
    try rw [sg_empty]
    walk_at "wi"
    cases h with
    | cons x t =>
      walk_at "wt"
      refine w_iteD (fun _ => ?_) (fun hh => absurd (by simp) hh)
      walk_at "wt"
      rename_i t1 H1 n1 e1 d1
      rw [cutD_from _ (by decide)] at d1
      refine q t c _ _ ⟨hc, hf.min, fun ne => ?_⟩ (fun n => (shift_row n).1 x t rfl) (by simp) (Nat.le_refl _) (fun y hy => List.mem_cons_of_mem _ hy) (fun y hy => hy) e1 d1
      have := hf.last (by simp)
      rw [List.getLast_cons ne] at this
      exact this
    | nil =>
      walk_at "wt"
      refine w_iteD (fun hh => absurd rfl hh) (fun _ => ?_)
      walk_at "wt"
      rw [cutD_from _ (by decide), cutD_to _ (by decide)]
      refine w_addSg (by simp only [List.length_drop, List.length_take]; omega) ?_
      walk_at "wt"
      rename_i t1 H1 n1 e1 d1
      have hr : (c.drop 1 ++ c.take 1).length = c.length ∧ ∀ z, cz (c.drop 1 ++ c.take 1) z = cz c (z + 1) := by
        by_cases h1 : c.length = 1
        · obtain ⟨y, rfl⟩ := List.length_eq_one_iff.mp h1
          refine ⟨rfl, fun z => ?_⟩
          show cz [y] z = cz [y] (z + 1)
          exact (per_len [y] z).symm
        · have := rot_cz (s := 1) (p := c.length) (per_len c) (by omega) (Nat.le_refl _)
          rw [List.take_length] at this
          exact this
      refine q [] (c.drop 1 ++ c.take 1) _ _ ⟨fun z => ?_, ?_, fun ne => absurd rfl ne⟩ (fun n => (shift_row n).2 rfl _ hr.2) (Nat.le_refl _) (by rw [hr.1]; exact Nat.le_refl _) (fun y hy => hy) (fun y hy => ?_) e1 d1
      · rw [z] at hr
        simp at hr
        omega
      · rw [hr.1]
        exact minP_shift hr.2 hf.min
      · rcases List.mem_append.mp hy with hy | hy
        · exact List.mem_of_mem_drop hy
        · exact List.mem_of_mem_take hy

/-! ### _law_begun -/
def sp__law_begun (K : PySem.W.Frag) : Sp := fun vs H Q _ => ∃ (a : Addr) (ns : List Int) (k : Int), vs = [.ref a, .int k] ∧ SqL K H a (ns.map V.int) ∧ ns.length ≤ 63 ∧ (∀ n ∈ ns, Big n) ∧ 0 ≤ k ∧ k < 1000 ∧
  ∀ (m c : Addr) H', Same H H' → H m = none → Mo H' m c 0 → Q (.ref m) H'
theorem ok__law_begun (T : Top K mg) : FnOk P w K mg base CX0 1 T.f__law_begun T.fd__law_begun ["script", "k"] (sp__law_begun K) := by
  refine T.F__law_begun.ok sc__law_begun (fun vs H Q E h => ?_) (fun cdv A outer s H vs Q E hr h => ?_)
  · obtain ⟨a, ns, k, rfl, _⟩ := h
    rfl
  · obtain ⟨a, ns, k, rfl, hS, hl, hB, hk0, hk1, q⟩ := h
    refine ⟨_, (pss_cons (ps_set (i := 2) sc__law_begun.nd (by rfl) (by first | exact Or.inl rfl | exact Or.inr rfl) (pe_op op_catL (pe_slice (sl_listK (K := K)) (pv 0) (po_some (pv 1)) po_none) (pe_slice (sl_listK (K := K)) (pv 0) po_none (po_some (pv 1)))))
      (pss_cons (ps_setLc (i := 3) (own := [("cell", 5)]) (g := gName 5) (by rfl) sc__law_begun.nd (by rfl) (by rfl) (sw_true rfl rfl rfl (by decide +kernel)) (pi_listK (K := K) (pv 2)) (blkOk_by (own := [("cell", 5)]) (N := N__law_begun) (sc := defScope s__law_begun) (by decide +kernel)) (fun _ _ _ _ _ => (pg_name (i := 5) sc__law_begun.nd (by rfl) (by first | exact Or.inl rfl | exact Or.inr rfl))) (fun _ _ _ _ _ => (pts_one (pt_cmpR op_ge (pv 5) (pe_op op_pow pe_int pe_int) (nomark _)))) (fun _ _ _ _ _ => (pv 5)))
      (pss_cons (ps_set (i := 4) sc__law_begun.nd (by rfl) (by first | exact Or.inl rfl | exact Or.inr rfl) (pe_op op_add pe_int (pv 1)))
      (pss_cons (ps_for PassesOwn.never (by rfl) (pi_listK (K := K) (pv 2)) (pg_name (i := 5) sc__law_begun.nd (by rfl) (by first | exact Or.inl rfl | exact Or.inr rfl)) (pss_one (ps_set (i := 4) sc__law_begun.nd (by rfl) (by first | exact Or.inl rfl | exact Or.inr rfl) (pe_op op_modD (pe_callTy cl_int (by rfl) T.z_int (by decide +kernel) (pa_cons (pe_op op_add (pe_op op_mulX (pv 4) pe_int) (pv 5)) pa_nil)) pe_int))))
      (pss_one (ps_ret (pe_disp (pps_cons pe_str (pe_ifExp (pt_cmpR (op_neK (K := K) hr.units) (pv 3) (pe_lst pa_nil) (nomark _)) (pe_ix (ix_listK (K := K)) (pv 3) pe_int (fun _ _ => rfl)) pe_int) (pps_cons pe_str (pv 4) (pps_cons pe_str (pe_op op_catL (pv 2) (pe_lst (pa_cons (pe_op op_add (pe_op op_mulX pe_int (pv 1)) pe_int) pa_nil))) (pps_cons pe_str pe_int pps_nil)))) (by rfl) (by rfl) (fun z => by cases z) (by decide)))))))), ?_⟩
    rw [show start N__law_begun [.ref a, .int k] = [some (.ref a), some (.int k), none, none, none, none] from rfl]
    try dsimp only [cxK]
    have hz : sizeLine = 16777216 := sizeLine_eq
    walk_at "w"
    refine w_slV hS fun p1 H1 n1 e1 f1 => ?_
    walk_at "w"
    refine w_slV (e1.seq hS) fun p2 H2 n2 e2 f2 => ?_
    rw [cutD_from _ hk0] at f1
    rw [cutD_to _ hk0] at f2
    refine w_catL (e2 _ _ f1) f2 (by simp only [List.length_drop, List.length_take, List.length_map]; omega) fun p3 H3 n3 e3 f3 => ?_
    rw [← List.map_drop, ← List.map_take, ← List.map_append] at f3
    generalize hcs : ns.drop k.toNat ++ ns.take k.toNat = cs at f3
    have hcB : ∀ n ∈ cs, Big n := fun n hn => by
      rw [← hcs] at hn
      rcases List.mem_append.mp hn with hn | hn
      · exact hB n (List.mem_of_mem_drop hn)
      · exact hB n (List.mem_of_mem_take hn)
    have hcl : cs.length ≤ 63 := by rw [← hcs]; simp only [List.length_append, List.length_drop, List.length_take]; omega
    have d3 : Dp K H3 (.ref p3) (.list (cs.map PyData.int)) := .lst (.of f3) (dpa_ints cs)
    have s3 : Same H H3 := (e1.trans e2).trans e3
    walk_at "w"
    refine lc_list_by (JP H3 fun i es => ∃ gs : List Int, es = gs.map PyData.int ∧ gs.length ≤ i) (JP.ok ⟨[], rfl, by simp⟩) d3 (by simp; omega) (fun _ => rfl) ?_ ?_
    · intro i d y H' es hd hy hJ Yes No hyes hno
      obtain ⟨hs, gs, rfl, hgl⟩ := hJ
      rw [List.getElem?_map] at hd
      obtain ⟨z, hz1, rfl⟩ := Option.map_eq_some_iff.mp hd
      cases hy
      walk_at "w"
      refine w_rI ⟨by decide, by decide, by decide⟩ ?_
      walk_at "w"
      refine w_ite (fun hb => ?_) (fun hb => ?_)
      · walk_at "w"
        exact hyes _ H' (.int z) (Keep.refl _) rfl (.int z) ⟨hs, gs ++ [z], by simp, by simp; omega⟩
      · exact hno H' (Keep.refl _) ⟨hs, gs, rfl, by omega⟩
    · intro p4 H4 vs4 es n4 k4 f4 d4 hJ
      obtain ⟨s4, gs, rfl, hgl⟩ := hJ
      rw [List.length_map] at hgl
      walk_at "w"
      refine forL_by (fun i σ' H' => ∃ (sd : Int) (y5 : Option V), σ' = [some (.ref a), some (.int k), some (.ref p3), some (.ref p4), some (.int sd), y5] ∧ H4 = H' ∧ 0 ≤ sd ∧ sd < 2147483647) (dp_same s4 d3) ⟨71 + k, none, rfl, rfl, by omega, by omega⟩ ?_ ?_ ?_
      · rintro i σ' H' _ ⟨sd, y5, rfl, rfl, _⟩
        exact Keep.refl _
      · rintro i d y σ' H' hd hy ⟨sd, y5, rfl, rfl, hsd0, hsd1⟩
        rw [List.getElem?_map] at hd
        obtain ⟨z, hz1, rfl⟩ := Option.map_eq_some_iff.mp hd
        cases hy
        walk_at "w0"
        refine w_rModB (by decide) fun r h0 h1 => ?_
        walk_at "w0"
        exact ⟨r, _, rfl, rfl, h0, h1⟩
      · rintro σ' H' ⟨sd, y5, rfl, rfl, hsd0, hsd1⟩
        walk_at "w"
        refine w_disp fun pd Hd nd ed fd => ?_
        walk_at "w"
        refine w_newL (K := K) (by decide) .nil fun p6 H6 n6 e6 f6 d6 => ?_
        have d4' : Dp K H6 (.ref p4) (.list (gs.map PyData.int)) := dp_same e6 (dp_same ed d4)
        have rest : ∀ (lv : Int) (H7 : Hp), Same H6 H7 → rNewL [V.int (53 * k + 11)] H7 fun y H2 => rCat (V.ref p3) y H2 fun y H2 =>
            tPairs [(tC (V.str (Str.ofString "spot")), tC (V.int 0))] [some (V.ref a), some (V.int k), some (V.ref p3), some (V.ref p4), some (V.int sd), y5] H2 fun ps H3 =>
              rDisp pd ((V.str (Str.ofString "left"), V.int lv) :: (V.str (Str.ofString "seed"), V.int sd) :: (V.str (Str.ofString "cells"), y) :: ps) H3 Q := by
          intro lv H7 e7
          refine w_newL (K := K) (len_ok (by simp)) (dpa_one (.int _)) fun p8 H8 n8 e8 f8 d8 => ?_
          refine w_catL (e8 _ _ (e7 _ _ (e6 _ _ (ed _ _ (s4 _ _ f3))))) f8 (by simp; omega) fun p9 H9 n9 e9 f9 => ?_
          walk_at "w"
          have fd9 : H9 pd = some (.dK []) := e9 _ _ (e8 _ _ (e7 _ _ (e6 _ _ fd)))
          refine ⟨fd9, [(.inr "left", .int lv), (.inr "seed", .int sd), (.inr "cells", .ref p9), (.inr "spot", .int 0)], rfl, by simp, ?_⟩
          have hm : mergeK [] [((.inr "left" : Key), V.int lv), (.inr "seed", .int sd), (.inr "cells", .ref p9), (.inr "spot", .int 0)] = moKvs lv sd p9 0 := by
            simp [mergeK, putK, moKvs, k_left_seed, k_left_cells, k_left_spot, k_seed_cells, k_seed_spot, k_cells_spot]
          rw [hm]
          have sall : Same H4 H9 := (((ed.trans e6).trans e7).trans e8).trans e9
          refine q pd p9 _ (same_mut ((s3.trans s4).trans sall) ((s3.trans s4).free nd)) ((s3.trans s4).free nd) ⟨lv, sd, 0, cs ++ [53 * k + 11], upd_same, ?_, by simp, by simp; omega, ?_, hsd0, hsd1, by omega, by omega⟩
          · rw [upd_ne (ne_of f9 fd9 (fun z => nomatch z)), f9]
            simp
          · intro n hn
            rcases List.mem_append.mp hn with hn | hn
            · exact hcB n hn
            · simp at hn; subst hn; exact Big.small (by omega)
        refine w_neP d4' d6 (pln_ints _) rfl (fun he => ?_) (fun he => ?_)
        · walk_at "w"
          exact rest 0 H6 (Same.refl _)
        · have hg0 : 0 < gs.length := by
            cases gs with
            | nil => exact absurd rfl he
            | cons g gs => simp
          walk_at "w"
          refine w_ixLI d4' (by decide) (by omega) fun z _ => ?_
          walk_at "w"
          exact rest z H6 (Same.refl _)

/-! ### _law_draw -/
def sp__law_draw (K : PySem.W.Frag) : Sp := fun vs H Q _ => ∃ (m c : Addr) (below : Int) (b : Nat), vs = [.ref m, .int below] ∧ 0 < below ∧ below < 2 ^ 60 ∧ Mo H m c b ∧ b < 2 ^ 50 ∧
  ∀ (r : Int) H', 0 ≤ r → r < below → Keep H H' → Mo H' m c (b + 1) → Q (.int r) H'
theorem ok__law_draw (T : Top K mg) : FnOk P w K mg base CX0 1 T.f__law_draw T.fd__law_draw ["m", "below"] (sp__law_draw K) := by
  refine T.F__law_draw.ok sc__law_draw (fun vs H Q E h => ?_) (fun cdv A outer s H vs Q E hr h => ?_)
  · obtain ⟨m, c, below, b, rfl, _⟩ := h
    rfl
  · obtain ⟨m, c, below, b, rfl, hb0, hb1, hm, hb, q⟩ := h
    refine ⟨_, (pss_cons (ps_if (pt_cmpR op_gt (pe_dget (hu_of hr) (pv 0) pe_str (fun _ _ => rfl)) pe_int (nomark _)) (pss_cons (ps_set (i := 2) sc__law_draw.nd (by rfl) (by first | exact Or.inl rfl | exact Or.inr rfl) (pe_op op_modD (pe_callTy cl_int (by rfl) T.z_int (by decide +kernel) (pa_cons (pe_dget (hu_of hr) (pv 0) pe_str (fun _ _ => rfl)) pa_nil)) (pv 1)))
      (pss_cons (ps_dput (hu_of hr) (pv 0) pe_str (pe_op op_fdivW (pe_dget (hu_of hr) (pv 0) pe_str (fun _ _ => rfl)) (pv 1)) rfl)
      (pss_one (ps_ret (pv 2))))) pss_nil)
      (pss_cons (ps_set (i := 3) sc__law_draw.nd (by rfl) (by first | exact Or.inl rfl | exact Or.inr rfl) (pe_dget (hu_of hr) (pv 0) pe_str (fun _ _ => rfl)))
      (pss_cons (ps_dput (hu_of hr) (pv 0) pe_str (pe_op op_add (pv 3) pe_int) rfl)
      (pss_cons (ps_par (i := 4) (j := 5) (by rfl) sc__law_draw.nd (by rfl) (by rfl) (by decide) (by rfl) (by rfl) (pa_cons (pe_dget (hu_of hr) (pv 0) pe_str (fun _ _ => rfl)) (pa_cons (pe_op op_add (pe_dget (hu_of hr) (pv 0) pe_str (fun _ _ => rfl)) (pe_op op_mulX (pe_op op_mulX pe_int (pv 3)) (pv 3))) pa_nil)) (by rfl))
      (pss_cons (ps_set (i := 6) sc__law_draw.nd (by rfl) (by first | exact Or.inl rfl | exact Or.inr rfl) (pe_ix (ix_listK (K := K)) (pv 4) (pe_op op_modD (pe_callTy cl_int (by rfl) T.z_int (by decide +kernel) (pa_cons (pv 3) pa_nil)) (pe_callB (cl_len (K := K)) (by rfl) T.z_len (by decide +kernel) (pa_cons (pv 4) pa_nil))) (fun _ _ => rfl)))
      (pss_cons (ps_set (i := 7) sc__law_draw.nd (by rfl) (by first | exact Or.inl rfl | exact Or.inr rfl) (pe_op op_modD (pe_callTy cl_int (by rfl) T.z_int (by decide +kernel) (pa_cons (pe_op op_add (pe_op op_mulX (pv 6) (pe_op op_add (pe_op op_mulX pe_int (pv 3)) pe_int)) (pv 5)) pa_nil)) pe_int))
      (pss_cons (ps_set (i := 7) sc__law_draw.nd (by rfl) (by first | exact Or.inl rfl | exact Or.inr rfl) (pe_op op_modD (pe_callTy cl_int (by rfl) T.z_int (by decide +kernel) (pa_cons (pe_op op_add (pe_op op_add (pe_op op_mulX (pv 7) (pv 7)) (pe_op op_mulX pe_int (pv 3))) (pe_dget (hu_of hr) (pv 0) pe_str (fun _ _ => rfl))) pa_nil)) pe_int))
      (pss_one (ps_ret (pe_op op_modD (pe_op op_fdivW (pe_op op_modD (pe_callTy cl_int (by rfl) T.z_int (by decide +kernel) (pa_cons (pe_op op_add (pe_op op_mulX (pv 7) pe_int) (pv 3)) pa_nil)) pe_int) pe_int) (pv 1))))))))))), ?_⟩
    rw [show start N__law_draw [.ref m, .int below] = [some (.ref m), some (.int below), none, none, none, none, none, none] from rfl]
    obtain ⟨left, seed, spot, ns, m1, m2, m3, m4, m5, m6, m7, m8, m9⟩ := hm
    try dsimp only [cxK]
    walk_at "w"
    refine w_iteD (fun hl => ?_) (fun hl => ?_)
    · walk_at "w"
      refine w_dpS m1 mo_put_left mo_len fun H1 e1 m1' => ?_
      walk_at "w"
      exact q _ H1 (Int.emod_nonneg _ (by omega)) (Int.emod_lt_of_pos _ hb0) e1 ⟨_, seed, spot, ns, m1', e1.l m2, m3, m4, m5, m6, m7, m8, by omega⟩
    · walk_at "w"
      refine w_dpS m1 mo_put_spot mo_len fun H1 e1 m1' => ?_
      have m2' := e1.l m2
      have dC : Dp K H1 (.ref c) (.list (ns.map PyData.int)) := .lst (.of m2') (dpa_ints ns)
      walk_at "w"
      rw [List.length_map]
      refine w_ixLI dC (Int.emod_nonneg _ (by omega)) (Int.emod_lt_of_pos _ (by omega)) fun z hz => ?_
      have hz2 := m5 z (List.mem_of_getElem? hz)
      walk_at "w"
      refine w_rI (hz2.mul (by omega)) ?_
      walk_at "w0"
      refine w_rModB (by decide) fun r1 h1 h1' => ?_
      walk_at "w0"
      refine w_rModB (by decide) fun r2 h2 h2' => ?_
      walk_at "w0"
      refine w_rModB (by decide) fun r3 h3 h3' => ?_
      walk_at "w0"
      refine w_rModB hb0 fun r4 h4 h4' => ?_
      walk_at "w0"
      exact q r4 H1 h4 h4' e1 ⟨left, seed, spot + 1, ns, m1', m2', m3, m4, m5, m6, m7, by omega, by omega⟩

/-! ### _law_at -/
def sp__law_at (K : PySem.W.Frag) : Sp := fun vs H Q _ => ∃ v h c, ∃ k : Nat, vs = [v, .int (k : Int)] ∧ Dp K H v (rowD h c) ∧ c ≠ [] ∧ h.length ≤ 400 ∧ c.length ≤ 400 ∧ Q (.str (Sg [rz h c k])) H
theorem ok__law_at (T : Top K mg) : FnOk P w K mg base CX0 1 T.f__law_at T.fd__law_at ["row", "k"] (sp__law_at K) := by
  refine T.F__law_at.ok sc__law_at (fun vs H Q E h => ?_) (fun cdv A outer s H vs Q E hr h => ?_)
  · obtain ⟨v, h, c, k, rfl, _⟩ := h
    rfl
  · obtain ⟨v, h, c, k, rfl, hv, hc, hl, cl, q⟩ := h
    refine ⟨_, (pss_one (ps_ret (pe_ifExp (pt_cmpR op_lt (pv 1) (pe_callB (cl_len (K := K)) (by rfl) T.z_len (by decide +kernel) (pa_cons (pe_ix (ix_tupK (K := K)) (pv 0) pe_int (fun _ _ => rfl)) pa_nil)) (nomark _)) (pe_ix ix_str (pe_ix (ix_tupK (K := K)) (pv 0) pe_int (fun _ _ => rfl)) (pv 1) (fun _ _ => rfl)) (pe_ix ix_str (pe_ix (ix_tupK (K := K)) (pv 0) pe_int (fun _ _ => rfl)) (pe_op op_modD (pe_callTy cl_int (by rfl) T.z_int (by decide +kernel) (pa_cons (pe_op op_sub (pv 1) (pe_callB (cl_len (K := K)) (by rfl) T.z_len (by decide +kernel) (pa_cons (pe_ix (ix_tupK (K := K)) (pv 0) pe_int (fun _ _ => rfl)) pa_nil))) pa_nil)) (pe_callB (cl_len (K := K)) (by rfl) T.z_len (by decide +kernel) (pa_cons (pe_ix (ix_tupK (K := K)) (pv 0) pe_int (fun _ _ => rfl)) pa_nil))) (fun _ _ => rfl))))), ?_⟩
    rw [show start N__law_at [v, .int (k : Int)] = [some (v), some (.int (k : Int))] from rfl]
    try dsimp only [cxK]
    have hcl : 0 < c.length := List.length_pos_iff.mpr hc
    walk_at "wi"
    refine w_iteD (fun hh => ?_) (fun hh => ?_)
    · walk_at "wi"
      refine w_ixSg (by omega) (by omega) (by omega) fun x hx => ?_
      have hk : k < h.length := by omega
      rw [Int.toNat_natCast, List.getElem?_eq_getElem hk] at hx
      rw [rz_lt hk, Option.some.inj hx] at q
      exact q
    · walk_at "wi"
      refine w_ixSg (by omega) (Int.emod_nonneg _ (by omega)) (Int.emod_lt_of_pos _ (by omega)) fun x hx => ?_
      have := cz_ix (per_len c) hcl (Nat.le_refl _) ((k : Int) - h.length)
      rw [this] at hx
      rw [rz_ge (by omega), Option.some.inj hx] at q
      exact q

/-! ### _law_least_row -/
def sp__law_least_row (K : PySem.W.Frag) : Sp := fun vs H Q _ => ∃ h c : List Nat, vs = [.str (Sg h), .str (Sg c)] ∧ c ≠ [] ∧ h.length ≤ 400 ∧ c.length ≤ 400 ∧ ∀ h' c' v H', LF h' c' → (∀ n : Nat, rz h' c' n = rz h c n) → Same H H' → Dp K H' v (rowD h' c') → Q v H'
theorem ok__law_least_row (T : Top K mg) : FnOk P w K mg base CX0 1 T.f__law_least_row T.fd__law_least_row ["head", "cycle"] (sp__law_least_row K) := by
  refine T.F__law_least_row.ok sc__law_least_row (fun vs H Q E h => ?_) (fun cdv A outer s H vs Q E hr h => ?_)
  · obtain ⟨h, c, rfl, _⟩ := h
    rfl
  · obtain ⟨h, c, rfl, hc, hl, cl, q⟩ := h
    refine ⟨_, (pss_cons (ps_for PassesOwn.never (by rfl) (pi_range2 (by rfl) T.z_range (pa_cons pe_int (pa_cons (pe_op op_add (pe_callB (cl_len (K := K)) (by rfl) T.z_len (by decide +kernel) (pa_cons (pv 1) pa_nil)) pe_int) pa_nil))) (pg_name (i := 2) sc__law_least_row.nd (by rfl) (by first | exact Or.inl rfl | exact Or.inr rfl)) (pss_one (ps_if (PW.pt (pw_and (pt_cmpR op_eq (pe_op op_modD (pe_callTy cl_int (by rfl) T.z_int (by decide +kernel) (pa_cons (pe_callB (cl_len (K := K)) (by rfl) T.z_len (by decide +kernel) (pa_cons (pv 1) pa_nil)) pa_nil)) (pv 2)) pe_int (nomark _)) (pw_and1 (pt_cmpR op_eq (pv 1) (pe_op op_mulStr (pe_slice sl_str (pv 1) po_none (po_some (pv 2))) (pe_op op_fdivW (pe_callB (cl_len (K := K)) (by rfl) T.z_len (by decide +kernel) (pa_cons (pv 1) pa_nil)) (pv 2))) (nomark _))))) (pss_cons (ps_set (i := 1) sc__law_least_row.nd (by rfl) (by first | exact Or.inl rfl | exact Or.inr rfl) (pe_slice sl_str (pv 1) po_none (po_some (pv 2))))
      (pss_one ps_break)) pss_nil)))
      (pss_cons (ps_for PassesOwn.never (by rfl) (pi_range1 (by rfl) T.z_range (pa_cons (pe_callB (cl_len (K := K)) (by rfl) T.z_len (by decide +kernel) (pa_cons (pv 0) pa_nil)) pa_nil)) (pg_name (i := 3) sc__law_least_row.nd (by rfl) (by first | exact Or.inl rfl | exact Or.inr rfl)) (pss_one (ps_if (PW.pt (pw_and (pt_cmpR op_ne (pv 0) pe_str (nomark _)) (pw_and1 (pt_cmpR op_eq (pe_ix ix_str (pv 0) (pe_un un_neg pe_int) (fun _ _ => rfl)) (pe_ix ix_str (pv 1) (pe_un un_neg pe_int) (fun _ _ => rfl)) (nomark _))))) (pss_one (ps_par (i := 0) (j := 1) (by rfl) sc__law_least_row.nd (by rfl) (by rfl) (by decide) (by rfl) (by rfl) (pa_cons (pe_slice sl_str (pv 0) po_none (po_some (pe_un un_neg pe_int))) (pa_cons (pe_op op_addS (pe_ix ix_str (pv 1) (pe_un un_neg pe_int) (fun _ _ => rfl)) (pe_slice sl_str (pv 1) po_none (po_some (pe_un un_neg pe_int)))) pa_nil)) (by rfl))) pss_nil)))
      (pss_one (ps_ret (pe_tup (pa_cons (pv 0) (pa_cons (pv 1) pa_nil))))))), ?_⟩
    rw [show start N__law_least_row [.str (Sg h), .str (Sg c)] = [some (.str (Sg h)), some (.str (Sg c)), none, none] from rfl]
    try dsimp only [cxK]
    obtain ⟨p, hp⟩ := minP_exists c hc
    have hpl := hp.le hc
    have hp0 := hp.1
    have hpd := hp.dvd (per_len c)
    have hcl : 0 < c.length := List.length_pos_iff.mpr hc
    try rw [sg_empty]
    with_reducible refine w_seq ?_
    refine w_meetS (fun σ' H' => ∃ (y2 y3 : Option V), σ' = [some (.str (Sg h)), some (.str (Sg (c.take p))), y2, y3] ∧ H = H') (fun nx hnx => ?_) ?_
    · walk_at "wi"
      refine forR2_by (fun i σ' H' => ∃ (y2 y3 : Option V), σ' = [some (.str (Sg h)), some (.str (Sg c)), y2, y3] ∧ H = H' ∧ i < p) (by omega) ⟨none, none, rfl, rfl, hp0⟩ ?_ ?_
      · rintro i σ' H' hi ⟨y2, y3, rfl, rfl, hip⟩
        have no : ¬ (1 + i ∣ c.length ∧ Per c ((1 + i : Nat) : Int)) → i + 1 < p := fun hn => by
          by_cases z : i + 1 < p
          · exact z
          · exfalso
            have : p = 1 + i := by omega
            subst this
            exact hn ⟨hpd, hp.2.1⟩
        have c1 : ((1 : Int) + i) = ((1 + i : Nat) : Int) := by omega
        walk_at "wi"
        with_reducible refine w_ifS ?_
        walk_at "wi"
        refine w_iteD (fun hd => ?_) (fun hd => ?_)
        · have hdv : 1 + i ∣ c.length := by
            rw [c1, ← Int.natCast_emod] at hd
            exact Nat.dvd_of_mod_eq_zero (by omega)
          have c2 : ((c.length : Int) / (1 + (i : Int))).toNat = c.length / (1 + i) := by rw [c1, ← Int.natCast_ediv, Int.toNat_natCast]
          have c3 : c.length / (1 + i) ≤ c.length := Nat.div_le_self _ _
          have c4 : (0 : Int) ≤ (c.length : Int) / (1 + (i : Int)) := Int.ediv_nonneg (by omega) (by omega)
          walk_at "wi"
          rw [cutD_to _ (by omega), show ((1 : Int) + i).toNat = 1 + i by omega]
          refine w_mulS ⟨c4, by omega⟩ (by rw [List.length_take]; omega) ?_
          rw [c2]
          refine w_eqSg (fun e => ?_) (fun e => ?_)
          · have hper := (rep_iff (by omega) (by omega) hdv).mp e
            have hpe : p = 1 + i := by
              by_cases z : 1 + i < p
              · exact absurd hper (hp.2.2 (1 + i) (by omega) z)
              · omega
            walk_at "wi"
            rw [cutD_to _ (by omega), show ((1 : Int) + i).toNat = p by omega]
            exact hnx _ _ ⟨_, _, rfl, rfl⟩
          · walk_at "wi"
            exact ⟨_, _, rfl, rfl, no fun z => e ((rep_iff (by omega) (by omega) hdv).mpr z.2)⟩
        · walk_at "wi"
          refine ⟨_, _, rfl, rfl, no fun z => hd ?_⟩
          rw [c1, ← Int.natCast_emod, Nat.mod_eq_zero_of_dvd z.1]
          rfl
      · rintro σ' H' ⟨y2, y3, rfl, rfl, hip⟩
        omega
    · rintro σ' H' ⟨y2, y3, rfl, rfl⟩
      have ht := take_cz hp.2.1 hp0 hpl
      walk_at "wi"
      refine forR1_by (fun i σ' H' => ∃ (g d : List Nat) (y2 y3 : Option V), σ' = [some (.str (Sg g)), some (.str (Sg d)), y2, y3] ∧ H = H' ∧ d ≠ [] ∧ d.length = p ∧ MinP d p ∧ (∀ n : Nat, rz g d n = rz h c n) ∧ g.length ≤ h.length ∧
        (g.length + i = h.length ∨ ∀ e : g ≠ [], g.getLast e ≠ cz d (-1))) (by omega) ⟨h, c.take p, y2, y3, rfl, rfl, fun z => (by rw [z] at ht; simp at ht; omega), ht.1, minP_shift (s := 0) (fun z => (by rw [ht.2]; congr 1; omega)) hp, fun n => ?_, Nat.le_refl _, .inl rfl⟩ ?_ ?_
      · unfold rz
        split
        · rfl
        · rw [ht.2]
      · rintro i σ' H' hi ⟨g, d, y2, y3, rfl, rfl, hd0, hd1, hd2, hrow, hgl, hor⟩
        have hdl : 0 < d.length := List.length_pos_iff.mpr hd0
        walk_at "wi"
        with_reducible refine w_ifS ?_
        walk_at "wi"
        refine w_iteND (fun e => ?_) (fun e => ?_)
        rotate_left
        · walk_at "wi"
          refine ⟨g, d, _, _, rfl, rfl, hd0, hd1, hd2, hrow, hgl, .inr fun z => absurd (sg_V.mp e) z⟩
        · replace e : g ≠ [] := fun z => e (sg_V.mpr z)
          walk_at "wi"
          refine w_ixSgLast (by omega) e ?_
          walk_at "wi"
          refine w_ixSgLast (by omega) hd0 ?_
          refine w_eqSg (fun e2 => ?_) (fun e2 => ?_)
          · have e3 := (List.cons.inj e2).1
            have hgl0 : 0 < g.length := List.length_pos_iff.mpr e
            walk_at "wi"
            refine w_ixSgLast (by omega) hd0 ?_
            walk_at "wi"
            rw [cutD_butlast, cutD_butlast]
            refine w_addSg (by simp; omega) ?_
            walk_at "wi"
            have hb := back_cz hd0
            refine ⟨g.dropLast, d.getLast hd0 :: d.dropLast, _, _, rfl, rfl, by simp, by rw [hb.1]; exact hd1, minP_shift (s := -1) (fun z => by rw [hb.2]; congr 1) hd2, fun n => by rw [back_row e hd0 e3, hrow], by simp; omega, ?_⟩
            rcases hor with hor | hor
            · left
              rw [List.length_dropLast]
              omega
            · exfalso
              apply hor e
              rw [e3, cz_last hd0]
          · walk_at "wi"
            refine ⟨g, d, _, _, rfl, rfl, hd0, hd1, hd2, hrow, hgl, .inr fun z => ?_⟩
            rw [cz_last hd0]
            exact fun w => e2 (by rw [w])
      · rintro σ' H' ⟨g, d, y2, y3, rfl, rfl, hd0, hd1, hd2, hrow, hgl, hor⟩
        walk_at "wt"
        rename_i t1 H1 n1 e1 d1
        refine q g d _ _ ⟨hd0, by rw [hd1]; exact hd2, fun ne => ?_⟩ hrow e1 d1
        rcases hor with hor | hor
        · have : 0 < g.length := List.length_pos_iff.mpr ne
          omega
        · exact hor ne

/-! ### _law_is_least -/
def sp__law_is_least (K : PySem.W.Frag) : Sp := fun vs H Q _ => ∃ v h c, vs = [v] ∧ Dp K H v (rowD h c) ∧ LF h c ∧ h.length ≤ 400 ∧ c.length ≤ 400 ∧ Q (.bl true) H
theorem ok__law_is_least (T : Top K mg) : FnOk P w K mg base CX0 1 T.f__law_is_least T.fd__law_is_least ["row"] (sp__law_is_least K) := by
  refine T.F__law_is_least.ok sc__law_is_least (fun vs H Q E h => ?_) (fun cdv A outer s H vs Q E hr h => ?_)
  · obtain ⟨v, h, c, rfl, _⟩ := h
    rfl
  · obtain ⟨v, h, c, rfl, hv, hf, hl, cl, q⟩ := h
    refine ⟨_, (pss_cons (ps_if (PW.pt (pw_or (pt_not (pt_val (pe_callB (cl_isi (K := K)) (by rfl) T.z_isinstance (by decide +kernel) (pa_cons (pv 0) (pa_cons (pe_bltn (v := .ty "tuple") (by rfl) T.z_tuple (by decide +kernel) rfl) pa_nil))))) (pw_or1 (pt_cmpR op_ne (pe_callB (cl_len (K := K)) (by rfl) T.z_len (by decide +kernel) (pa_cons (pv 0) pa_nil)) pe_int (nomark _))))) (pss_one (ps_ret pe_bl)) pss_nil)
      (pss_cons (ps_asg (pv 0) (pg_tupK (K := K) (n := 2) (by rfl) (pgs_cons (pg_name (i := 1) sc__law_is_least.nd (by rfl) (by first | exact Or.inl rfl | exact Or.inr rfl)) (pgs_cons (pg_name (i := 2) sc__law_is_least.nd (by rfl) (by first | exact Or.inl rfl | exact Or.inr rfl)) pgs_nil))))
      (pss_cons (ps_if (PW.pt (pw_or (pt_not (pt_val (pe_callB (cl_isi (K := K)) (by rfl) T.z_isinstance (by decide +kernel) (pa_cons (pv 1) (pa_cons (pe_bltn (v := .ty "str") (by rfl) T.z_str (by decide +kernel) rfl) pa_nil))))) (pw_or1 (pt_not (pt_val (pe_callB (cl_isi (K := K)) (by rfl) T.z_isinstance (by decide +kernel) (pa_cons (pv 2) (pa_cons (pe_bltn (v := .ty "str") (by rfl) T.z_str (by decide +kernel) rfl) pa_nil)))))))) (pss_one (ps_ret pe_bl)) pss_nil)
      (pss_cons (ps_if (PW.pt (pw_or (pt_cmpR op_eq (pv 2) pe_str (nomark _)) (pw_or1 (PW.pt (pw_and (pt_cmpR op_ne (pv 1) pe_str (nomark _)) (pw_and1 (pt_cmpR op_eq (pe_ix ix_str (pv 1) (pe_un un_neg pe_int) (fun _ _ => rfl)) (pe_ix ix_str (pv 2) (pe_un un_neg pe_int) (fun _ _ => rfl)) (nomark _)))))))) (pss_one (ps_ret pe_bl)) pss_nil)
      (pss_cons (ps_for PassesOwn.never (by rfl) (pi_range2 (by rfl) T.z_range (pa_cons pe_int (pa_cons (pe_callB (cl_len (K := K)) (by rfl) T.z_len (by decide +kernel) (pa_cons (pv 2) pa_nil)) pa_nil))) (pg_name (i := 3) sc__law_is_least.nd (by rfl) (by first | exact Or.inl rfl | exact Or.inr rfl)) (pss_one (ps_if (PW.pt (pw_and (pt_cmpR op_eq (pe_op op_modD (pe_callTy cl_int (by rfl) T.z_int (by decide +kernel) (pa_cons (pe_callB (cl_len (K := K)) (by rfl) T.z_len (by decide +kernel) (pa_cons (pv 2) pa_nil)) pa_nil)) (pv 3)) pe_int (nomark _)) (pw_and1 (pt_cmpR op_eq (pv 2) (pe_op op_mulStr (pe_slice sl_str (pv 2) po_none (po_some (pv 3))) (pe_op op_fdivW (pe_callB (cl_len (K := K)) (by rfl) T.z_len (by decide +kernel) (pa_cons (pv 2) pa_nil)) (pv 3))) (nomark _))))) (pss_one (ps_ret pe_bl)) pss_nil)))
      (pss_one (ps_ret pe_bl))))))), ?_⟩
    rw [show start N__law_is_least [v] = [some (v), none, none, none] from rfl]
    try dsimp only [cxK]
    have hc := hf.ne
    have hcl : 0 < c.length := List.length_pos_iff.mpr hc
    try rw [sg_empty]
    walk_at "wi"
    with_reducible refine w_ifS ?_
    walk_at "wi"
    refine w_iteND (fun e => absurd rfl e) (fun _ => ?_)
    walk_at "wi"
    with_reducible refine w_ifS ?_
    walk_at "wi"
    with_reducible refine w_ifS ?_
    walk_at "wi"
    refine w_iteD (fun e => absurd (sg_V.mp e) hc) (fun _ => ?_)
    walk_at "wi"
    have rest : ∀ y : Option V, tSeq (tFor (iRng2 (tCons (tC (V.int 1)) (tCons (tCB (rLen K) (tCons (tVar 2) tNil)) tNil))) (gName 3)
        (tIfS (tAnd (tTest (tOp rEq (tOp rMod (tCB rInt (tCons (tCB (rLen K) (tCons (tVar 2) tNil)) tNil)) (tVar 3)) (tC (V.int 0))))
          (tTest (tOp rEq (tVar 2) (tOp rMulS (tSl rSlS (tVar 2) tNoPart (tPart (tVar 3))) (tOp (rI CDivW fun i j => V.int (i / j)) (tCB (rLen K) (tCons (tVar 2) tNil)) (tVar 3))))))
          (tRet (tC (V.bl false))) tNext)) (tRet (tC (V.bl true))) { nx := fun x H' => Q V.non H', rt := Q } [some v, some (.str (Sg h)), some (.str (Sg c)), none] H := by
      intro _
      walk_at "wt"
      refine forR2_by (fun i σ' H' => ∃ (y3 : Option V), σ' = [some v, some (.str (Sg h)), some (.str (Sg c)), y3] ∧ H = H') (by omega) ⟨none, rfl, rfl⟩ ?_ ?_
      · rintro i σ' H' hi ⟨y3, rfl, rfl⟩
        have c1 : ((1 : Int) + i) = ((1 + i : Nat) : Int) := by omega
        walk_at "wt"
        refine w_iteD (fun hd => ?_) (fun hd => ?_)
        · have hdv : 1 + i ∣ c.length := by
            rw [c1, ← Int.natCast_emod] at hd
            exact Nat.dvd_of_mod_eq_zero (by omega)
          have c2 : ((c.length : Int) / (1 + (i : Int))).toNat = c.length / (1 + i) := by rw [c1, ← Int.natCast_ediv, Int.toNat_natCast]
          have c3 : c.length / (1 + i) ≤ c.length := Nat.div_le_self _ _
          have c4 : (0 : Int) ≤ (c.length : Int) / (1 + (i : Int)) := Int.ediv_nonneg (by omega) (by omega)
          walk_at "wt"
          rw [cutD_to _ (by omega), show ((1 : Int) + i).toNat = 1 + i by omega]
          refine w_mulS ⟨c4, by omega⟩ (by rw [List.length_take]; omega) ?_
          rw [c2]
          refine w_eqSg (fun e => ?_) (fun e => ?_)
          · exact absurd ((rep_iff (by omega) (by omega) hdv).mp e) (hf.min.2.2 (1 + i) (by omega) (by omega))
          · walk_at "wt"
            exact ⟨_, rfl, rfl⟩
        · walk_at "wt"
          exact ⟨_, rfl, rfl⟩
      · rintro σ' H' ⟨y3, rfl, rfl⟩
        walk_at "wt"
        exact q
    refine w_iteND (fun e => ?_) (fun _ => ?_)
    rotate_left
    · (repeat walk_at "e")
      with_reducible refine w_next ?_
      exact rest none
    · replace e : h ≠ [] := fun z => e (sg_V.mpr z)
      walk_at "wt"
      refine w_ixSgLast (by omega) e ?_
      walk_at "wt"
      refine w_ixSgLast (by omega) hc ?_
      refine w_eqSg (fun e2 => ?_) (fun _ => ?_)
      · exfalso
        apply hf.last e
        rw [cz_last hc]
        exact (List.cons.inj e2).1
      · (repeat walk_at "e")
        with_reducible refine w_next ?_
        exact rest none

/-! ### _law_of -/
def sp__law_of (K : PySem.W.Frag) : Sp := fun vs H Q _ => ∃ (m c : Addr) (v : V) (ds : List PyData) (b : Nat), vs = [.ref m, v] ∧ Dp K H v (.list ds) ∧ 0 < ds.length ∧ ds.length ≤ 1000 ∧ Mo H m c b ∧ b < 2 ^ 50 ∧
  ∀ y d H', d ∈ ds → Dp K H' y d → Keep H H' → Mo H' m c (b + 1) → Q y H'
theorem ok__law_of (T : Top K mg) : FnOk P w K mg base CX0 2 T.f__law_of T.fd__law_of ["m", "some"] (sp__law_of K) := by
  refine T.F__law_of.ok sc__law_of (fun vs H Q E h => ?_) (fun cdv A outer s H vs Q E hr h => ?_)
  · obtain ⟨m, c, v, ds, b, rfl, _⟩ := h
    rfl
  · obtain ⟨m, c, v, ds, b, rfl, hv, hz0, hz1, hm, hb, q⟩ := h
    refine ⟨_, (pss_one (ps_ret (pe_ix (ix_listK (K := K)) (pv 1) (pe_call (ok__law_draw T) (hr.mono (by decide)) (by rfl) T.g__law_draw T.F__law_draw.kp T.b__law_draw .nil pass0 (pa_cons (pv 0) (pa_cons (pe_callB (cl_len (K := K)) (by rfl) T.z_len (by decide +kernel) (pa_cons (pv 1) pa_nil)) pa_nil))) (fun _ _ => rfl)))), ?_⟩
    rw [show start N__law_of [.ref m, v] = [some (.ref m), some (v)] from rfl]
    try dsimp only [cxK]
    walk_at "w"
    refine ⟨m, c, _, b, rfl, by omega, by omega, hm, hb, fun r H' h0 h1 k m' => ?_⟩
    have hr : r.toNat < ds.length := by omega
    exact w_ixL (j := r.toNat) (dp_keep k hv) (by omega) (List.getElem?_eq_getElem hr) fun y hy => q y _ H' (List.getElem_mem hr) hy k m'

/-! ### _law_marks -/
def sp__law_marks (K : PySem.W.Frag) : Sp := fun vs H Q _ => ∃ (m ca : Addr) (n : Int) (b : Nat), vs = [.ref m, .int n] ∧ 0 ≤ n ∧ n ≤ 100 ∧ Mo H m ca b ∧ b < 2 ^ 45 ∧ ∀ (l : List Nat) H', l.length = n.toNat → Mk l → Keep H H' → Mo H' m ca (b + 100) → Q (.str (Sg l)) H'
theorem ok__law_marks (T : Top K mg) : FnOk P w K mg base CX0 3 T.f__law_marks T.fd__law_marks ["m", "size"] (sp__law_marks K) := by
  refine T.F__law_marks.ok sc__law_marks (fun vs H Q E h => ?_) (fun cdv A outer s H vs Q E hr h => ?_)
  · obtain ⟨m, ca, n, b, rfl, _⟩ := h
    rfl
  · obtain ⟨m, ca, n, b, rfl, h0, h1, hm, hb, q⟩ := h
    refine ⟨_, (pss_one (ps_ret (pe_joinD (K := K) pe_str (pe_lc (own := [("k", 2)]) (g := gName 2) (tt := tYes) (by rfl) sc__law_marks.nd (pi_range1 (by rfl) T.z_range (pa_cons (pv 1) pa_nil)) (blkOk_by (own := [("k", 2)]) (N := N__law_marks) (sc := defScope s__law_marks) (by decide +kernel)) (fun _ _ _ _ _ => (pg_name (i := 2) sc__law_marks.nd (by rfl) (by first | exact Or.inl rfl | exact Or.inr rfl))) (fun _ _ _ _ _ => pts_nil) (fun _ _ _ _ _ => (pe_call (ok__law_of T) (hr.mono (by decide)) (by rfl) T.g__law_of T.F__law_of.kp T.b__law_of .nil pass0 (pa_cons (pv 0) (pa_cons (pe_lst (pa_cons pe_str (pa_cons pe_str (pa_cons pe_str (pa_cons pe_str (pa_cons pe_str pa_nil)))))) pa_nil)))))))), ?_⟩
    rw [show start N__law_marks [.ref m, .int n] = [some (.ref m), some (.int n), none] from rfl]
    try dsimp only [cxK]
    rw [show Str.ofString "0" = Sg [48] by decide +kernel, show Str.ofString "1" = Sg [49] by decide +kernel, show Str.ofString "*" = Sg [42] by decide +kernel, sg_empty]
    walk_at "w"
    refine lc_rng1_by (K := K) (JM H m ca b 1 fun i es => ∃ ys : List (List Nat), es = ys.map (fun y => PyData.str (Sg y)) ∧ ys.flatten.length = i ∧ Mk ys.flatten) (JM.ok hm ⟨[], rfl, rfl, fun x hx => by simp at hx⟩) (by omega) (fun _ => rfl) ?_ ?_
    · rintro i H' es hi ⟨k, mo, ys, rfl, hl, hy⟩ Yes No hyes hno
      walk_at "wt"
      rename_i p2 H2 n2 e2 f2 d2
      refine ⟨m, ca, _, _, _, rfl, d2, by simp, by simp, mo.same e2, by omega, fun y d H3 hd hyd k3 m3 => ?_⟩
      obtain ⟨x, rfl, hx⟩ : ∃ x, d = .str (Sg [x]) ∧ x < 1000 := by
        simp only [List.mem_cons, List.not_mem_nil, or_false] at hd
        rcases hd with rfl | rfl | rfl | rfl | rfl <;> exact ⟨_, rfl, by decide⟩
      cases hyd
      refine hyes _ H3 (.str (Sg [x])) ((Keep.of e2).trans k3) rfl (.str _) ⟨(k.trans (Keep.of e2)).trans k3, m3.mono (by omega), ys ++ [[x]], by simp, by simp [hl], fun z hz => ?_⟩
      rw [List.flatten_append, List.mem_append] at hz
      rcases hz with hz | hz
      · exact hy z hz
      · simp at hz; omega
    · rintro p H' vs es hn k hv dl ⟨_, mo, ys, rfl, hl, hy⟩
      exact w_joinSg dl (by omega) (q _ H' (by omega) hy k (mo.mono (by omega)))

/-! ### _law_otherwise -/
def sp__law_otherwise (K : PySem.W.Frag) : Sp := fun vs H Q _ => ∃ (m ca : Addr) (h c : List Nat) (b : Nat), vs = [.ref m, .str (Sg h), .str (Sg c)] ∧ c ≠ [] ∧ h.length ≤ 9 ∧ c.length ≤ 12 ∧ Mk h ∧ Mk c ∧ Mo H m ca b ∧ b < 2 ^ 45 ∧ ∀ (h' c' : List Nat) v H', c' ≠ [] → h'.length ≤ 23 → c'.length ≤ 24 → Mk h' → Mk c' → Keep H H' → Mo H' m ca (b + 100) → Dp K H' v (rowD h' c') → Q v H'
theorem ok__law_otherwise (T : Top K mg) : FnOk P w K mg base CX0 3 T.f__law_otherwise T.fd__law_otherwise ["m", "head", "cycle"] (sp__law_otherwise K) := by
  refine T.F__law_otherwise.ok sc__law_otherwise (fun vs H Q E h => ?_) (fun cdv A outer s H vs Q E hr h => ?_)
  · obtain ⟨m, ca, h, c, b, rfl, _⟩ := h
    rfl
  · obtain ⟨m, ca, h, c, b, rfl, hc, hl, cl, mh, mc, hm, hb, q⟩ := h
    refine ⟨_, (pss_cons (ps_set (i := 3) sc__law_otherwise.nd (by rfl) (by first | exact Or.inl rfl | exact Or.inr rfl) (pe_call (ok__law_draw T) (hr.mono (by decide)) (by rfl) T.g__law_draw T.F__law_draw.kp T.b__law_draw .nil pass0 (pa_cons (pv 0) (pa_cons pe_int pa_nil))))
      (pss_cons (ps_par (i := 1) (j := 2) (by rfl) sc__law_otherwise.nd (by rfl) (by rfl) (by decide) (by rfl) (by rfl) (pa_cons (pe_op op_addS (pv 1) (pe_op op_mulStr (pv 2) (pe_op op_fdivW (pv 3) pe_int))) (pa_cons (pe_op op_mulStr (pv 2) (pe_op op_add pe_int (pe_call (ok__law_draw T) (hr.mono (by decide)) (by rfl) T.g__law_draw T.F__law_draw.kp T.b__law_draw .nil pass0 (pa_cons (pv 0) (pa_cons pe_int pa_nil))))) pa_nil)) (by rfl))
      (pss_cons (ps_for PassesOwn.never (by rfl) (pi_range1 (by rfl) T.z_range (pa_cons (pe_call (ok__law_draw T) (hr.mono (by decide)) (by rfl) T.g__law_draw T.F__law_draw.kp T.b__law_draw .nil pass0 (pa_cons (pv 0) (pa_cons pe_int pa_nil))) pa_nil)) (pg_name (i := 4) sc__law_otherwise.nd (by rfl) (by first | exact Or.inl rfl | exact Or.inr rfl)) (pss_one (ps_par (i := 1) (j := 2) (by rfl) sc__law_otherwise.nd (by rfl) (by rfl) (by decide) (by rfl) (by rfl) (pa_cons (pe_op op_addS (pv 1) (pe_ix ix_str (pv 2) pe_int (fun _ _ => rfl))) (pa_cons (pe_op op_addS (pe_slice sl_str (pv 2) (po_some pe_int) po_none) (pe_ix ix_str (pv 2) pe_int (fun _ _ => rfl))) pa_nil)) (by rfl))))
      (pss_cons (ps_if (pt_cmpR op_eq (pe_call (ok__law_draw T) (hr.mono (by decide)) (by rfl) T.g__law_draw T.F__law_draw.kp T.b__law_draw .nil pass0 (pa_cons (pv 0) (pa_cons pe_int pa_nil))) pe_int (nomark _)) (pss_one (ps_ret (pe_tup (pa_cons (pv 1) (pa_cons (pv 2) pa_nil))))) pss_nil)
      (pss_cons (ps_par (i := 5) (j := 6) (by rfl) sc__law_otherwise.nd (by rfl) (by rfl) (by decide) (by rfl) (by rfl) (pa_cons (pe_op op_addS (pv 1) (pv 2)) (pa_cons (pe_call (ok__law_draw T) (hr.mono (by decide)) (by rfl) T.g__law_draw T.F__law_draw.kp T.b__law_draw .nil pass0 (pa_cons (pv 0) (pa_cons (pe_callB (cl_len (K := K)) (by rfl) T.z_len (by decide +kernel) (pa_cons (pe_op op_addS (pv 1) (pv 2)) pa_nil)) pa_nil))) pa_nil)) (by rfl))
      (pss_cons (ps_set (i := 5) sc__law_otherwise.nd (by rfl) (by first | exact Or.inl rfl | exact Or.inr rfl) (pe_op op_addS (pe_op op_addS (pe_slice sl_str (pv 5) po_none (po_some (pv 6))) (pe_call (ok__law_of T) (hr.mono (by decide)) (by rfl) T.g__law_of T.F__law_of.kp T.b__law_of .nil pass0 (pa_cons (pv 0) (pa_cons (pe_lst (pa_cons pe_str (pa_cons pe_str (pa_cons pe_str pa_nil)))) pa_nil)))) (pe_slice sl_str (pv 5) (po_some (pe_op op_add (pv 6) pe_int)) po_none)))
      (pss_one (ps_ret (pe_tup (pa_cons (pe_slice sl_str (pv 5) po_none (po_some (pe_callB (cl_len (K := K)) (by rfl) T.z_len (by decide +kernel) (pa_cons (pv 1) pa_nil)))) (pa_cons (pe_slice sl_str (pv 5) (po_some (pe_callB (cl_len (K := K)) (by rfl) T.z_len (by decide +kernel) (pa_cons (pv 1) pa_nil))) po_none) pa_nil))))))))))), ?_⟩
    rw [show start N__law_otherwise [.ref m, .str (Sg h), .str (Sg c)] = [some (.ref m), some (.str (Sg h)), some (.str (Sg c)), none, none, none, none] from rfl]
    try dsimp only [cxK]
    have hcl : 0 < c.length := List.length_pos_iff.mpr hc
    rw [show Str.ofString "0" = Sg [48] by decide +kernel, show Str.ofString "1" = Sg [49] by decide +kernel, show Str.ofString "*" = Sg [42] by decide +kernel]
    walk_at "w"
    refine ⟨m, ca, 4, b, rfl, by decide, by decide, hm, by omega, fun r1 H1 h10 h11 k1 m1 => ?_⟩
    walk_at "w"
    refine w_mulS ⟨by omega, by omega⟩ (by omega) ?_
    have repMk : ∀ n, Mk (List.replicate n c).flatten := fun n x hx => by
      obtain ⟨l, hl1, hl2⟩ := List.mem_flatten.mp hx
      rw [(List.mem_replicate.mp hl1).2] at hl2
      exact mc x hl2
    have repLen : ∀ n, (List.replicate n c).flatten.length = n * c.length := fun n => by rw [List.length_flatten, List.map_replicate, List.sum_replicate_nat]
    have hq2 : (r1 / 2).toNat ≤ 1 := by omega
    have hq3 : (r1 / 2).toNat * c.length ≤ 1 * c.length := Nat.mul_le_mul_right _ hq2
    refine w_addSg (by rw [repLen]; omega) ?_
    walk_at "w"
    refine ⟨m, ca, 2, _, rfl, by decide, by decide, m1, by omega, fun r2 H2 h20 h21 k2 m2 => ?_⟩
    walk_at "w"
    refine w_mulS ⟨by omega, by omega⟩ (by omega) ?_
    walk_at "w"
    refine ⟨m, ca, 3, _, rfl, by decide, by decide, m2, by omega, fun r3 H3 h30 h31 k3 m3 => ?_⟩
    have hq4 : (1 + r2).toNat * c.length ≤ 2 * c.length := Nat.mul_le_mul_right _ (by omega)
    have hq5 : 1 * c.length ≤ (1 + r2).toNat * c.length := Nat.mul_le_mul_right _ (by omega)
    refine forR1_by (fun i σ' H' => ∃ (g d : List Nat) (y4 y5 y6 : Option V), σ' = [some (.ref m), some (.str (Sg g)), some (.str (Sg d)), some (.int r1), y4, y5, y6] ∧ H3 = H' ∧ d ≠ [] ∧ g.length ≤ 21 + i ∧ d.length ≤ 24 ∧ Mk g ∧ Mk d) (by omega) ⟨_, _, _, _, _, rfl, rfl, fun z => ?_, by rw [List.length_append, repLen]; omega, by rw [repLen]; omega, fun x hx => (List.mem_append.mp hx).elim (mh x) (repMk _ x), repMk _⟩ ?_ ?_
    · have := repLen (1 + r2).toNat
      rw [z] at this
      simp at this
      omega
    · rintro i σ' H' hi ⟨g, d, y4, y5, y6, rfl, rfl, hd0, hgl, hdl, mg, md⟩
      have hd1 : 0 < d.length := List.length_pos_iff.mpr hd0
      walk_at "wi"
      refine w_ixSg (by omega) (by decide) (by omega) fun x hx => ?_
      walk_at "wi"
      refine w_addSg (by simp; omega) ?_
      walk_at "wi"
      refine w_ixSg (by omega) (by decide) (by omega) fun x2 hx2 => ?_
      rw [cutD_from (k := 1) _ (by decide)]
      refine w_addSg (by simp; omega) ?_
      walk_at "wi"
      have hxm : x < 1000 := md x (List.mem_of_getElem? hx)
      have hxm2 : x2 < 1000 := md x2 (List.mem_of_getElem? hx2)
      refine ⟨_, _, _, _, _, rfl, rfl, by simp, by simp; omega, by simp; omega, fun z hz => ?_, fun z hz => ?_⟩
      · rcases List.mem_append.mp hz with hz | hz
        · exact mg z hz
        · simp at hz; omega
      · rcases List.mem_append.mp hz with hz | hz
        · exact md z (List.mem_of_mem_drop hz)
        · simp at hz; omega
    · rintro σ' H' ⟨g, d, y4, y5, y6, rfl, rfl, hd0, hgl, hdl, mg, md⟩
      have hd1 : 0 < d.length := List.length_pos_iff.mpr hd0
      walk_at "wi"
      with_reducible refine w_ifS ?_
      walk_at "wi"
      refine ⟨m, ca, 2, _, rfl, by decide, by decide, m3, by omega, fun r4 H4 h40 h41 k4 m4 => ?_⟩
      have kk : Keep H H4 := ((k1.trans k2).trans k3).trans k4
      walk_at "wi"
      refine w_iteD (fun _ => ?_) (fun _ => ?_)
      · walk_at "wi"
        rename_i t1 H5 n5 e5 d5
        exact q g d _ _ hd0 (by omega) (by omega) mg md (kk.trans (Keep.of e5)) ((m4.same e5).mono (by omega)) d5
      · walk_at "wi"
        have hE : (g ++ d).length = g.length + d.length := List.length_append
        refine w_lenSg (by omega) ?_
        walk_at "wi"
        refine ⟨m, ca, _, _, rfl, by rw [List.length_append]; omega, by rw [List.length_append]; omega, m4, by omega, fun r5 H5 h50 h51 k5 m5 => ?_⟩
        rw [hE] at h51
        walk_at "wi"
        rename_i p6 H6 n6 e6 f6 d6
        refine ⟨m, ca, _, _, _, rfl, d6, by simp, by simp, m5.same e6, by omega, fun y dd H7 hdd hyd k7 m7 => ?_⟩
        obtain ⟨x, rfl, hx⟩ : ∃ x, dd = .str (Sg [x]) ∧ x < 1000 := by
          simp only [List.mem_cons, List.not_mem_nil, or_false] at hdd
          rcases hdd with rfl | rfl | rfl <;> exact ⟨_, rfl, by decide⟩
        cases hyd
        rw [cutD_to _ h50]
        refine w_addSg (by simp only [List.length_take, List.length_append, List.length_singleton]; omega) ?_
        walk_at "wi"
        rw [cutD_from _ (by omega)]
        refine w_addSg (by simp only [List.length_take, List.length_append, List.length_singleton, List.length_drop]; omega) ?_
        generalize hB : (g ++ d).take r5.toNat ++ [x] ++ (g ++ d).drop (r5 + 1).toNat = B
        have hBl : B.length = g.length + d.length := by
          rw [← hB]
          simp only [List.length_take, List.length_append, List.length_singleton, List.length_drop]
          omega
        have hBm : Mk B := by
          intro z hz
          rw [← hB] at hz
          have hgd : ∀ w ∈ g ++ d, w < 1000 := fun w hw => (List.mem_append.mp hw).elim (mg w) (md w)
          rcases List.mem_append.mp hz with hz | hz
          · rcases List.mem_append.mp hz with hz | hz
            · exact hgd z (List.mem_of_mem_take hz)
            · simp at hz; omega
          · exact hgd z (List.mem_of_mem_drop hz)
        walk_at "wi"
        rename_i t8 H8 n8 e8 d8
        rw [cutD_to _ (Int.natCast_nonneg _), cutD_from _ (Int.natCast_nonneg _), Int.toNat_natCast] at d8
        refine q _ _ _ _ (fun z => ?_) (by rw [List.length_take]; omega) (by rw [List.length_drop]; omega) (fun w hw => hBm w (List.mem_of_mem_take hw)) (fun w hw => hBm w (List.mem_of_mem_drop hw)) ((((kk.trans k5).trans (Keep.of e6)).trans k7).trans (Keep.of e8)) ((m7.same e8).mono (by omega)) d8
        have := congrArg List.length z
        rw [List.length_drop] at this
        simp at this
        omega

/-! ### law -/
def sp_law (K : PySem.W.Frag) : Sp := fun vs H Q _ => ∃ (a : Addr) (ns : List Int), vs = [.ref a] ∧ SqL K H a (ns.map V.int) ∧ ns.length ≤ 63 ∧ (∀ z ∈ ns, Builtin.Int.intBits z ≤ 1048576) ∧ ∀ H', Q (.bl true) H'
theorem ok_law (T : Top K mg) : FnOk P w K mg base CX0 4 T.f_law T.fd_law ["script"] (sp_law K) := by
  refine T.F_law.ok sc_law (fun vs H Q E h => ?_) (fun cdv A outer s H vs Q E hr h => ?_)
  · obtain ⟨a, ns, rfl, _⟩ := h
    rfl
  · obtain ⟨a, ns, rfl, hS, hl, hB, q⟩ := h
    refine ⟨_, (pss_cons (ps_for PassesOwn.never (by rfl) (pi_range1 (by rfl) T.z_range (pa_cons (pe_callB (cl_max2 (by rfl)) (by rfl) T.z_max (by decide +kernel) (pa_cons pe_int (pa_cons (pe_callB (cl_min2 (by rfl)) (by rfl) T.z_min (by decide +kernel) (pa_cons pe_int (pa_cons (pe_callB (cl_len (K := K)) (by rfl) T.z_len (by decide +kernel) (pa_cons (pv 0) pa_nil)) pa_nil))) pa_nil))) pa_nil)) (pg_name (i := 1) sc_law.nd (by rfl) (by first | exact Or.inl rfl | exact Or.inr rfl)) (pss_cons (ps_set (i := 2) sc_law.nd (by rfl) (by first | exact Or.inl rfl | exact Or.inr rfl) (pe_call (ok__law_begun T) (hr.mono (by decide)) (by rfl) T.g__law_begun T.F__law_begun.kp T.b__law_begun .nil pass0 (pa_cons (pv 0) (pa_cons (pv 1) pa_nil))))
      (pss_cons (ps_asg (pe_tup (pa_cons (pe_call (ok__law_marks T) (hr.mono (by decide)) (by rfl) T.g__law_marks T.F__law_marks.kp T.b__law_marks .nil pass0 (pa_cons (pv 2) (pa_cons (pe_call (ok__law_draw T) (hr.mono (by decide)) (by rfl) T.g__law_draw T.F__law_draw.kp T.b__law_draw .nil pass0 (pa_cons (pv 2) (pa_cons pe_int pa_nil))) pa_nil))) (pa_cons (pe_call (ok__law_marks T) (hr.mono (by decide)) (by rfl) T.g__law_marks T.F__law_marks.kp T.b__law_marks .nil pass0 (pa_cons (pv 2) (pa_cons (pe_op op_add pe_int (pe_call (ok__law_draw T) (hr.mono (by decide)) (by rfl) T.g__law_draw T.F__law_draw.kp T.b__law_draw .nil pass0 (pa_cons (pv 2) (pa_cons pe_int pa_nil)))) pa_nil))) pa_nil))) (pg_tupK (K := K) (n := 2) (by rfl) (pgs_cons (pg_name (i := 3) sc_law.nd (by rfl) (by first | exact Or.inl rfl | exact Or.inr rfl)) (pgs_cons (pg_name (i := 4) sc_law.nd (by rfl) (by first | exact Or.inl rfl | exact Or.inr rfl)) pgs_nil))))
      (pss_cons (ps_set (i := 4) sc_law.nd (by rfl) (by first | exact Or.inl rfl | exact Or.inr rfl) (pe_op op_mulStr (pv 4) (pe_op op_add pe_int (pe_call (ok__law_draw T) (hr.mono (by decide)) (by rfl) T.g__law_draw T.F__law_draw.kp T.b__law_draw .nil pass0 (pa_cons (pv 2) (pa_cons pe_int pa_nil))))))
      (pss_cons (ps_set (i := 5) sc_law.nd (by rfl) (by first | exact Or.inl rfl | exact Or.inr rfl) (pe_call (ok_least_row T) (hr.mono (by decide)) (by rfl) T.g_least_row T.F_least_row.kp T.b_least_row .nil pass0 (pa_cons (pv 3) (pa_cons (pv 4) pa_nil))))
      (pss_cons (ps_if (PW.pt (pw_or (pt_not (pt_val (pe_call (ok__law_is_least T) (hr.mono (by decide)) (by rfl) T.g__law_is_least T.F__law_is_least.kp T.b__law_is_least .nil pass0 (pa_cons (pv 5) pa_nil)))) (pw_or1 (pt_cmpR (op_neK (K := K) hr.units) (pv 5) (pe_call (ok__law_least_row T) (hr.mono (by decide)) (by rfl) T.g__law_least_row T.F__law_least_row.kp T.b__law_least_row .nil pass0 (pa_cons (pv 3) (pa_cons (pv 4) pa_nil))) (nomark _))))) (pss_one (ps_ret pe_bl)) pss_nil)
      (pss_cons (ps_if (pt_cmpR (op_neK (K := K) hr.units) (pe_lc (own := [("k", 10)]) (g := gName 10) (by rfl) sc_law.nd (pi_range1 (by rfl) T.z_range (pa_cons pe_int pa_nil)) (blkOk_by (own := [("k", 10)]) (N := N_law) (sc := defScope s_law) (by decide +kernel)) (fun _ _ _ _ _ => (pg_name (i := 10) sc_law.nd (by rfl) (by first | exact Or.inl rfl | exact Or.inr rfl))) (fun _ _ _ _ _ => (pts_one (pt_cmpR op_ne (pe_call (ok__law_at T) (hr.mono (by decide)) (by rfl) T.g__law_at T.F__law_at.kp T.b__law_at .nil pass0 (pa_cons (pv 5) (pa_cons (pv 10) pa_nil))) (pe_call (ok__law_at T) (hr.mono (by decide)) (by rfl) T.g__law_at T.F__law_at.kp T.b__law_at .nil pass0 (pa_cons (pe_tup (pa_cons (pv 3) (pa_cons (pv 4) pa_nil))) (pa_cons (pv 10) pa_nil))) (nomark _)))) (fun _ _ _ _ _ => (pv 10))) (pe_lst pa_nil) (nomark _)) (pss_one (ps_ret pe_bl)) pss_nil)
      (pss_cons (ps_set (i := 6) sc_law.nd (by rfl) (by first | exact Or.inl rfl | exact Or.inr rfl) (pe_call (ok__law_otherwise T) (hr.mono (by decide)) (by rfl) T.g__law_otherwise T.F__law_otherwise.kp T.b__law_otherwise .nil pass0 (pa_cons (pv 2) (pa_cons (pv 3) (pa_cons (pv 4) pa_nil)))))
      (pss_cons (ps_set (i := 7) sc_law.nd (by rfl) (by first | exact Or.inl rfl | exact Or.inr rfl) (pe_cmpR (op_eqK (K := K) hr.units) (pe_lc (own := [("k", 10)]) (g := gName 10) (by rfl) sc_law.nd (pi_range1 (by rfl) T.z_range (pa_cons pe_int pa_nil)) (blkOk_by (own := [("k", 10)]) (N := N_law) (sc := defScope s_law) (by decide +kernel)) (fun _ _ _ _ _ => (pg_name (i := 10) sc_law.nd (by rfl) (by first | exact Or.inl rfl | exact Or.inr rfl))) (fun _ _ _ _ _ => (pts_one (pt_cmpR op_ne (pe_call (ok__law_at T) (hr.mono (by decide)) (by rfl) T.g__law_at T.F__law_at.kp T.b__law_at .nil pass0 (pa_cons (pv 6) (pa_cons (pv 10) pa_nil))) (pe_call (ok__law_at T) (hr.mono (by decide)) (by rfl) T.g__law_at T.F__law_at.kp T.b__law_at .nil pass0 (pa_cons (pe_tup (pa_cons (pv 3) (pa_cons (pv 4) pa_nil))) (pa_cons (pv 10) pa_nil))) (nomark _)))) (fun _ _ _ _ _ => (pv 10))) (pe_lst pa_nil) (nomark _)))
      (pss_cons (ps_if (pt_cmpR op_ne (pe_cmpR (op_eqK (K := K) hr.units) (pe_call (ok_least_row T) (hr.mono (by decide)) (by rfl) T.g_least_row T.F_least_row.kp T.b_least_row .nil pass0 (pa_cons (pe_ix (ix_tupK (K := K)) (pv 6) pe_int (fun _ _ => rfl)) (pa_cons (pe_ix (ix_tupK (K := K)) (pv 6) pe_int (fun _ _ => rfl)) pa_nil))) (pv 5) (nomark _)) (pv 7) (nomark _)) (pss_one (ps_ret pe_bl)) pss_nil)
      (pss_cons (ps_par (i := 8) (j := 9) (by rfl) sc_law.nd (by rfl) (by rfl) (by decide) (by rfl) (by rfl) (pa_cons (pv 5) (pa_cons (pe_op op_addS (pv 3) (pe_op op_mulStr (pv 4) pe_int)) pa_nil)) (by rfl))
      (pss_cons (ps_for PassesOwn.never (by rfl) (pi_range1 (by rfl) T.z_range (pa_cons (pe_op op_add (pe_op op_add (pe_callB (cl_len (K := K)) (by rfl) T.z_len (by decide +kernel) (pa_cons (pv 3) pa_nil)) (pe_callB (cl_len (K := K)) (by rfl) T.z_len (by decide +kernel) (pa_cons (pv 4) pa_nil))) pe_int) pa_nil)) (pg_name (i := 10) sc_law.nd (by rfl) (by first | exact Or.inl rfl | exact Or.inr rfl)) (pss_cons (ps_if (pt_cmpR op_ne (pe_call (ok_first_mark T) (hr.mono (by decide)) (by rfl) T.g_first_mark T.F_first_mark.kp T.b_first_mark .nil pass0 (pa_cons (pv 8) pa_nil)) (pe_ix ix_str (pv 9) (pv 10) (fun _ _ => rfl)) (nomark _)) (pss_one (ps_ret pe_bl)) pss_nil)
      (pss_cons (ps_set (i := 8) sc_law.nd (by rfl) (by first | exact Or.inl rfl | exact Or.inr rfl) (pe_call (ok_shifted T) (hr.mono (by decide)) (by rfl) T.g_shifted T.F_shifted.kp T.b_shifted .nil pass0 (pa_cons (pv 8) pa_nil)))
      (pss_cons (ps_set (i := 11) sc_law.nd (by rfl) (by first | exact Or.inl rfl | exact Or.inr rfl) (pe_slice sl_str (pv 9) (po_some (pe_op op_add (pv 10) pe_int)) (po_some (pe_op op_add (pe_callB (cl_len (K := K)) (by rfl) T.z_len (by decide +kernel) (pa_cons (pv 3) pa_nil)) (pe_op op_mulX (pe_callB (cl_len (K := K)) (by rfl) T.z_len (by decide +kernel) (pa_cons (pv 4) pa_nil)) pe_int)))))
      (pss_one (ps_if (PW.pt (pw_or (pt_not (pt_val (pe_call (ok__law_is_least T) (hr.mono (by decide)) (by rfl) T.g__law_is_least T.F__law_is_least.kp T.b__law_is_least .nil pass0 (pa_cons (pv 8) pa_nil)))) (pw_or1 (pt_cmpR (op_neK (K := K) hr.units) (pv 8) (pe_call (ok__law_least_row T) (hr.mono (by decide)) (by rfl) T.g__law_least_row T.F__law_least_row.kp T.b__law_least_row .nil pass0 (pa_cons (pv 11) (pa_cons (pv 4) pa_nil))) (nomark _))))) (pss_one (ps_ret pe_bl)) pss_nil))))))
      (pss_one (ps_if (pt_cmpR (op_neK (K := K) hr.units) (pe_call (ok_least_row T) (hr.mono (by decide)) (by rfl) T.g_least_row T.F_least_row.kp T.b_least_row .nil pass0 (pa_cons (pe_ix (ix_tupK (K := K)) (pv 5) pe_int (fun _ _ => rfl)) (pa_cons (pe_ix (ix_tupK (K := K)) (pv 5) pe_int (fun _ _ => rfl)) pa_nil))) (pv 5) (nomark _)) (pss_one (ps_ret pe_bl)) pss_nil))))))))))))))
      (pss_one (ps_ret pe_bl))), ?_⟩
    rw [show start N_law [.ref a] = [some (.ref a), none, none, none, none, none, none, none, none, none, none, none] from rfl]
    try dsimp only [cxK]
    have hBig : ∀ n ∈ ns, Big n := fun n hn => Big.bits (hB n hn)
    have dS : Dp K H (.ref a) (.list (ns.map PyData.int)) := .lst hS (dpa_ints ns)
    walk_at "wp"
    rename_i r1 er1 r2 er2
    rw [List.length_map] at er1
    refine forR1_by (fun i σ' H' => ∃ (y1 y2 y3 y4 y5 y6 y7 y8 y9 y10 y11 : Option V), σ' = [some (.ref a), y1, y2, y3, y4, y5, y6, y7, y8, y9, y10, y11] ∧ Keep H H') (by omega) ⟨none, none, none, none, none, none, none, none, none, none, none, rfl, Keep.refl _⟩ ?_ ?_
    · rintro i σ' H' hi ⟨y1, y2, y3, y4, y5, y6, y7, y8, y9, y10, y11, rfl, k0⟩
      walk_at "w"
      refine ⟨a, ns, _, rfl, k0.seqL hS, hl, hBig, by omega, by omega, fun m ca H1 e1 n1 m1 => ?_⟩
      have k1 : Keep H H1 := k0.trans (Keep.of e1)
      walk_at "w"
      refine ⟨m, ca, 10, _, rfl, by decide, by decide, m1, by decide, fun q1 H2 q10 q11 k2 m2 => ?_⟩
      walk_at "w"
      refine ⟨m, ca, q1, _, rfl, q10, by omega, m2, by decide, fun h H3 hh mh k3 m3 => ?_⟩
      walk_at "w"
      refine ⟨m, ca, 4, _, rfl, by decide, by decide, m3, by decide, fun q2 H4 q20 q21 k4 m4 => ?_⟩
      walk_at "w"
      refine ⟨m, ca, _, _, rfl, by omega, by omega, m4, by decide, fun c0 H5 hc0 mc0 k5 m5 => ?_⟩
      walk_at "wt"
      rename_i t6 H6 n6 e6 d6
      refine ⟨m, ca, 3, _, rfl, by decide, by decide, m5.same e6, by decide, fun q3 H7 q30 q31 k7 m7 => ?_⟩
      walk_at "w"
      refine w_mulS ⟨by omega, by omega⟩ (by omega) ?_
      have hcl := rep_len c0 (1 + q3).toNat
      have mc := rep_mk mc0 (1 + q3).toNat
      have hq4 : (1 + q3).toNat * c0.length ≤ 3 * c0.length := Nat.mul_le_mul_right _ (by omega)
      have hq5 : 1 * c0.length ≤ (1 + q3).toNat * c0.length := Nat.mul_le_mul_right _ (by omega)
      generalize (List.replicate (1 + q3).toNat c0).flatten = c at *
      have hc1 : 0 < c.length := by omega
      have hc2 : c.length ≤ 12 := by omega
      have hcn : c ≠ [] := List.length_pos_iff.mp hc1
      have hh2 : h.length ≤ 9 := by omega
      have k17 : Keep H H7 := ((((((k1.trans k2).trans k3).trans k4).trans k5).trans (Keep.of e6)).trans k7)
      clear hq4 hq5 hcl
      walk_at "w"
      refine ⟨h, c, rfl, hcn, by omega, by omega, fun h' c' v H8 lf ee hl1 cl1 hm cm e8 d8 => ?_⟩
      have mh' : Mk h' := fun x hx => mh x (hm x hx)
      have mc' : Mk c' := fun x hx => mc x (cm x hx)
      walk_at "w"
      refine ⟨v, h', c', rfl, d8, lf, by omega, by omega, ?_⟩
      walk_at "w"
      refine ⟨h, c, rfl, hcn, by omega, by omega, fun h2 c2 v2 H9 lf2 ee2 e9 d9 => ?_⟩
      obtain ⟨rfl, rfl⟩ := lf.unique lf2 (fun n => (ee n).trans (ee2 n).symm)
      refine w_neP (dp_same e9 d8) d9 (rowD_pln mh' mc') (rowD_pln mh' mc') (fun _ => ?_) (fun h => absurd rfl h)
      walk_at "w"
      have d9' := dp_same e9 d8
      refine lc_rng1_by (K := K) (JP H9 fun i es => es = []) (JP.ok rfl) (by omega) (fun _ => rfl) ?_ ?_
      · rintro i3 H10 es hi3 ⟨s10, rfl⟩ Yes No hyes hno
        have d10 := dp_same s10 d9'
        walk_at "wi"
        refine ⟨v, h', c', i3, rfl, d10, lf.ne, by omega, by omega, ?_⟩
        walk_at "wi"
        rename_i t11 H11 n11 e11 d11
        refine ⟨_, h, c, i3, rfl, d11, hcn, by omega, by omega, ?_⟩
        walk_at "wi"
        exact w_iteND (fun hx => absurd (by rw [ee i3]) hx) (fun _ => hno _ (Keep.of e11) ⟨s10.trans e11, rfl⟩)
      · rintro p H10 vs es hn k10 hv dl ⟨s10, rfl⟩
        walk_at "w"
        refine w_newL (K := K) (len_ok (by simp)) .nil fun p2 H11 n11 e11 f11 d11 => ?_
        refine w_neP (dp_same e11 dl) d11 rfl rfl (fun _ => ?_) (fun h => absurd rfl h)
        have d11' := dp_same e11 (dp_same s10 d9')
        have m11 := (((m7.same e8).same e9).same s10).same e11
        have k111 := (((k17.trans (Keep.of e8)).trans (Keep.of e9)).trans (Keep.of s10)).trans (Keep.of e11)
        walk_at "w"
        refine ⟨m, ca, h, c, _, rfl, hcn, by omega, by omega, mh, mc, m11, by decide, fun ho co vo H12 con hol col mho mco k12 m12 d12 => ?_⟩
        walk_at "w"
        refine lc_rng1_by (K := K) (JP H12 fun i es => (∃ ks : List Int, es = ks.map PyData.int) ∧ (es = [] ↔ ∀ k : Nat, k < i → rz ho co k = rz h c k)) (JP.ok ⟨⟨[], rfl⟩, ⟨fun _ k hk => absurd hk (Nat.not_lt_zero k), fun _ => rfl⟩⟩) (by omega) (fun _ => rfl) ?_ ?_
        · rintro i3 H13 es hi3 ⟨s13, ⟨ks, hks⟩, iff13⟩ Yes No hyes hno
          have d13 := dp_same s13 d12
          walk_at "wi"
          refine ⟨vo, ho, co, i3, rfl, d13, con, by omega, by omega, ?_⟩
          walk_at "wi"
          rename_i t14 H14 n14 e14 d14
          refine ⟨_, h, c, i3, rfl, d14, hcn, by omega, by omega, ?_⟩
          walk_at "wi"
          refine w_iteND (fun hx => ?_) (fun hx => ?_)
          · walk_at "wi"
            refine hyes _ _ (.int (i3 : Int)) (Keep.of e14) rfl (.int _) ⟨s13.trans e14, ⟨ks ++ [(i3 : Int)], by rw [hks]; simp⟩, ⟨fun z => absurd z (by simp), fun z => absurd ?_ hx⟩⟩
            rw [z i3 (by omega)]
          · have hx2 : rz ho co i3 = rz h c i3 := by
              have := sg_inj (V.str.inj hx)
              exact (List.cons.inj this).1
            refine hno _ (Keep.of e14) ⟨s13.trans e14, ⟨ks, hks⟩, iff13.trans ⟨fun z k hk => ?_, fun z k hk => z k (by omega)⟩⟩
            by_cases hki : k = i3
            · rw [hki]; exact hx2
            · exact z k (by omega)
        · rintro p H13 vs es hn13 k13 hv13 dl13 ⟨s13, ⟨ks, hks⟩, iff13⟩
          subst hks
          walk_at "w"
          refine w_newL (K := K) (len_ok (by simp)) .nil fun p2 H14 n14 e14 f14 d14 => ?_
          refine w_eqPb (dp_same e14 dl13) d14 (pln_intsL ks) rfl (fun bs hbs => ?_)
          have d14' : Dp K H14 vo (rowD ho co) := dp_same e14 (dp_same s13 d12)
          have dv14 : Dp K H14 v (rowD h' c') := dp_same e14 (dp_same s13 (dp_keep k12 d11'))
          walk_at "w"
          refine w_row0 d14' ?_
          walk_at "w"
          refine w_row1 d14' ?_
          walk_at "w"
          refine ⟨ho, co, rfl, con, by omega, by omega, fun h3 c3 v3 H15 lf3 ee3 hl3 cl3 hm3 cm3 e15 d15 => ?_⟩
          walk_at "w"
          have dv15 := dp_same e15 dv14
          refine w_eqPb d15 dv15 (rowD_pln (fun x hx => mho x (hm3 x hx)) (fun x hx => mco x (cm3 x hx))) (rowD_pln mh' mc') (fun bt hbt => ?_)
          walk_at "w"
          have hbb : bt = bs := by
            refine Bool.eq_iff_iff.mpr (hbt.trans (Iff.trans ⟨fun z => ?_, fun z => ?_⟩ hbs.symm))
            · obtain ⟨rfl, rfl⟩ := rowD_inj z
              rw [iff13.mpr fun k _ => (ee3 k).symm.trans (ee k)]
            · have z2 := iff13.mp (by simpa using z)
              have z3 := rz_agree (N := 23) con hcn (by omega) (by omega) (fun k hk => z2 k (by omega))
              obtain ⟨rfl, rfl⟩ := lf3.unique lf fun k => (ee3 k).trans ((z3 k).trans (ee k).symm)
              rfl
          refine w_iteND (fun z => absurd (congrArg V.bl hbb) z) (fun _ => ?_)
          have k15 : Keep H H15 := ((((k111.trans k12).trans (Keep.of s13)).trans (Keep.of e14)).trans (Keep.of e15))
          walk_at "w"
          refine w_mulS ⟨by decide, by decide⟩ (by omega) ?_
          have hrl : (List.replicate (12 : Int).toNat c).flatten.length = 12 * c.length := rep_len c 12
          refine w_addSg (by omega) ?_
          generalize hL : h ++ (List.replicate (12 : Int).toNat c).flatten = L
          have hLl : L.length = h.length + 12 * c.length := by rw [← hL, List.length_append, hrl]
          have hLx : ∀ j : Nat, j < h.length + 12 * c.length → L[j]? = some (rz h c j) := fun j hj => by
            rw [← hL]; exact line_ix hcn 12 j hj
          have hLr : ∀ k n : Nat, k ≤ h.length + c.length → rz ((L.take (h.length + c.length * 3)).drop (k + 1)) c n = rz h c ((n + k + 1 : Nat) : Int) := fun k n hk => by
            rw [← hL]; exact rest_rz hcn hk n
          walk_at "w"
          refine forR1_by (fun k σ' H' => ∃ (hL cL : List Nat) (vL : V) (z10 z11 : Option V), σ' = [some (.ref a), some (.int (i : Int)), some (.ref m), some (.str (Sg h)), some (.str (Sg c)), some v, some vo, some (.bl bs), some vL, some (.str (Sg L)), z10, z11] ∧ Same H15 H' ∧ Dp K H' vL (rowD hL cL) ∧ LF hL cL ∧ (∀ n : Nat, rz hL cL n = rz h c ((n + k : Nat) : Int)) ∧ hL.length ≤ 9 ∧ cL.length ≤ 12 ∧ Mk hL ∧ Mk cL) (by omega) ⟨h', c', v, _, _, rfl, Same.refl _, dv15, lf, ee, by omega, by omega, mh', mc'⟩ ?_ ?_
          · rintro k σ' H16 hk ⟨hA, cA, vA, z10, z11, rfl, s16, dA, lfA, eeA, hAl, cAl, mhA, mcA⟩
            walk_at "w"
            refine ⟨vA, hA, cA, rfl, dA, lfA.ne, by omega, by omega, ?_⟩
            walk_at "w"
            refine w_ixSg (by omega) (by omega) (by omega) fun x hx => ?_
            rw [Int.toNat_natCast, hLx k (by omega)] at hx
            have hx0 := eeA 0
            rw [Nat.zero_add] at hx0
            walk_at "w"
            refine w_iteND (fun z => absurd (by rw [← Option.some.inj hx, ← hx0]; rfl) z) (fun _ => ?_)
            walk_at "w"
            refine ⟨vA, hA, cA, rfl, dA, lfA, by omega, by omega, fun hB cB vB H17 lfB eeB hBl cBl hmB cmB e17 dB => ?_⟩
            have mhB : Mk hB := fun x hx => mhA x (hmB x hx)
            have mcB : Mk cB := fun x hx => mcA x (cmB x hx)
            have eeB2 : ∀ n : Nat, rz hB cB n = rz h c ((n + (k + 1) : Nat) : Int) := fun n => by
              rw [eeB, eeA]
              congr 2
              omega
            walk_at "wi"
            rw [cutD_both _ (by omega) (by omega)]
            rw [show ((k : Int) + 1).toNat = k + 1 by omega, show ((h.length : Int) + (c.length : Int) * 3).toNat = h.length + c.length * 3 by omega]
            have hR := fun n => hLr k n (by omega)
            have hRl : ((L.take (h.length + c.length * 3)).drop (k + 1)).length ≤ 400 := by rw [List.length_drop, List.length_take]; omega
            generalize (L.take (h.length + c.length * 3)).drop (k + 1) = R at *
            walk_at "w"
            refine ⟨vB, hB, cB, rfl, dB, lfB, by omega, by omega, ?_⟩
            walk_at "w"
            refine ⟨R, c, rfl, hcn, by omega, by omega, fun h5 c5 v5 H18 lf5 ee5 e18 d18 => ?_⟩
            obtain ⟨rfl, rfl⟩ := lf5.unique lfB fun n => (ee5 n).trans ((hR n).trans (eeB2 n).symm)
            refine w_neP (dp_same e18 dB) d18 (rowD_pln mhB mcB) (rowD_pln mhB mcB) (fun _ => ?_) (fun h => absurd rfl h)
            walk_at "w"
            exact ⟨h5, c5, vB, _, _, rfl, (s16.trans e17).trans e18, dp_same e18 dB, lfB, eeB2, by omega, by omega, mhB, mcB⟩
          · rintro σ' H16 ⟨hA, cA, vA, z10, z11, rfl, s16, dA, lfA, eeA, hAl, cAl, mhA, mcA⟩
            have dv16 := dp_same s16 dv15
            walk_at "w"
            refine w_row0 dv16 ?_
            walk_at "w"
            refine w_row1 dv16 ?_
            walk_at "w"
            refine ⟨h', c', rfl, lf.ne, by omega, by omega, fun h6 c6 v6 H17 lf6 ee6 hl6 cl6 hm6 cm6 e17 d17 => ?_⟩
            obtain ⟨rfl, rfl⟩ := lf6.unique lf ee6
            walk_at "w"
            refine w_neP d17 (dp_same e17 dv16) (rowD_pln mh' mc') (rowD_pln mh' mc') (fun _ => ?_) (fun h => absurd rfl h)
            walk_at "w"
            exact ⟨_, _, _, _, _, _, _, _, _, _, _, rfl, (k15.trans (Keep.of s16)).trans (Keep.of e17)⟩
    · rintro σ' H' ⟨y1, y2, y3, y4, y5, y6, y7, y8, y9, y10, y11, rfl, k0⟩
      walk_at "w"
      exact q H'

end
end Tw
namespace Tw
open PySem PySem.Spec PyProof.Rows L2
set_option maxHeartbeats 4000000 in
def top_mk {K : PySem.W.Frag} {h : Heap} {mg : Str → Option Value} (X : K.In h) (G : h.Ns mainGlobals mg) {f_least_row f_first_mark f_shifted f__law_begun f__law_draw f__law_of f__law_at f__law_least_row f__law_is_least f__law_marks f__law_otherwise f_law : Addr} {od_least_row an_least_row od_first_mark an_first_mark od_shifted an_shifted od__law_begun an__law_begun od__law_draw an__law_draw od__law_of an__law_of od__law_at an__law_at od__law_least_row an__law_least_row od__law_is_least an__law_is_least od__law_marks an__law_marks od__law_otherwise an__law_otherwise od_law an_law : Option Addr} {oc_least_row kV_least_row dc_least_row pm_least_row cd_least_row ct_least_row oc_first_mark kV_first_mark dc_first_mark pm_first_mark cd_first_mark ct_first_mark oc_shifted kV_shifted dc_shifted pm_shifted cd_shifted ct_shifted oc__law_begun kV__law_begun dc__law_begun pm__law_begun cd__law_begun ct__law_begun oc__law_draw kV__law_draw dc__law_draw pm__law_draw cd__law_draw ct__law_draw oc__law_of kV__law_of dc__law_of pm__law_of cd__law_of ct__law_of oc__law_at kV__law_at dc__law_at pm__law_at cd__law_at ct__law_at oc__law_least_row kV__law_least_row dc__law_least_row pm__law_least_row cd__law_least_row ct__law_least_row oc__law_is_least kV__law_is_least dc__law_is_least pm__law_is_least cd__law_is_least ct__law_is_least oc__law_marks kV__law_marks dc__law_marks pm__law_marks cd__law_marks ct__law_marks oc__law_otherwise kV__law_otherwise dc__law_otherwise pm__law_otherwise cd__law_otherwise ct__law_otherwise oc_law kV_law dc_law pm_law cd_law ct_law : Value} {sl_least_row sl_first_mark sl_shifted sl__law_begun sl__law_draw sl__law_of sl__law_at sl__law_least_row sl__law_is_least sl__law_marks sl__law_otherwise sl_law : Array (Option Value)} 
    (a_least_row : PySem.W.nsIn K mainGlobals "least_row" = some (some (.ref f_least_row)))
    (l_least_row : K.lookup f_least_row = some ⟨oc_least_row, od_least_row, .func (PySem.W.fnOf "least_row" "least_row" (defArgs s_least_row) (defBody s_least_row) (defScope s_least_row) .none kV_least_row dc_least_row pm_least_row an_least_row cd_least_row ct_least_row), sl_least_row⟩) (c_least_row : PySem.W.codeIn K cd_least_row "least_row" = true) (k_least_row : PySem.W.keepIn K (.ref f_least_row) = true)
    (a_first_mark : PySem.W.nsIn K mainGlobals "first_mark" = some (some (.ref f_first_mark)))
    (l_first_mark : K.lookup f_first_mark = some ⟨oc_first_mark, od_first_mark, .func (PySem.W.fnOf "first_mark" "first_mark" (defArgs s_first_mark) (defBody s_first_mark) (defScope s_first_mark) .none kV_first_mark dc_first_mark pm_first_mark an_first_mark cd_first_mark ct_first_mark), sl_first_mark⟩) (c_first_mark : PySem.W.codeIn K cd_first_mark "first_mark" = true) (k_first_mark : PySem.W.keepIn K (.ref f_first_mark) = true)
    (a_shifted : PySem.W.nsIn K mainGlobals "shifted" = some (some (.ref f_shifted)))
    (l_shifted : K.lookup f_shifted = some ⟨oc_shifted, od_shifted, .func (PySem.W.fnOf "shifted" "shifted" (defArgs s_shifted) (defBody s_shifted) (defScope s_shifted) .none kV_shifted dc_shifted pm_shifted an_shifted cd_shifted ct_shifted), sl_shifted⟩) (c_shifted : PySem.W.codeIn K cd_shifted "shifted" = true) (k_shifted : PySem.W.keepIn K (.ref f_shifted) = true)
    (a__law_begun : PySem.W.nsIn K mainGlobals "_law_begun" = some (some (.ref f__law_begun)))
    (l__law_begun : K.lookup f__law_begun = some ⟨oc__law_begun, od__law_begun, .func (PySem.W.fnOf "_law_begun" "_law_begun" (defArgs s__law_begun) (defBody s__law_begun) (defScope s__law_begun) .none kV__law_begun dc__law_begun pm__law_begun an__law_begun cd__law_begun ct__law_begun), sl__law_begun⟩) (c__law_begun : PySem.W.codeIn K cd__law_begun "_law_begun" = true) (k__law_begun : PySem.W.keepIn K (.ref f__law_begun) = true)
    (a__law_draw : PySem.W.nsIn K mainGlobals "_law_draw" = some (some (.ref f__law_draw)))
    (l__law_draw : K.lookup f__law_draw = some ⟨oc__law_draw, od__law_draw, .func (PySem.W.fnOf "_law_draw" "_law_draw" (defArgs s__law_draw) (defBody s__law_draw) (defScope s__law_draw) .none kV__law_draw dc__law_draw pm__law_draw an__law_draw cd__law_draw ct__law_draw), sl__law_draw⟩) (c__law_draw : PySem.W.codeIn K cd__law_draw "_law_draw" = true) (k__law_draw : PySem.W.keepIn K (.ref f__law_draw) = true)
    (a__law_of : PySem.W.nsIn K mainGlobals "_law_of" = some (some (.ref f__law_of)))
    (l__law_of : K.lookup f__law_of = some ⟨oc__law_of, od__law_of, .func (PySem.W.fnOf "_law_of" "_law_of" (defArgs s__law_of) (defBody s__law_of) (defScope s__law_of) .none kV__law_of dc__law_of pm__law_of an__law_of cd__law_of ct__law_of), sl__law_of⟩) (c__law_of : PySem.W.codeIn K cd__law_of "_law_of" = true) (k__law_of : PySem.W.keepIn K (.ref f__law_of) = true)
    (a__law_at : PySem.W.nsIn K mainGlobals "_law_at" = some (some (.ref f__law_at)))
    (l__law_at : K.lookup f__law_at = some ⟨oc__law_at, od__law_at, .func (PySem.W.fnOf "_law_at" "_law_at" (defArgs s__law_at) (defBody s__law_at) (defScope s__law_at) .none kV__law_at dc__law_at pm__law_at an__law_at cd__law_at ct__law_at), sl__law_at⟩) (c__law_at : PySem.W.codeIn K cd__law_at "_law_at" = true) (k__law_at : PySem.W.keepIn K (.ref f__law_at) = true)
    (a__law_least_row : PySem.W.nsIn K mainGlobals "_law_least_row" = some (some (.ref f__law_least_row)))
    (l__law_least_row : K.lookup f__law_least_row = some ⟨oc__law_least_row, od__law_least_row, .func (PySem.W.fnOf "_law_least_row" "_law_least_row" (defArgs s__law_least_row) (defBody s__law_least_row) (defScope s__law_least_row) .none kV__law_least_row dc__law_least_row pm__law_least_row an__law_least_row cd__law_least_row ct__law_least_row), sl__law_least_row⟩) (c__law_least_row : PySem.W.codeIn K cd__law_least_row "_law_least_row" = true) (k__law_least_row : PySem.W.keepIn K (.ref f__law_least_row) = true)
    (a__law_is_least : PySem.W.nsIn K mainGlobals "_law_is_least" = some (some (.ref f__law_is_least)))
    (l__law_is_least : K.lookup f__law_is_least = some ⟨oc__law_is_least, od__law_is_least, .func (PySem.W.fnOf "_law_is_least" "_law_is_least" (defArgs s__law_is_least) (defBody s__law_is_least) (defScope s__law_is_least) .none kV__law_is_least dc__law_is_least pm__law_is_least an__law_is_least cd__law_is_least ct__law_is_least), sl__law_is_least⟩) (c__law_is_least : PySem.W.codeIn K cd__law_is_least "_law_is_least" = true) (k__law_is_least : PySem.W.keepIn K (.ref f__law_is_least) = true)
    (a__law_marks : PySem.W.nsIn K mainGlobals "_law_marks" = some (some (.ref f__law_marks)))
    (l__law_marks : K.lookup f__law_marks = some ⟨oc__law_marks, od__law_marks, .func (PySem.W.fnOf "_law_marks" "_law_marks" (defArgs s__law_marks) (defBody s__law_marks) (defScope s__law_marks) .none kV__law_marks dc__law_marks pm__law_marks an__law_marks cd__law_marks ct__law_marks), sl__law_marks⟩) (c__law_marks : PySem.W.codeIn K cd__law_marks "_law_marks" = true) (k__law_marks : PySem.W.keepIn K (.ref f__law_marks) = true)
    (a__law_otherwise : PySem.W.nsIn K mainGlobals "_law_otherwise" = some (some (.ref f__law_otherwise)))
    (l__law_otherwise : K.lookup f__law_otherwise = some ⟨oc__law_otherwise, od__law_otherwise, .func (PySem.W.fnOf "_law_otherwise" "_law_otherwise" (defArgs s__law_otherwise) (defBody s__law_otherwise) (defScope s__law_otherwise) .none kV__law_otherwise dc__law_otherwise pm__law_otherwise an__law_otherwise cd__law_otherwise ct__law_otherwise), sl__law_otherwise⟩) (c__law_otherwise : PySem.W.codeIn K cd__law_otherwise "_law_otherwise" = true) (k__law_otherwise : PySem.W.keepIn K (.ref f__law_otherwise) = true)
    (a_law : PySem.W.nsIn K mainGlobals "law" = some (some (.ref f_law)))
    (l_law : K.lookup f_law = some ⟨oc_law, od_law, .func (PySem.W.fnOf "law" "law" (defArgs s_law) (defBody s_law) (defScope s_law) .none kV_law dc_law pm_law an_law cd_law ct_law), sl_law⟩) (c_law : PySem.W.codeIn K cd_law "law" = true) (k_law : PySem.W.keepIn K (.ref f_law) = true)
    (z_int : PySem.W.nsIn K mainGlobals "int" = some none)
    (z_isinstance : PySem.W.nsIn K mainGlobals "isinstance" = some none)
    (z_len : PySem.W.nsIn K mainGlobals "len" = some none)
    (z_max : PySem.W.nsIn K mainGlobals "max" = some none)
    (z_min : PySem.W.nsIn K mainGlobals "min" = some none)
    (z_range : PySem.W.nsIn K mainGlobals "range" = some none)
    (z_str : PySem.W.nsIn K mainGlobals "str" = some none)
    (z_tuple : PySem.W.nsIn K mainGlobals "tuple" = some none) : Top K mg :=
  { g_least_row := PySem.W.mg_of X G a_least_row,
    f_least_row := f_least_row, fd_least_row := PySem.W.fnOf "least_row" "least_row" (defArgs s_least_row) (defBody s_least_row) (defScope s_least_row) .none kV_least_row dc_least_row pm_least_row an_least_row cd_least_row ct_least_row, F_least_row := fun_mk (st := s_least_row) l_least_row c_least_row k_least_row, b_least_row := (fun_mk (st := s_least_row) l_least_row c_least_row k_least_row).binds (ps := ["head", "cycle"]) fun _ _ _ _ _ _ us hl => match us, hl with | [_, _], _ => rfl,
    g_first_mark := PySem.W.mg_of X G a_first_mark,
    f_first_mark := f_first_mark, fd_first_mark := PySem.W.fnOf "first_mark" "first_mark" (defArgs s_first_mark) (defBody s_first_mark) (defScope s_first_mark) .none kV_first_mark dc_first_mark pm_first_mark an_first_mark cd_first_mark ct_first_mark, F_first_mark := fun_mk (st := s_first_mark) l_first_mark c_first_mark k_first_mark, b_first_mark := (fun_mk (st := s_first_mark) l_first_mark c_first_mark k_first_mark).binds (ps := ["row"]) fun _ _ _ _ _ _ us hl => match us, hl with | [_], _ => rfl,
    g_shifted := PySem.W.mg_of X G a_shifted,
    f_shifted := f_shifted, fd_shifted := PySem.W.fnOf "shifted" "shifted" (defArgs s_shifted) (defBody s_shifted) (defScope s_shifted) .none kV_shifted dc_shifted pm_shifted an_shifted cd_shifted ct_shifted, F_shifted := fun_mk (st := s_shifted) l_shifted c_shifted k_shifted, b_shifted := (fun_mk (st := s_shifted) l_shifted c_shifted k_shifted).binds (ps := ["row"]) fun _ _ _ _ _ _ us hl => match us, hl with | [_], _ => rfl,
    g__law_begun := PySem.W.mg_of X G a__law_begun,
    f__law_begun := f__law_begun, fd__law_begun := PySem.W.fnOf "_law_begun" "_law_begun" (defArgs s__law_begun) (defBody s__law_begun) (defScope s__law_begun) .none kV__law_begun dc__law_begun pm__law_begun an__law_begun cd__law_begun ct__law_begun, F__law_begun := fun_mk (st := s__law_begun) l__law_begun c__law_begun k__law_begun, b__law_begun := (fun_mk (st := s__law_begun) l__law_begun c__law_begun k__law_begun).binds (ps := ["script", "k"]) fun _ _ _ _ _ _ us hl => match us, hl with | [_, _], _ => rfl,
    g__law_draw := PySem.W.mg_of X G a__law_draw,
    f__law_draw := f__law_draw, fd__law_draw := PySem.W.fnOf "_law_draw" "_law_draw" (defArgs s__law_draw) (defBody s__law_draw) (defScope s__law_draw) .none kV__law_draw dc__law_draw pm__law_draw an__law_draw cd__law_draw ct__law_draw, F__law_draw := fun_mk (st := s__law_draw) l__law_draw c__law_draw k__law_draw, b__law_draw := (fun_mk (st := s__law_draw) l__law_draw c__law_draw k__law_draw).binds (ps := ["m", "below"]) fun _ _ _ _ _ _ us hl => match us, hl with | [_, _], _ => rfl,
    g__law_of := PySem.W.mg_of X G a__law_of,
    f__law_of := f__law_of, fd__law_of := PySem.W.fnOf "_law_of" "_law_of" (defArgs s__law_of) (defBody s__law_of) (defScope s__law_of) .none kV__law_of dc__law_of pm__law_of an__law_of cd__law_of ct__law_of, F__law_of := fun_mk (st := s__law_of) l__law_of c__law_of k__law_of, b__law_of := (fun_mk (st := s__law_of) l__law_of c__law_of k__law_of).binds (ps := ["m", "some"]) fun _ _ _ _ _ _ us hl => match us, hl with | [_, _], _ => rfl,
    g__law_at := PySem.W.mg_of X G a__law_at,
    f__law_at := f__law_at, fd__law_at := PySem.W.fnOf "_law_at" "_law_at" (defArgs s__law_at) (defBody s__law_at) (defScope s__law_at) .none kV__law_at dc__law_at pm__law_at an__law_at cd__law_at ct__law_at, F__law_at := fun_mk (st := s__law_at) l__law_at c__law_at k__law_at, b__law_at := (fun_mk (st := s__law_at) l__law_at c__law_at k__law_at).binds (ps := ["row", "k"]) fun _ _ _ _ _ _ us hl => match us, hl with | [_, _], _ => rfl,
    g__law_least_row := PySem.W.mg_of X G a__law_least_row,
    f__law_least_row := f__law_least_row, fd__law_least_row := PySem.W.fnOf "_law_least_row" "_law_least_row" (defArgs s__law_least_row) (defBody s__law_least_row) (defScope s__law_least_row) .none kV__law_least_row dc__law_least_row pm__law_least_row an__law_least_row cd__law_least_row ct__law_least_row, F__law_least_row := fun_mk (st := s__law_least_row) l__law_least_row c__law_least_row k__law_least_row, b__law_least_row := (fun_mk (st := s__law_least_row) l__law_least_row c__law_least_row k__law_least_row).binds (ps := ["head", "cycle"]) fun _ _ _ _ _ _ us hl => match us, hl with | [_, _], _ => rfl,
    g__law_is_least := PySem.W.mg_of X G a__law_is_least,
    f__law_is_least := f__law_is_least, fd__law_is_least := PySem.W.fnOf "_law_is_least" "_law_is_least" (defArgs s__law_is_least) (defBody s__law_is_least) (defScope s__law_is_least) .none kV__law_is_least dc__law_is_least pm__law_is_least an__law_is_least cd__law_is_least ct__law_is_least, F__law_is_least := fun_mk (st := s__law_is_least) l__law_is_least c__law_is_least k__law_is_least, b__law_is_least := (fun_mk (st := s__law_is_least) l__law_is_least c__law_is_least k__law_is_least).binds (ps := ["row"]) fun _ _ _ _ _ _ us hl => match us, hl with | [_], _ => rfl,
    g__law_marks := PySem.W.mg_of X G a__law_marks,
    f__law_marks := f__law_marks, fd__law_marks := PySem.W.fnOf "_law_marks" "_law_marks" (defArgs s__law_marks) (defBody s__law_marks) (defScope s__law_marks) .none kV__law_marks dc__law_marks pm__law_marks an__law_marks cd__law_marks ct__law_marks, F__law_marks := fun_mk (st := s__law_marks) l__law_marks c__law_marks k__law_marks, b__law_marks := (fun_mk (st := s__law_marks) l__law_marks c__law_marks k__law_marks).binds (ps := ["m", "size"]) fun _ _ _ _ _ _ us hl => match us, hl with | [_, _], _ => rfl,
    g__law_otherwise := PySem.W.mg_of X G a__law_otherwise,
    f__law_otherwise := f__law_otherwise, fd__law_otherwise := PySem.W.fnOf "_law_otherwise" "_law_otherwise" (defArgs s__law_otherwise) (defBody s__law_otherwise) (defScope s__law_otherwise) .none kV__law_otherwise dc__law_otherwise pm__law_otherwise an__law_otherwise cd__law_otherwise ct__law_otherwise, F__law_otherwise := fun_mk (st := s__law_otherwise) l__law_otherwise c__law_otherwise k__law_otherwise, b__law_otherwise := (fun_mk (st := s__law_otherwise) l__law_otherwise c__law_otherwise k__law_otherwise).binds (ps := ["m", "head", "cycle"]) fun _ _ _ _ _ _ us hl => match us, hl with | [_, _, _], _ => rfl,
    g_law := PySem.W.mg_of X G a_law,
    f_law := f_law, fd_law := PySem.W.fnOf "law" "law" (defArgs s_law) (defBody s_law) (defScope s_law) .none kV_law dc_law pm_law an_law cd_law ct_law, F_law := fun_mk (st := s_law) l_law c_law k_law, b_law := (fun_mk (st := s_law) l_law c_law k_law).binds (ps := ["script"]) fun _ _ _ _ _ _ us hl => match us, hl with | [_], _ => rfl,
    z_int := PySem.W.mg_none_of X G z_int,
    z_isinstance := PySem.W.mg_none_of X G z_isinstance,
    z_len := PySem.W.mg_none_of X G z_len,
    z_max := PySem.W.mg_none_of X G z_max,
    z_min := PySem.W.mg_none_of X G z_min,
    z_range := PySem.W.mg_none_of X G z_range,
    z_str := PySem.W.mg_none_of X G z_str,
    z_tuple := PySem.W.mg_none_of X G z_tuple }
theorem all_mk {l : PySem.W.OpenLaw} {w : World} {K : PySem.W.Frag} {h : Heap} {mg : Str → Option Value} {fa : Addr} (X : K.In h) (G : h.Ns mainGlobals mg) (hfa : mg "law" = some (.ref fa)) {f_least_row f_first_mark f_shifted f__law_begun f__law_draw f__law_of f__law_at f__law_least_row f__law_is_least f__law_marks f__law_otherwise f_law : Addr} {od_least_row an_least_row od_first_mark an_first_mark od_shifted an_shifted od__law_begun an__law_begun od__law_draw an__law_draw od__law_of an__law_of od__law_at an__law_at od__law_least_row an__law_least_row od__law_is_least an__law_is_least od__law_marks an__law_marks od__law_otherwise an__law_otherwise od_law an_law : Option Addr} {oc_least_row kV_least_row dc_least_row pm_least_row cd_least_row ct_least_row oc_first_mark kV_first_mark dc_first_mark pm_first_mark cd_first_mark ct_first_mark oc_shifted kV_shifted dc_shifted pm_shifted cd_shifted ct_shifted oc__law_begun kV__law_begun dc__law_begun pm__law_begun cd__law_begun ct__law_begun oc__law_draw kV__law_draw dc__law_draw pm__law_draw cd__law_draw ct__law_draw oc__law_of kV__law_of dc__law_of pm__law_of cd__law_of ct__law_of oc__law_at kV__law_at dc__law_at pm__law_at cd__law_at ct__law_at oc__law_least_row kV__law_least_row dc__law_least_row pm__law_least_row cd__law_least_row ct__law_least_row oc__law_is_least kV__law_is_least dc__law_is_least pm__law_is_least cd__law_is_least ct__law_is_least oc__law_marks kV__law_marks dc__law_marks pm__law_marks cd__law_marks ct__law_marks oc__law_otherwise kV__law_otherwise dc__law_otherwise pm__law_otherwise cd__law_otherwise ct__law_otherwise oc_law kV_law dc_law pm_law cd_law ct_law : Value} {sl_least_row sl_first_mark sl_shifted sl__law_begun sl__law_draw sl__law_of sl__law_at sl__law_least_row sl__law_is_least sl__law_marks sl__law_otherwise sl_law : Array (Option Value)} 
    (a_least_row : PySem.W.nsIn K mainGlobals "least_row" = some (some (.ref f_least_row)))
    (l_least_row : K.lookup f_least_row = some ⟨oc_least_row, od_least_row, .func (PySem.W.fnOf "least_row" "least_row" (defArgs s_least_row) (defBody s_least_row) (defScope s_least_row) .none kV_least_row dc_least_row pm_least_row an_least_row cd_least_row ct_least_row), sl_least_row⟩) (c_least_row : PySem.W.codeIn K cd_least_row "least_row" = true) (k_least_row : PySem.W.keepIn K (.ref f_least_row) = true)
    (a_first_mark : PySem.W.nsIn K mainGlobals "first_mark" = some (some (.ref f_first_mark)))
    (l_first_mark : K.lookup f_first_mark = some ⟨oc_first_mark, od_first_mark, .func (PySem.W.fnOf "first_mark" "first_mark" (defArgs s_first_mark) (defBody s_first_mark) (defScope s_first_mark) .none kV_first_mark dc_first_mark pm_first_mark an_first_mark cd_first_mark ct_first_mark), sl_first_mark⟩) (c_first_mark : PySem.W.codeIn K cd_first_mark "first_mark" = true) (k_first_mark : PySem.W.keepIn K (.ref f_first_mark) = true)
    (a_shifted : PySem.W.nsIn K mainGlobals "shifted" = some (some (.ref f_shifted)))
    (l_shifted : K.lookup f_shifted = some ⟨oc_shifted, od_shifted, .func (PySem.W.fnOf "shifted" "shifted" (defArgs s_shifted) (defBody s_shifted) (defScope s_shifted) .none kV_shifted dc_shifted pm_shifted an_shifted cd_shifted ct_shifted), sl_shifted⟩) (c_shifted : PySem.W.codeIn K cd_shifted "shifted" = true) (k_shifted : PySem.W.keepIn K (.ref f_shifted) = true)
    (a__law_begun : PySem.W.nsIn K mainGlobals "_law_begun" = some (some (.ref f__law_begun)))
    (l__law_begun : K.lookup f__law_begun = some ⟨oc__law_begun, od__law_begun, .func (PySem.W.fnOf "_law_begun" "_law_begun" (defArgs s__law_begun) (defBody s__law_begun) (defScope s__law_begun) .none kV__law_begun dc__law_begun pm__law_begun an__law_begun cd__law_begun ct__law_begun), sl__law_begun⟩) (c__law_begun : PySem.W.codeIn K cd__law_begun "_law_begun" = true) (k__law_begun : PySem.W.keepIn K (.ref f__law_begun) = true)
    (a__law_draw : PySem.W.nsIn K mainGlobals "_law_draw" = some (some (.ref f__law_draw)))
    (l__law_draw : K.lookup f__law_draw = some ⟨oc__law_draw, od__law_draw, .func (PySem.W.fnOf "_law_draw" "_law_draw" (defArgs s__law_draw) (defBody s__law_draw) (defScope s__law_draw) .none kV__law_draw dc__law_draw pm__law_draw an__law_draw cd__law_draw ct__law_draw), sl__law_draw⟩) (c__law_draw : PySem.W.codeIn K cd__law_draw "_law_draw" = true) (k__law_draw : PySem.W.keepIn K (.ref f__law_draw) = true)
    (a__law_of : PySem.W.nsIn K mainGlobals "_law_of" = some (some (.ref f__law_of)))
    (l__law_of : K.lookup f__law_of = some ⟨oc__law_of, od__law_of, .func (PySem.W.fnOf "_law_of" "_law_of" (defArgs s__law_of) (defBody s__law_of) (defScope s__law_of) .none kV__law_of dc__law_of pm__law_of an__law_of cd__law_of ct__law_of), sl__law_of⟩) (c__law_of : PySem.W.codeIn K cd__law_of "_law_of" = true) (k__law_of : PySem.W.keepIn K (.ref f__law_of) = true)
    (a__law_at : PySem.W.nsIn K mainGlobals "_law_at" = some (some (.ref f__law_at)))
    (l__law_at : K.lookup f__law_at = some ⟨oc__law_at, od__law_at, .func (PySem.W.fnOf "_law_at" "_law_at" (defArgs s__law_at) (defBody s__law_at) (defScope s__law_at) .none kV__law_at dc__law_at pm__law_at an__law_at cd__law_at ct__law_at), sl__law_at⟩) (c__law_at : PySem.W.codeIn K cd__law_at "_law_at" = true) (k__law_at : PySem.W.keepIn K (.ref f__law_at) = true)
    (a__law_least_row : PySem.W.nsIn K mainGlobals "_law_least_row" = some (some (.ref f__law_least_row)))
    (l__law_least_row : K.lookup f__law_least_row = some ⟨oc__law_least_row, od__law_least_row, .func (PySem.W.fnOf "_law_least_row" "_law_least_row" (defArgs s__law_least_row) (defBody s__law_least_row) (defScope s__law_least_row) .none kV__law_least_row dc__law_least_row pm__law_least_row an__law_least_row cd__law_least_row ct__law_least_row), sl__law_least_row⟩) (c__law_least_row : PySem.W.codeIn K cd__law_least_row "_law_least_row" = true) (k__law_least_row : PySem.W.keepIn K (.ref f__law_least_row) = true)
    (a__law_is_least : PySem.W.nsIn K mainGlobals "_law_is_least" = some (some (.ref f__law_is_least)))
    (l__law_is_least : K.lookup f__law_is_least = some ⟨oc__law_is_least, od__law_is_least, .func (PySem.W.fnOf "_law_is_least" "_law_is_least" (defArgs s__law_is_least) (defBody s__law_is_least) (defScope s__law_is_least) .none kV__law_is_least dc__law_is_least pm__law_is_least an__law_is_least cd__law_is_least ct__law_is_least), sl__law_is_least⟩) (c__law_is_least : PySem.W.codeIn K cd__law_is_least "_law_is_least" = true) (k__law_is_least : PySem.W.keepIn K (.ref f__law_is_least) = true)
    (a__law_marks : PySem.W.nsIn K mainGlobals "_law_marks" = some (some (.ref f__law_marks)))
    (l__law_marks : K.lookup f__law_marks = some ⟨oc__law_marks, od__law_marks, .func (PySem.W.fnOf "_law_marks" "_law_marks" (defArgs s__law_marks) (defBody s__law_marks) (defScope s__law_marks) .none kV__law_marks dc__law_marks pm__law_marks an__law_marks cd__law_marks ct__law_marks), sl__law_marks⟩) (c__law_marks : PySem.W.codeIn K cd__law_marks "_law_marks" = true) (k__law_marks : PySem.W.keepIn K (.ref f__law_marks) = true)
    (a__law_otherwise : PySem.W.nsIn K mainGlobals "_law_otherwise" = some (some (.ref f__law_otherwise)))
    (l__law_otherwise : K.lookup f__law_otherwise = some ⟨oc__law_otherwise, od__law_otherwise, .func (PySem.W.fnOf "_law_otherwise" "_law_otherwise" (defArgs s__law_otherwise) (defBody s__law_otherwise) (defScope s__law_otherwise) .none kV__law_otherwise dc__law_otherwise pm__law_otherwise an__law_otherwise cd__law_otherwise ct__law_otherwise), sl__law_otherwise⟩) (c__law_otherwise : PySem.W.codeIn K cd__law_otherwise "_law_otherwise" = true) (k__law_otherwise : PySem.W.keepIn K (.ref f__law_otherwise) = true)
    (a_law : PySem.W.nsIn K mainGlobals "law" = some (some (.ref f_law)))
    (l_law : K.lookup f_law = some ⟨oc_law, od_law, .func (PySem.W.fnOf "law" "law" (defArgs s_law) (defBody s_law) (defScope s_law) .none kV_law dc_law pm_law an_law cd_law ct_law), sl_law⟩) (c_law : PySem.W.codeIn K cd_law "law" = true) (k_law : PySem.W.keepIn K (.ref f_law) = true)
    (z_int : PySem.W.nsIn K mainGlobals "int" = some none)
    (z_isinstance : PySem.W.nsIn K mainGlobals "isinstance" = some none)
    (z_len : PySem.W.nsIn K mainGlobals "len" = some none)
    (z_max : PySem.W.nsIn K mainGlobals "max" = some none)
    (z_min : PySem.W.nsIn K mainGlobals "min" = some none)
    (z_range : PySem.W.nsIn K mainGlobals "range" = some none)
    (z_str : PySem.W.nsIn K mainGlobals "str" = some none)
    (z_tuple : PySem.W.nsIn K mainGlobals "tuple" = some none) :
    ∃ fd : FuncData, (∀ (s : Shared) (v : Value), BindsTo s fd ⟨[v], []⟩ [("script", v)]) ∧ ∀ base : Heap, K.In base → base.Ns mainGlobals mg → FnOk l.prog w K mg base CX0 4 fa fd ["script"] (sp_law K) := by
  have e := hfa.symm.trans (PySem.W.mg_of X G a_law)
  cases e
  exact ⟨_, fun s v => .of_eq rfl, fun base _ _ => ok_law (top_mk X G a_least_row l_least_row c_least_row k_least_row a_first_mark l_first_mark c_first_mark k_first_mark a_shifted l_shifted c_shifted k_shifted a__law_begun l__law_begun c__law_begun k__law_begun a__law_draw l__law_draw c__law_draw k__law_draw a__law_of l__law_of c__law_of k__law_of a__law_at l__law_at c__law_at k__law_at a__law_least_row l__law_least_row c__law_least_row k__law_least_row a__law_is_least l__law_is_least c__law_is_least k__law_is_least a__law_marks l__law_marks c__law_marks k__law_marks a__law_otherwise l__law_otherwise c__law_otherwise k__law_otherwise a_law l_law c_law k_law z_int z_isinstance z_len z_max z_min z_range z_str z_tuple)⟩
end Tw
open PySem PySem.W PyProof.Rows
set_option maxHeartbeats 0 in
theorem PySem.Challenge.cw_twicedial_k14_rows_in_least_form_holds : PySem.Challenge.rw_twicedial_k14_rows_in_least_form.Holds := by
  w_on; o_law; k_head; (case hw => w_witness2)
  k_fill
  refine L2.walk_ofB (l := PySem.Challenge.rw_twicedial_k14_rows_in_least_form) (n := 63) (k := 4) (x := "script") (CX := fun _ => L2.CX0) (sp := fun w => Tw.sp_law _) rfl (by decide) rfl ⟨rfl, by decide, by decide⟩ (fun w h Y => PySem.W.kIn_of Y) ?F (fun _ _ a ns hl hb _ hS => ⟨a, ns, rfl, hS, hl, hb, fun _ => rfl⟩) (fun _ _ _ _ _ h => h)
  case F =>
    intro w mg fa h KX G hmg
    refine' Tw.all_mk KX G hmg ?a_least_row ?l_least_row ?c_least_row ?k_least_row ?a_first_mark ?l_first_mark ?c_first_mark ?k_first_mark ?a_shifted ?l_shifted ?c_shifted ?k_shifted ?a__law_begun ?l__law_begun ?c__law_begun ?k__law_begun ?a__law_draw ?l__law_draw ?c__law_draw ?k__law_draw ?a__law_of ?l__law_of ?c__law_of ?k__law_of ?a__law_at ?l__law_at ?c__law_at ?k__law_at ?a__law_least_row ?l__law_least_row ?c__law_least_row ?k__law_least_row ?a__law_is_least ?l__law_is_least ?c__law_is_least ?k__law_is_least ?a__law_marks ?l__law_marks ?c__law_marks ?k__law_marks ?a__law_otherwise ?l__law_otherwise ?c__law_otherwise ?k__law_otherwise ?a_law ?l_law ?c_law ?k_law ?z_int ?z_isinstance ?z_len ?z_max ?z_min ?z_range ?z_str ?z_tuple
    (case a_least_row => k_is); (case l_least_row => k_is); (case c_least_row => k_is); (case k_least_row => k_is); (case a_first_mark => k_is); (case l_first_mark => k_is); (case c_first_mark => k_is); (case k_first_mark => k_is); (case a_shifted => k_is); (case l_shifted => k_is); (case c_shifted => k_is); (case k_shifted => k_is); (case a__law_begun => k_is); (case l__law_begun => k_is); (case c__law_begun => k_is); (case k__law_begun => k_is); (case a__law_draw => k_is); (case l__law_draw => k_is); (case c__law_draw => k_is); (case k__law_draw => k_is); (case a__law_of => k_is); (case l__law_of => k_is); (case c__law_of => k_is); (case k__law_of => k_is); (case a__law_at => k_is); (case l__law_at => k_is); (case c__law_at => k_is); (case k__law_at => k_is); (case a__law_least_row => k_is); (case l__law_least_row => k_is); (case c__law_least_row => k_is); (case k__law_least_row => k_is); (case a__law_is_least => k_is); (case l__law_is_least => k_is); (case c__law_is_least => k_is); (case k__law_is_least => k_is); (case a__law_marks => k_is); (case l__law_marks => k_is); (case c__law_marks => k_is); (case k__law_marks => k_is); (case a__law_otherwise => k_is); (case l__law_otherwise => k_is); (case c__law_otherwise => k_is); (case k__law_otherwise => k_is); (case a_law => k_is); (case l_law => k_is); (case c_law => k_is); (case k_law => k_is); (case z_int => k_is); (case z_isinstance => k_is); (case z_len => k_is); (case z_max => k_is); (case z_min => k_is); (case z_range => k_is); (case z_str => k_is); (case z_tuple => k_is)
