import PyProof.Rows.All
import Wide.All
import OpenK.AllK
import Wide.FinOn
import HandS.ForMost
import HandS.Wide
import HandS.WideBits
import HandS.Gcd
import HandS.EndBits
import HandS.Steps
import HandS.Style
import HandS.IsInst
import HandS.Deep
import PySem.Challenge.RW_twicedial_k06_arcs
set_option Elab.async false
set_option linter.all false
set_option maxRecDepth 100000
set_option maxHeartbeats 8000000
namespace Tw
open PySem PySem.Spec PyProof.Rows L2
/-! ### heaps: what stays -/
/-- all tracked objects but dicts stay -/
def Keep (H H' : Hp) : Prop := ∀ b o, (∀ kvs, o ≠ .dK kvs) → H b = some o → H' b = some o
theorem Keep.refl (H : Hp) : Keep H H := fun _ _ _ h => h
theorem Keep.of {H H' : Hp} (e : Same H H') : Keep H H' := fun b o _ h => e b o h
theorem Keep.trans {H H1 H2 : Hp} (a : Keep H H1) (b : Keep H1 H2) : Keep H H2 := fun c o n h => b c o n (a c o n h)
theorem Keep.rd {H H' : Hp} {a : Addr} {u : HO} (e : Keep H H') (n : ∀ kvs, u ≠ .dK kvs) (h : Rd H a u) : Rd H' a u := by
  rcases h with h | ⟨o, h⟩
  · exact .inl (e a _ n h)
  · exact .inr ⟨o, e a _ (fun kvs z => nomatch z) h⟩
theorem Keep.seqL {K : PySem.W.Frag} {H H' : Hp} {a : Addr} {xs : List V} (e : Keep H H') (h : SqL K H a xs) : SqL K H' a xs := by
  rcases h with h | h
  · exact .inl (e.rd (fun _ z => nomatch z) h)
  · exact .inr h
theorem Keep.seqT {K : PySem.W.Frag} {H H' : Hp} {a : Addr} {xs : List V} (e : Keep H H') (h : SqT K H a xs) : SqT K H' a xs := by
  rcases h with h | h
  · exact .inl (e.rd (fun _ z => nomatch z) h)
  · exact .inr h
theorem Keep.l {H H' : Hp} {a : Addr} {xs : List V} (e : Keep H H') (h : H a = some (.lst xs)) : H' a = some (.lst xs) := e a _ (fun _ z => nomatch z) h
theorem Keep.t {H H' : Hp} {a : Addr} {xs : List V} (e : Keep H H') (h : H a = some (.tup xs)) : H' a = some (.tup xs) := e a _ (fun _ z => nomatch z) h
theorem len_ok {n : Nat} (h : n ≤ 1000) : n ≤ sizeLine := Nat.le_trans h (by decide)
theorem len_lt {n : Nat} (h : n ≤ 1000) : n < sizeLine := Nat.lt_of_le_of_lt h (by decide)
theorem same_new {H : Hp} {p : Addr} {o : HO} (h : H p = none) : Same H (upd H p o) := fun b x e => by
  rw [upd_ne (ne_of_none e h)]; exact e
/-- an object that H does not know may change -/
theorem same_mut {H H' : Hp} {p : Addr} {o : HO} (e : Same H H') (h : H p = none) : Same H (upd H' p o) := fun a u ha => by
  rw [upd_ne (ne_of_none ha h)]; exact e a u ha
theorem keep_mut {H H' : Hp} {p : Addr} {o : HO} (e : Keep H H') (h : H p = none) : Keep H (upd H' p o) := fun a u n ha => by
  rw [upd_ne (ne_of_none ha h)]; exact e a u n ha
theorem keep_dict {H : Hp} {m : Addr} {kvs : List (Key × V)} {o : HO} (h : H m = some (.dK kvs)) : Keep H (upd H m o) := fun b u n e => by
  rw [upd_ne]
  · exact e
  · intro z; subst z; rw [h] at e; exact n kvs (Option.some.inj e).symm
theorem keep_free {H H' : Hp} (e : Same H H') {l : Addr} (h : H' l = none) : H l = none := e.free h

/-! ### data -/
abbrev Dt := PyData
mutual
theorem Dpk {K : PySem.W.Frag} {H H' : Hp} (e : Keep H H') : ∀ (d : PyData) (v : V), Dp K H v d → Dp K H' v d
  | .none, _, h => by cases h; exact .non
  | .bool b, _, h => by cases h; exact .bl b
  | .int i, _, h => by cases h; exact .int i
  | .str x, _, h => by cases h; exact .str x
  | .list ds, _, h => by
    cases h with
    | lst hs ha => exact .lst (e.seqL hs) (DpkAll e ds _ ha)
  | .tuple ds, _, h => by
    cases h with
    | tup hs ha => exact .tup (e.seqT hs) (DpkAll e ds _ ha)
  | .dict _, _, h => by cases h
theorem DpkAll {K : PySem.W.Frag} {H H' : Hp} (e : Keep H H') : ∀ (ds : List PyData) (vs : List V), DpAll K H vs ds → DpAll K H' vs ds
  | [], _, h => by cases h; exact .nil
  | d :: ds, _, h => by
    cases h with
    | cons h1 h2 => exact .cons (Dpk e d _ h1) (DpkAll e ds _ h2)
end
section
variable {K : PySem.W.Frag} {H H' : Hp} {v : V} {d : PyData} {vs : List V} {ds : List PyData} {a p : Addr} {xs : List V}
theorem dp_keep (e : Keep H H') (h : Dp K H v d) : Dp K H' v d := Dpk e d v h
theorem dp_same (e : Same H H') (h : Dp K H v d) : Dp K H' v d := Dpk (Keep.of e) d v h
theorem dpa_keep (e : Keep H H') (h : DpAll K H vs ds) : DpAll K H' vs ds := DpkAll e ds vs h
theorem dpa_same (e : Same H H') (h : DpAll K H vs ds) : DpAll K H' vs ds := DpkAll (Keep.of e) ds vs h
theorem dp_int {i : Int} (h : Dp K H v (.int i)) : v = .int i := by cases h; rfl
theorem dp_str {i : Str} (h : Dp K H v (.str i)) : v = .str i := by cases h; rfl
theorem dp_bl {i : Bool} (h : Dp K H v (.bool i)) : v = .bl i := by cases h; rfl
theorem dp_non (h : Dp K H v .none) : v = .non := by cases h; rfl
theorem dp_tup (h : Dp K H v (.tuple ds)) : ∃ a xs, v = .ref a ∧ SqT K H a xs ∧ DpAll K H xs ds := by
  cases h with
  | tup hs ha => exact ⟨_, _, rfl, hs, ha⟩
theorem dp_lst (h : Dp K H v (.list ds)) : ∃ a xs, v = .ref a ∧ SqL K H a xs ∧ DpAll K H xs ds := by
  cases h with
  | lst hs ha => exact ⟨_, _, rfl, hs, ha⟩
theorem dpa_len : ∀ {vs : List V} {ds : List PyData}, DpAll K H vs ds → vs.length = ds.length
  | _, [], h => by cases h; rfl
  | _, d :: ds, h => by
    cases h with
    | cons h1 h2 => simp [dpa_len h2]
theorem dpa_get : ∀ {vs : List V} {ds : List PyData} {i : Nat} {d : PyData}, DpAll K H vs ds → ds[i]? = some d → ∃ v, vs[i]? = some v ∧ Dp K H v d
  | _, [], i, d, h, e => by simp at e
  | _, d0 :: ds, 0, d, h, e => by
    cases h with
    | cons h1 h2 => simp at e; subst e; exact ⟨_, rfl, h1⟩
  | _, d0 :: ds, i + 1, d, h, e => by
    cases h with
    | cons h1 h2 =>
      obtain ⟨v, e1, e2⟩ := dpa_get (i := i) h2 (by simpa using e)
      exact ⟨v, by simpa using e1, e2⟩
theorem dpa_get2 : ∀ {vs : List V} {ds : List PyData} {i : Nat} {v : V}, DpAll K H vs ds → vs[i]? = some v → ∃ d, ds[i]? = some d ∧ Dp K H v d := fun {vs ds i v} h e => by
  have hi : i < ds.length := by
    rw [← dpa_len h]; exact (List.getElem?_eq_some_iff.mp e).1
  obtain ⟨v', e1, e2⟩ := dpa_get h (List.getElem?_eq_getElem hi)
  rw [e] at e1
  cases e1
  exact ⟨_, List.getElem?_eq_getElem hi, e2⟩
theorem dpa_app : ∀ {vs : List V} {ds : List PyData} {ws : List V} {es : List PyData}, DpAll K H vs ds → DpAll K H ws es → DpAll K H (vs ++ ws) (ds ++ es)
  | _, [], _, _, h, g => by cases h; exact g
  | _, d :: ds, _, _, h, g => by
    cases h with
    | cons h1 h2 => exact .cons h1 (dpa_app h2 g)
theorem dpa_one (h : Dp K H v d) : DpAll K H [v] [d] := .cons h .nil
theorem dpa_take : ∀ {vs : List V} {ds : List PyData} (n : Nat), DpAll K H vs ds → DpAll K H (vs.take n) (ds.take n)
  | _, _, 0, h => by simp; exact .nil
  | _, [], n + 1, h => by cases h; exact .nil
  | _, d :: ds, n + 1, h => by
    cases h with
    | cons h1 h2 => exact .cons h1 (dpa_take n h2)
theorem dpa_drop : ∀ {vs : List V} {ds : List PyData} (n : Nat), DpAll K H vs ds → DpAll K H (vs.drop n) (ds.drop n)
  | _, _, 0, h => h
  | _, [], n + 1, h => by cases h; exact .nil
  | _, d :: ds, n + 1, h => by
    cases h with
    | cons h1 h2 => exact dpa_drop n h2
theorem dpa_ints : ∀ (ns : List Int), DpAll K H (ns.map V.int) (ns.map PyData.int)
  | [] => .nil
  | n :: ns => .cons (.int n) (dpa_ints ns)
theorem dpa_ints_inv : ∀ {vs : List V} {ns : List Int}, DpAll K H vs (ns.map PyData.int) → vs = ns.map V.int
  | _, [], h => by cases h; rfl
  | _, n :: ns, h => by
    cases h with
    | cons h1 h2 => cases h1; rw [dpa_ints_inv h2]; rfl
theorem dpa_strs : ∀ (ns : List Str), DpAll K H (ns.map V.str) (ns.map PyData.str)
  | [] => .nil
  | n :: ns => .cons (.str n) (dpa_strs ns)
theorem dpa_strs_inv : ∀ {vs : List V} {ns : List Str}, DpAll K H vs (ns.map PyData.str) → vs = ns.map V.str
  | _, [], h => by cases h; rfl
  | _, n :: ns, h => by
    cases h with
    | cons h1 h2 => cases h1; rw [dpa_strs_inv h2]; rfl
theorem dp_newL (h : H a = some (.lst xs)) (g : DpAll K H xs ds) : Dp K H (.ref a) (.list ds) := .lst (.of h) g
theorem dp_newT (h : H a = some (.tup xs)) (g : DpAll K H xs ds) : Dp K H (.ref a) (.tuple ds) := .tup (.of h) g
end

/-! ### readings, step by step -/
def rB (x : V) (H : Hp) (Q : Bool → Hp → Prop) : Prop := ∃ k, x = .bl k ∧ Q k H
def rBV (x : V) (A : Bool → Prop) : Prop := ∃ c, x = .bl c ∧ A c
def rDG (x y : V) (H : Hp) (Q : VK) : Prop := ∃ a v, x = .ref a ∧ DGet H a y (some v) ∧ Q v H
def rDP (x y v : V) (H : Hp) (Q : Hp → Prop) : Prop := ∃ a H4, x = .ref a ∧ DPut H a y v H4 ∧ Q H4
def r2V (vs : List V) (A : V → V → Prop) : Prop := ∃ v w, vs = [v, w] ∧ A v w
def rNewT (xs : List V) (H : Hp) (Q : VK) : Prop := xs.length ≤ sizeLine ∧ ∀ p, H p = none → Q (.ref p) (upd H p (.tup xs))
def rNewL (xs : List V) (H : Hp) (Q : VK) : Prop := xs.length ≤ sizeLine ∧ ∀ p, H p = none → Q (.ref p) (upd H p (.lst xs))
def rPI (x : V) (A : Option Int → Prop) : Prop := ∃ i, x = .int i ∧ A (some i)
section
variable {K : PySem.W.Frag} {σ : L2.St} {H : Hp} {Q : VK} {D : Ends} {v x y z : V} {i : Nat} {ta tb tc te : TE} {t u : TS} {c : TT} {g : TG} {tn : TA} {r : R2}
theorem w_seq (h : t { D with nx := u D } σ H) : tSeq t u D σ H := h
theorem w_next (h : D.nx σ H) : tNext D σ H := h
theorem w_asg (h : te σ H fun x H1 => D.nx (σ.set i (some x)) H1) : tAsg te (gName i) D σ H := h
theorem w_asgG (h : te σ H fun x H1 => g x σ H1 D.nx) : tAsg te g D σ H := h
theorem w_drop (h : te σ H fun _ H1 => D.nx σ H1) : tDrop te D σ H := h
theorem w_ret (h : te σ H D.rt) : tRet te D σ H := h
theorem w_retN (h : D.rt .non H) : tRetN D σ H := h
theorem w_brk (h : D.bk σ H) : tBreak D σ H := h
theorem w_cont (h : D.ct σ H) : tCont D σ H := h
theorem w_ifS (h : c σ H fun b H1 => if b = true then t D σ H1 else u D σ H1) : tIfS c t u D σ H := h
theorem w_var (h : σ[i]? = some (some v)) (q : Q v H) : tVar i σ H Q := ⟨v, h, q⟩
theorem w_c (q : Q v H) : tC v σ H Q := q
theorem w_op (h : ta σ H fun x H1 => tb σ H1 fun y H2 => r x y H2 Q) : tOp r ta tb σ H Q := h
theorem w_un {r : V → Hp → VK → Prop} (h : ta σ H fun x H1 => r x H1 Q) : tUn r ta σ H Q := h
theorem w_rI0 {g : Int → Int → V} {i j : Int} (q : Q (g i j) H) : rI0 g (.int i) (.int j) H Q := ⟨i, j, rfl, rfl, q⟩
theorem w_rI {C : Int → Int → Prop} {g : Int → Int → V} {i j : Int} (hc : C i j) (q : Q (g i j) H) : rI C g (.int i) (.int j) H Q := ⟨i, j, rfl, rfl, hc, q⟩
theorem w_rU {g : Int → V} {i : Int} (q : Q (g i) H) : rU g (.int i) H Q := ⟨i, rfl, q⟩
theorem w_eqI {i j : Int} (q : Q (.bl (decide (i = j))) H) : rEq (.int i) (.int j) H Q := ⟨rfl, by
  rw [dec_int, show (i == j) = decide (i = j) from rfl]; exact q⟩
theorem w_neI {i j : Int} (q : Q (.bl (!decide (i = j))) H) : rNe (.int i) (.int j) H Q := ⟨rfl, by
  rw [dec_int, show (i == j) = decide (i = j) from rfl]; exact q⟩
theorem w_rEq (hs : scal x y = true) (q : Q (.bl (decide (x = y))) H) : rEq x y H Q := ⟨hs, q⟩
theorem w_rNe (hs : scal x y = true) (q : Q (.bl (!decide (x = y))) H) : rNe x y H Q := ⟨hs, q⟩
theorem w_tI (h : c σ H fun b H1 => if b = true then ta σ H1 Q else tb σ H1 Q) : tIf c ta tb σ H Q := h
theorem w_tTest {Q : Bool → Hp → Prop} (h : te σ H fun x H' => rB x H' Q) : tTest te σ H Q := h
theorem w_tB {Q : Bool → Hp → Prop} (h : te σ H fun x H' => rB x H' Q) : tB te σ H Q := h
theorem w_bl {b : Bool} {Q : Bool → Hp → Prop} (h : Q b H) : rB (.bl b) H Q := ⟨b, rfl, h⟩
theorem w_blV {b : Bool} {A : Bool → Prop} (h : A b) : rBV (.bl b) A := ⟨b, rfl, h⟩
theorem w_and {t u : TT} {Q : Bool → Hp → Prop} (h : t σ H fun c H1 => if c = true then u σ H1 Q else Q false H1) : tAnd t u σ H Q := h
theorem w_or {t u : TT} {Q : Bool → Hp → Prop} (h : t σ H fun c H1 => if c = true then Q true H1 else u σ H1 Q) : tOr t u σ H Q := h
theorem w_not {t : TT} {Q : Bool → Hp → Prop} (h : t σ H fun c H1 => Q (!c) H1) : tNot t σ H Q := h
theorem w_andV (h : ta σ H fun x H1 => rBV x fun c => if c = true then tb σ H1 Q else Q (.bl false) H1) : tAndV ta tb σ H Q := h
theorem w_orV (h : ta σ H fun x H1 => rBV x fun c => if c = true then Q (.bl true) H1 else tb σ H1 Q) : tOrV ta tb σ H Q := h
theorem w_notV (h : ta σ H fun x H1 => rBV x fun c => Q (.bl (!c)) H1) : tNotV ta σ H Q := h
theorem w_chain {r r' : R2} (h : ta σ H fun x H1 => tb σ H1 fun y H2 => r x y H2 fun z H3 => rBV z fun k => if k = true then tc σ H3 fun w' H4 => r' y w' H4 Q else Q (.bl false) H3) : tChain r r' ta tb tc σ H Q := h
theorem w_nil {Q : List V → Hp → Prop} (q : Q [] H) : tNil σ H Q := q
theorem w_cons {Q : List V → Hp → Prop} (h : ta σ H fun x H1 => tn σ H1 fun xs H2 => Q (x :: xs) H2) : tCons ta tn σ H Q := h
theorem w_call {sp : Sp} {dvs : List V} {E : XK} (h : tn σ H fun vs H1 => sp (vs ++ dvs) H1 Q E) : tCall sp dvs E tn σ H Q := h
theorem w_cb {r : List V → Hp → VK → Prop} (h : tn σ H fun vs H1 => r vs H1 Q) : tCB r tn σ H Q := h
theorem w_tup (h : tn σ H fun xs H1 => rNewT xs H1 Q) : tTup tn σ H Q := h
theorem w_lst (h : tn σ H fun xs H1 => rNewL xs H1 Q) : tLst tn σ H Q := h
theorem w_newT {xs : List V} {ds : List PyData} (hl : xs.length ≤ sizeLine) (hd : DpAll K H xs ds) (q : ∀ p H', H p = none → Same H H' → Dp K H' (.ref p) (.tuple ds) → Q (.ref p) H') :
    rNewT xs H Q :=
  ⟨hl, fun p hp => q p _ hp (same_new hp) (dp_newT upd_same (dpa_same (same_new hp) hd))⟩
theorem w_newL {xs : List V} {ds : List PyData} (hl : xs.length ≤ sizeLine) (hd : DpAll K H xs ds) (q : ∀ p H', H p = none → Same H H' → H' p = some (.lst xs) → Dp K H' (.ref p) (.list ds) → Q (.ref p) H') :
    rNewL xs H Q :=
  ⟨hl, fun p hp => q p _ hp (same_new hp) upd_same (dp_newL upd_same (dpa_same (same_new hp) hd))⟩
theorem w_ite {b : Bool} {A B : Prop} (h1 : b = true → A) (h2 : b = false → B) : if b = true then A else B := by
  cases b with
  | true => rw [if_pos rfl]; exact h1 rfl
  | false => rw [if_neg Bool.false_ne_true]; exact h2 rfl
theorem w_iteD {P : Prop} [Decidable P] {A B : Prop} (h1 : P → A) (h2 : ¬ P → B) : if decide P = true then A else B := by
  by_cases h : P
  · rw [if_pos (decide_eq_true h)]; exact h1 h
  · rw [if_neg (by simpa using h)]; exact h2 h
theorem w_iteND {P : Prop} [Decidable P] {A B : Prop} (h1 : ¬ P → A) (h2 : P → B) : if (!decide P) = true then A else B := by
  by_cases h : P
  · rw [decide_eq_true h]; simpa using h2 h
  · rw [decide_eq_false h]; simpa using h1 h
theorem w_iteT {A B : Prop} (h : A) : if true = true then A else B := by rw [if_pos rfl]; exact h
theorem w_iteNT {A B : Prop} (h : B) : if (!true) = true then A else B := by rw [Bool.not_true, if_neg Bool.false_ne_true]; exact h
theorem w_iteNF {A B : Prop} (h : A) : if (!false) = true then A else B := by rw [Bool.not_false, if_pos rfl]; exact h
theorem w_iteF {A B : Prop} (h : B) : if false = true then A else B := by rw [if_neg Bool.false_ne_true]; exact h
end
end Tw
namespace Tw
open PySem PySem.Spec PyProof.Rows L2
/-! ### rules by data -/
section
variable {X : Cx}
def rLen (K : PySem.W.Frag) : List V → Hp → VK → Prop := fun xs H Q => ∃ x n, xs = [x] ∧ LenV K x H n ∧ Q (.int n) H
theorem cl_len {K : PySem.W.Frag} (h : X.K = K := by rfl) : CallR X (.builtin "len") (rLen K) := h ▸ call_len
def rInt : List V → Hp → VK → Prop := fun xs H Q => (∃ i, xs = [.int i] ∧ Q (.int i) H) ∨ ∃ k, xs = [.bl k] ∧ Q (.int (if k then 1 else 0)) H
theorem cl_int : CallR X (.type "int") rInt := call_int1
def rStrI : List V → Hp → VK → Prop := fun xs H Q => ∃ i, xs = [.int i] ∧ i.natAbs.log2 < 1920 ∧ Q (.str (toString i)) H
theorem cl_strI : CallR X (.type "str") rStrI := call_str_int
def rTupOf (K : PySem.W.Frag) : List V → Hp → VK → Prop := fun xs H Q => ∃ p ys, xs = [.ref p] ∧ ((SqL K H p ys ∧ ∀ l, H l = none → Q (.ref l) (upd H l (.tup ys))) ∨ (SqT K H p ys ∧ Q (.ref p) H))
def rMax2 : List V → Hp → VK → Prop := fun xs H Q => ∃ i j, xs = [.int i, .int j] ∧ Q (.int (if j > i then j else i)) H
theorem cl_max2 (hc : X.calm = true) : CallR X (.builtin "max") rMax2 := call_max2 hc
def rMin2 : List V → Hp → VK → Prop := fun xs H Q => ∃ i j, xs = [.int i, .int j] ∧ Q (.int (if j < i then j else i)) H
theorem cl_min2 (hc : X.calm = true) : CallR X (.builtin "min") rMin2 := call_min2 hc
theorem pe_cint {x : Str} {pos : Pos} {i : Int} {t : Tok} (hg : Gl X x) (hm : X.mg x = some (.int i t)) (hd : (x == ("__debug__" : Str)) = false := by decide) : PE X (.Name x pos) (tC (.int i)) := pe_glob hg hm (show RelV (.int i) _ from ⟨t, rfl⟩) hd
theorem cl_tup {K : PySem.W.Frag} (h : X.K = K := by rfl) : CallR X (.type "tuple") (rTupOf K) := h ▸ call_tuple_of
def rLstOf (K : PySem.W.Frag) : List V → Hp → VK → Prop := fun xs H Q => ∃ p ys, xs = [.ref p] ∧ (SqL K H p ys ∨ SqT K H p ys) ∧ ∀ l, H l = none → Q (.ref l) (upd H l (.lst ys))
theorem cl_lst {K : PySem.W.Frag} (h : X.K = K := by rfl) : CallR X (.type "list") (rLstOf K) := h ▸ call_list_of
theorem ix_listK {K : PySem.W.Frag} (h : X.K = K := by rfl) : IxR X (rIxL K) := h ▸ ix_list
theorem ix_tupK {K : PySem.W.Frag} (h : X.K = K := by rfl) : IxR X (rIxT K) := h ▸ ix_tup
theorem op_eqK {K : PySem.W.Frag} (hu : X.A.units + 64 < cLine) (h : X.K = K := by rfl) : OpR X (compareOp .Eq) (rEqD K) := h ▸ op_eqD hu
theorem op_neK {K : PySem.W.Frag} (hu : X.A.units + 64 < cLine) (h : X.K = K := by rfl) : OpR X (compareOp .NotEq) (rNeD K) := h ▸ op_neD hu
theorem sl_listK {K : PySem.W.Frag} (h : X.K = K := by rfl) : SlR X (rSlL K) := h ▸ sl_list
theorem pi_listK {K : PySem.W.Frag} {tg l : Expr} {tl : TE} (hl : PE X l tl) (h : X.K = K := by rfl) : PI X tg l (iList K tl) := h ▸ pi_list hl
theorem pi_tupK {K : PySem.W.Frag} {tg l : Expr} {tl : TE} (hl : PE X l tl) (h : X.K = K := by rfl) : PI X tg l (iTup K tl) := h ▸ pi_tup hl
def rAddStr : R2 := fun x y H Q => ∃ i j, x = .str i ∧ y = .str j ∧ i.length + j.length ≤ sizeLine ∧ Q (.str (i ++ j)) H
theorem op_addS : OpR X (binaryOp .Add) rAddStr := op_add_str
theorem op_catL : OpR X (binaryOp .Add) rCat := op_cat
def rJoin (K : PySem.W.Frag) : V → List V → Hp → VK → Prop := fun x xs H Q => ∃ a p, ∃ ys : List Str, x = .str a ∧ xs = [.ref p] ∧ (SqL K H p (ys.map V.str) ∨ SqT K H p (ys.map V.str)) ∧ (ys.map (·.length)).sum + ys.length * a.length ≤ 16777216 ∧ Q (.str (Txt.join a ys)) H
def tTru (K : PySem.W.Frag) (ta : TE) : TT := fun σ H Q => ta σ H fun x H' => ∃ k, TruV K x H' k ∧ Q k H'
theorem pt_tru {K : PySem.W.Frag} {a : Expr} {ta : TE} (ha : PE X a ta) (he : ∀ whole, isTrue a X.env whole = (do let v ← whole; standAt a.pos; holding [v] (truthy v))) (h : X.K = K := by rfl) : PT X a (tTru K ta) := h ▸ pt_truth ha he
end
end Tw

namespace Tw
open PySem PySem.Spec PyProof.Rows L2
section
variable {X : Cx}
theorem pe_joinD {K : PySem.W.Frag} {o e : Expr} {to te : TE} {apos pos : Pos} (ho : PE X o to) (he : PE X e te) (h : X.K = K := by rfl) (hs : starEach [e] X.env = [(false, eval e X.env)] := by rfl) (hbase : attributeBase o "join" X.env (eval o X.env) = eval o X.env := by rfl) (hline : (apos.endLine == pos.line) = true := by rfl) :
    PE X (.Call (.Attribute o "join" apos) [e] [] pos) (tM1 (rJoin K) to te) := h ▸ pe_join ho he hs hbase hline
end
section
variable {K : PySem.W.Frag} {σ : L2.St} {H : Hp} {Q : VK} {D : Ends} {v x y z : V} {d e : PyData} {ds es : List PyData} {i : Nat} {to ta tb tc te : TE} {t u : TS} {tn : TA}
theorem w_lenL (h : Dp K H v (.list ds)) (q : Q (.int (ds.length : Int)) H) : rLen K [v] H Q := by
  obtain ⟨a, xs, rfl, hs, ha⟩ := dp_lst h
  exact ⟨.ref a, ds.length, rfl, .inl ⟨xs, hs, (dpa_len ha).symm⟩, q⟩
theorem w_lenT (h : Dp K H v (.tuple ds)) (q : Q (.int (ds.length : Int)) H) : rLen K [v] H Q := by
  obtain ⟨a, xs, rfl, hs, ha⟩ := dp_tup h
  exact ⟨.ref a, ds.length, rfl, .inr ⟨xs, hs, (dpa_len ha).symm⟩, q⟩
theorem w_lenS {x : Str} (h : x.length ≤ sizeLine) (q : Q (.int (x.length : Int)) H) : rLen K [.str x] H Q := ⟨.str x, x.length, rfl, ⟨h, rfl⟩, q⟩
theorem w_int {n : Int} (q : Q (.int n) H) : rInt [.int n] H Q := .inl ⟨n, rfl, q⟩
theorem w_strI {n : Int} (h : n.natAbs.log2 < 1920) (q : Q (.str (toString n)) H) : rStrI [.int n] H Q := ⟨n, rfl, h, q⟩
theorem w_max2 {i j : Int} (q : ∀ r, r = max i j → Q (.int r) H) : rMax2 [.int i, .int j] H Q := ⟨i, j, rfl, q _ (by split <;> omega)⟩
theorem w_min2 {i j : Int} (q : ∀ r, r = min i j → Q (.int r) H) : rMin2 [.int i, .int j] H Q := ⟨i, j, rfl, q _ (by split <;> omega)⟩
theorem w_tupOf (h : Dp K H v (.list ds)) (q : ∀ p H', H p = none → Same H H' → Dp K H' (.ref p) (.tuple ds) → Q (.ref p) H') : rTupOf K [v] H Q := by
  obtain ⟨a, xs, rfl, hs, ha⟩ := dp_lst h
  exact ⟨a, xs, rfl, .inl ⟨hs, fun l hl => q l _ hl (same_new hl) (dp_newT upd_same (dpa_same (same_new hl) ha))⟩⟩
theorem w_tupOfT (h : Dp K H v (.tuple ds)) (q : ∀ v, Dp K H v (.tuple ds) → Q v H) : rTupOf K [v] H Q := by
  obtain ⟨a, xs, rfl, hs, ha⟩ := dp_tup h
  exact ⟨a, xs, rfl, .inr ⟨hs, q _ h⟩⟩
theorem w_lstOfT (h : Dp K H v (.tuple ds)) (q : ∀ p H' xs, H p = none → Same H H' → H' p = some (.lst xs) → Dp K H' (.ref p) (.list ds) → Q (.ref p) H') : rLstOf K [v] H Q := by
  obtain ⟨a, xs, rfl, hs, ha⟩ := dp_tup h
  exact ⟨a, xs, rfl, .inr hs, fun l hl => q l _ xs hl (same_new hl) upd_same (dp_newL upd_same (dpa_same (same_new hl) ha))⟩
theorem w_lstOfL (h : Dp K H v (.list ds)) (q : ∀ p H' xs, H p = none → Same H H' → H' p = some (.lst xs) → Dp K H' (.ref p) (.list ds) → Q (.ref p) H') : rLstOf K [v] H Q := by
  obtain ⟨a, xs, rfl, hs, ha⟩ := dp_lst h
  exact ⟨a, xs, rfl, .inl hs, fun l hl => q l _ xs hl (same_new hl) upd_same (dp_newL upd_same (dpa_same (same_new hl) ha))⟩
theorem w_addS {x y : Str} (h : x.length + y.length ≤ sizeLine) (q : Q (.str (x ++ y)) H) : rAddStr (.str x) (.str y) H Q := ⟨x, y, rfl, rfl, h, q⟩
/-- an item by a place that is known to be a number -/
theorem w_ixL {n : Int} {j : Nat} (h : Dp K H v (.list ds)) (hn : n = (j : Int)) (hd : ds[j]? = some d) (q : ∀ v', Dp K H v' d → Q v' H) : rIxL K v (.int n) H Q := by
  obtain ⟨a, xs, rfl, hs, ha⟩ := dp_lst h
  obtain ⟨v', e1, e2⟩ := dpa_get ha hd
  exact ⟨a, xs, n, v', rfl, rfl, hs, at_of hn e1, q v' e2⟩
theorem w_ixT {n : Int} {j : Nat} (h : Dp K H v (.tuple ds)) (hn : n = (j : Int)) (hd : ds[j]? = some d) (q : ∀ v', Dp K H v' d → Q v' H) : rIxT K v (.int n) H Q := by
  obtain ⟨a, xs, rfl, hs, ha⟩ := dp_tup h
  obtain ⟨v', e1, e2⟩ := dpa_get ha hd
  exact ⟨a, xs, n, v', rfl, rfl, hs, at_of hn e1, q v' e2⟩
theorem w_ixLI {n : Int} {ns : List Int} (h : Dp K H v (.list (ns.map PyData.int))) (h0 : 0 ≤ n) (h1 : n < (ns.length : Int)) (q : ∀ z, ns[n.toNat]? = some z → Q (.int z) H) : rIxL K v (.int n) H Q := by
  have hl : n.toNat < ns.length := by omega
  refine w_ixL (j := n.toNat) (d := .int ns[n.toNat]) h (by omega) (by simp [hl]) fun v' hv => ?_
  cases hv
  exact q _ (List.getElem?_eq_getElem hl)
theorem w_ixTI {n : Int} {ns : List Int} (h : Dp K H v (.tuple (ns.map PyData.int))) (h0 : 0 ≤ n) (h1 : n < (ns.length : Int)) (q : ∀ z, ns[n.toNat]? = some z → Q (.int z) H) : rIxT K v (.int n) H Q := by
  have hl : n.toNat < ns.length := by omega
  refine w_ixT (j := n.toNat) (d := .int ns[n.toNat]) h (by omega) (by simp [hl]) fun v' hv => ?_
  cases hv
  exact q _ (List.getElem?_eq_getElem hl)
theorem w_ixLast (h : Dp K H v (.list ds)) (hd : ds.getLast? = some d) (q : ∀ v', Dp K H v' d → Q v' H) : rIxL K v (.int (-1)) H Q := by
  obtain ⟨a, xs, rfl, hs, ha⟩ := dp_lst h
  rw [List.getLast?_eq_getElem?] at hd
  obtain ⟨v', e1, e2⟩ := dpa_get ha hd
  have hne : xs ≠ [] := fun z => by subst z; simp at e1
  have hx : xs = xs.dropLast ++ [xs.getLast hne] := (List.dropLast_concat_getLast hne).symm
  have e3 : v' = xs.getLast hne := by
    rw [← dpa_len ha, ← List.getLast?_eq_getElem?, List.getLast?_eq_getLast hne] at e1
    exact (Option.some.inj e1).symm
  refine ⟨a, xs, -1, v', rfl, rfl, hs, ?_, q v' e2⟩
  rw [hx, e3]; exact atI_last _ _
theorem w_ixLastT (h : Dp K H v (.tuple ds)) (hd : ds.getLast? = some d) (q : ∀ v', Dp K H v' d → Q v' H) : rIxT K v (.int (-1)) H Q := by
  obtain ⟨a, xs, rfl, hs, ha⟩ := dp_tup h
  rw [List.getLast?_eq_getElem?] at hd
  obtain ⟨v', e1, e2⟩ := dpa_get ha hd
  have hne : xs ≠ [] := fun z => by subst z; simp at e1
  have hx : xs = xs.dropLast ++ [xs.getLast hne] := (List.dropLast_concat_getLast hne).symm
  have e3 : v' = xs.getLast hne := by
    rw [← dpa_len ha, ← List.getLast?_eq_getElem?, List.getLast?_eq_getLast hne] at e1
    exact (Option.some.inj e1).symm
  refine ⟨a, xs, -1, v', rfl, rfl, hs, ?_, q v' e2⟩
  rw [hx, e3]; exact atI_last _ _
theorem w_ixS {s : Str} {n : Int} {j c : Nat} (hz : s.length ≤ sizeLine) (hn : n = (j : Int)) (hd : s.cps.toList[j]? = some c) (q : Q (.str ⟨#[c]⟩) H) : rIxS (.str s) (.int n) H Q :=
  ⟨s, n, c, rfl, rfl, hz, by rw [hn]; exact atI_nat hd, q⟩
theorem w_tIsN (q : Q (.bl (decide (x = .non))) H) : rIsN x .non H Q := ⟨rfl, q⟩
theorem w_tNotN (q : Q (.bl (!decide (x = .non))) H) : rNotN x .non H Q := ⟨rfl, q⟩
theorem w_bm {T : String} {r : V → List V → Hp → VK → Prop} (h : to σ H fun x H1 => tyV K T x H1 ∧ tn σ H1 fun xs H2 => r x xs H2 Q) : tBM K T r to tn σ H Q := h
theorem w_bm0 {T : String} {r : V → List V → Hp → VK → Prop} (h : to σ H fun x H1 => tyV K T x H1 ∧ r x [] H1 Q) : tBM0 K T r to σ H Q := h
theorem w_m1 {r : V → List V → Hp → VK → Prop} (h : to σ H fun x H1 => (∃ a, x = .str a) ∧ te σ H1 fun y H2 => r x [y] H2 Q) : tM1 r to te σ H Q := h
theorem w_isStr {s : Str} {A : Prop} (h : A) : (∃ a, V.str s = .str a) ∧ A := ⟨⟨s, rfl⟩, h⟩
theorem w_append {l : Addr} {xs : List V} (h : H l = some (.lst xs)) (hz : xs.length < sizeLine) (q : Q .non (upd H l (.lst (xs ++ [y])))) : rAppend (.ref l) [y] H Q := ⟨l, xs, y, rfl, rfl, h, hz, q⟩
theorem w_tyL {a : Addr} {xs : List V} {A : Prop} (h : H a = some (.lst xs)) (q : A) : tyV K "list" (.ref a) H ∧ A := ⟨.inl ⟨rfl, xs, .of h⟩, q⟩
theorem w_tyS {s : Str} {A : Prop} (q : A) : tyV K "str" (.str s) H ∧ A := ⟨rfl, q⟩
theorem w_join {s : Str} {ys : List Str} (h : Dp K H v (.list (ys.map PyData.str))) (hz : (ys.map (·.length)).sum + ys.length * s.length ≤ 16777216) (q : Q (.str (Txt.join s ys)) H) : rJoin K (.str s) [v] H Q := by
  obtain ⟨a, xs, rfl, hs, ha⟩ := dp_lst h
  rw [dpa_strs_inv ha] at hs
  exact ⟨s, a, ys, rfl, rfl, .inl hs, hz, q⟩
/-- a new list out of two -/
theorem w_catL {a b : Addr} {xs zs : List V} (h : H a = some (.lst xs)) (h' : H b = some (.lst zs)) (hz : xs.length + zs.length ≤ sizeLine) (q : ∀ p H', H p = none → Same H H' → H' p = some (.lst (xs ++ zs)) → Q (.ref p) H') : rCat (.ref a) (.ref b) H Q :=
  ⟨a, b, xs, zs, rfl, rfl, h, h', hz, fun p hp => q p _ hp (same_new hp) upd_same⟩
theorem w_dget {td ty : TE} (h : td σ H fun x H1 => ty σ H1 fun y H2 => rDG x y H2 Q) : tDGet td ty σ H Q := h
theorem w_dgS {k : Str} {kvs : List (Key × V)} {m : Addr} (h : H m = some (.dK kvs)) (e : valV kvs (.inr k) = some v) (q : Q v H) : rDG (.ref m) (.str k) H Q :=
  ⟨m, v, rfl, by rw [← e]; exact DGet.k (k := .inr k) h, q⟩
theorem w_dpS {k : Str} {kvs kvs' : List (Key × V)} {m : Addr} (h : H m = some (.dK kvs)) (e : putK kvs (.inr k) v = kvs') (hl : kvs.length < sizeLine) {Q : Hp → Prop} (q : ∀ H', Keep H H' → H' m = some (.dK kvs') → Q H') : rDP (.ref m) (.str k) v H Q := by
  subst e
  exact ⟨m, _, rfl, DPut.k (k := .inr k) h hl, q _ (keep_dict h) upd_same⟩
theorem w_dput {td ty tv : TE} (h : tv σ H fun v H1 => td σ H1 fun x H2 => ty σ H2 fun y H3 => rDP x y v H3 (D.nx σ)) : sDPut td ty tv D σ H := h
theorem w_par {a b : Nat} {ta : TA} (h : ta σ H fun vs H1 => r2V vs fun v w => D.nx ((σ.set a (some v)).set b (some w)) H1) : tPar a b ta D σ H := h
theorem w_par2 {v w : V} {A : V → V → Prop} (h : A v w) : r2V [v, w] A := ⟨v, w, rfl, h⟩
def r3V (vs : List V) (A : V → V → V → Prop) : Prop := ∃ u v w, vs = [u, v, w] ∧ A u v w
theorem w_par3 {a b c : Nat} {ta : TA} (h : ta σ H fun vs H1 => r3V vs fun u v w => D.nx (((σ.set a (some u)).set b (some v)).set c (some w)) H1) : tPar3 a b c ta D σ H := h
theorem w_par33 {u v w : V} {A : V → V → V → Prop} (h : A u v w) : r3V [u, v, w] A := ⟨u, v, w, rfl, h⟩
theorem w_eqB {a b : Bool} (q1 : a = b → Q (.bl true) H) (q2 : a ≠ b → Q (.bl false) H) : rEq (.bl a) (.bl b) H Q := ⟨rfl, by
  by_cases h : a = b
  · subst h; rw [decide_eq_true rfl]; exact q1 rfl
  · rw [decide_eq_false (fun z => h (V.bl.inj z))]; exact q2 h⟩
theorem w_neB {a b : Bool} (q1 : a = b → Q (.bl false) H) (q2 : a ≠ b → Q (.bl true) H) : rNe (.bl a) (.bl b) H Q := ⟨rfl, by
  by_cases h : a = b
  · subst h; rw [decide_eq_true rfl]; exact q1 rfl
  · rw [decide_eq_false (fun z => h (V.bl.inj z))]; exact q2 h⟩
theorem w_aug {te : TE} {ti : TIp} (h : σ[i]? = some (some x)) (q : te σ H fun y H1 => ti x y H1 fun z H2 => D.nx (σ.set i (some z)) H2) : tAug i te ti D σ H := ⟨x, h, q⟩
theorem w_gTup {n : Nat} {tg : TGs} {Q : L2.St → Hp → Prop} {a : Addr} {xs : List V} (hs : SqT K H a xs) (hn : xs.length = n) (q : tg xs σ H Q) : gTup K n tg (.ref a) σ H Q := ⟨a, xs, rfl, hs, hn, q⟩
theorem w_gTup2 {i j : Nat} {Q : L2.St → Hp → Prop} {d e : PyData} (h : Dp K H v (.tuple [d, e])) (q : ∀ v1 v2, Dp K H v1 d → Dp K H v2 e → Q ((σ.set i (some v1)).set j (some v2)) H) : gTup K 2 (gCons (gName i) (gCons (gName j) gNil)) v σ H Q := by
  obtain ⟨a, xs, rfl, hs, ha⟩ := dp_tup h
  cases ha with
  | cons h1 h2 => cases h2 with
    | cons h3 h4 => cases h4; exact ⟨a, _, rfl, hs, rfl, _, _, rfl, _, _, rfl, rfl, q _ _ h1 h3⟩
theorem w_slice {r : V → Option Int → Option Int → Hp → VK → Prop} {tl th : TO} (h : te σ H fun x H1 => tl σ H1 fun l H2 => th σ H2 fun u H3 => r x l u H3 Q) : tSl r te tl th σ H Q := h
theorem w_noPart {Q : Option Int → Hp → Prop} (h : Q none H) : tNoPart σ H Q := h
theorem w_part {Q : Option Int → Hp → Prop} (h : te σ H fun x H1 => rPI x fun o => Q o H1) : tPart te σ H Q := h
theorem w_pint {n : Int} {A : Option Int → Prop} (h : A (some n)) : rPI (.int n) A := ⟨n, rfl, h⟩
theorem w_slL {lo hi : Option Int} {ds' : List PyData} (h : Dp K H v (.list ds)) (hc : ∀ xs, xs.length = ds.length → DpAll K H xs ds → DpAll K H (cutV xs lo hi) ds') (q : ∀ p H' xs, H p = none → Same H H' → H' p = some (.lst xs) → Dp K H' (.ref p) (.list ds') → Q (.ref p) H') : rSlL K v lo hi H Q := by
  obtain ⟨a, xs, rfl, hs, ha⟩ := dp_lst h
  exact ⟨a, xs, rfl, hs, fun p hp => q p _ _ hp (same_new hp) upd_same (dp_newL upd_same (dpa_same (same_new hp) (hc xs (dpa_len ha) ha)))⟩
end
/-- a text's signs, a text of signs -/
theorem wideX {i j : Int} {a b : Nat} (ha : i.natAbs < 2 ^ a) (hb : j.natAbs < 2 ^ b) (h : a + b ≤ 134217728) : CMulX i j := mulx_ok ha hb h
theorem mulS {i j : Int} (ha : -(2 ^ 250) < i ∧ i < 2 ^ 250) (hb : -(2 ^ 250) < j ∧ j < 2 ^ 250) : CMulX i j := mulx_ok (a := 250) (b := 250) (by omega) (by omega) (by decide)
theorem divS {i j : Int} (h : 0 < j ∧ j < 2 ^ 250) : CDivW i j := wide_div (b := 250) h.1 (by omega) (by decide) (by decide)
end Tw
namespace Tw
open PySem PySem.Spec PyProof.Rows L2
def rMod : R2 := rI (fun _ j => 0 < j) fun i j => .int (i % j)
theorem op_modD {X : Cx} : OpR X (binaryOp .Mod) rMod := op_mod
theorem w_rMod {H : Hp} {Q : VK} {i j : Int} (hc : 0 < j) (q : Q (.int (i % j)) H) : rMod (.int i) (.int j) H Q := ⟨i, j, rfl, rfl, hc, q⟩
/-- the rest as a letter -/
theorem w_rModA {H : Hp} {Q : VK} {i j : Int} (hc : 0 < j) (q : ∀ r, r = i % j → 0 ≤ r → r < j → Q (.int r) H) : rMod (.int i) (.int j) H Q :=
  ⟨i, j, rfl, rfl, hc, q _ rfl (Int.emod_nonneg _ (by omega)) (Int.emod_lt_of_pos _ hc)⟩
theorem w_rModB {H : Hp} {Q : VK} {i j : Int} (hc : 0 < j) (q : ∀ r, 0 ≤ r → r < j → Q (.int r) H) : rMod (.int i) (.int j) H Q :=
  w_rModA hc fun r _ => q r
def rWB (W : Nat → L2.St → Hp → Prop) (m : Nat) (tb : TS) (D : Ends) (σ : L2.St) (H1 : Hp) : Prop := ∃ N : L2.St → Hp → Prop, (∀ σ' H', N σ' H' → ∃ m', m' < m ∧ W m' σ' H') ∧ tb { D with nx := N, ct := N, bk := D.nx } σ H1
theorem w_wb {W : Nat → L2.St → Hp → Prop} {m : Nat} {tb : TS} {D : Ends} {σ : L2.St} {H1 : Hp} (h : tb { D with nx := fun σ' H' => ∃ m', m' < m ∧ W m' σ' H', ct := fun σ' H' => ∃ m', m' < m ∧ W m' σ' H', bk := D.nx } σ H1) : rWB W m tb D σ H1 :=
  ⟨_, fun _ _ h => h, h⟩
theorem whl_by {c : TT} {tb : TS} {D : Ends} {σ : L2.St} {H : Hp} (W : Nat → L2.St → Hp → Prop) (m0 : Nat) (h0 : W m0 σ H) (hs : ∀ m σ H, W m σ H → c σ H fun b H1 => if b = true then rWB W m tb D σ H1 else D.nx σ H1) : tWhile c tb D σ H :=
  ⟨W, ⟨m0, h0⟩, hs⟩
/-- two ways of an expression meet behind it -/
theorem w_meet {t : TE} {σ : L2.St} {H : Hp} {Q : VK} (Pm : V → Hp → Prop) (h : ∀ Q' : VK, (∀ v H', Pm v H' → Q' v H') → t σ H Q') (k : ∀ v H', Pm v H' → Q v H') : t σ H Q := h Q k
/-- .. of a statement -/
theorem w_meetS {t : TS} {D : Ends} {σ : L2.St} {H : Hp} (Pm : L2.St → Hp → Prop) (h : ∀ nx' : L2.St → Hp → Prop, (∀ σ' H', Pm σ' H' → nx' σ' H') → t { D with nx := nx' } σ H) (k : ∀ σ' H', Pm σ' H' → D.nx σ' H') : t D σ H := h D.nx k
theorem cxK {CX : CXT} {P : Program} {w : World} {K : PySem.W.Frag} {mg : Str → Option Value} {base : Heap} {N : List Str} {qual : Str} {scope : Scope} {f : Addr} {cd : Value} {A : Around} {outer : List Env} {s : Shared} {H : Hp} {E : XK} :
    (cxOf CX P w K mg base N qual scope f cd A outer s H E).nox.K = K := rfl
end Tw
namespace Tw
open PySem PySem.Spec PyProof.Rows L2
/-! ### slices, for -/
def cutD {α : Type} (ds : List α) (lo hi : Option Int) : List α := (ds.drop (HT.sIx ds.length 0 lo)).take (HT.sIx ds.length ds.length hi - HT.sIx ds.length 0 lo)
theorem cutD_len {α : Type} (ds : List α) (lo hi : Option Int) : (cutD ds lo hi).length ≤ ds.length := by
  unfold cutD; rw [List.length_take, List.length_drop]; omega
theorem cutD_map {α β : Type} (f : α → β) (ds : List α) (lo hi : Option Int) : cutD (ds.map f) lo hi = (cutD ds lo hi).map f := by
  unfold cutD; rw [List.length_map, List.map_take, List.map_drop]
theorem cutD_from {α : Type} (ds : List α) {k : Int} (h : 0 ≤ k) : cutD ds (some k) none = ds.drop k.toNat := by
  obtain ⟨n, rfl⟩ := Int.eq_ofNat_of_zero_le h
  unfold cutD
  rw [show HT.sIx ds.length 0 (some (n : Int)) = min n ds.length from HT.sIx_nat _ _ _, HT.sIx_none, Int.toNat_natCast]
  by_cases hn : n ≤ ds.length
  · rw [Nat.min_eq_left hn, List.take_of_length_le (by rw [List.length_drop]; omega)]
  · rw [Nat.min_eq_right (by omega), List.drop_eq_nil_of_le (Nat.le_refl _), List.drop_eq_nil_of_le (by omega)]
    simp
theorem cutD_to {α : Type} (ds : List α) {k : Int} (h : 0 ≤ k) : cutD ds none (some k) = ds.take k.toNat := by
  obtain ⟨n, rfl⟩ := Int.eq_ofNat_of_zero_le h
  unfold cutD
  rw [show HT.sIx ds.length ds.length (some (n : Int)) = min n ds.length from HT.sIx_nat _ _ _, HT.sIx_none, Int.toNat_natCast, Nat.sub_zero, List.drop_zero]
  by_cases hn : n ≤ ds.length
  · rw [Nat.min_eq_left hn]
  · rw [Nat.min_eq_right (by omega), List.take_length, List.take_of_length_le (by omega)]
theorem cutD_both {α : Type} (ds : List α) {a b : Int} (h : 0 ≤ a) (h2 : 0 ≤ b) : cutD ds (some a) (some b) = (ds.take b.toNat).drop a.toNat := by
  obtain ⟨n, rfl⟩ := Int.eq_ofNat_of_zero_le h
  obtain ⟨k, rfl⟩ := Int.eq_ofNat_of_zero_le h2
  unfold cutD
  rw [show HT.sIx ds.length 0 (some (n : Int)) = min n ds.length from HT.sIx_nat _ _ _, show HT.sIx ds.length ds.length (some (k : Int)) = min k ds.length from HT.sIx_nat _ _ _, Int.toNat_natCast, Int.toNat_natCast, ← List.drop_take]
  have e1 : List.take (min k ds.length) ds = List.take k ds := by
    by_cases hk : k ≤ ds.length
    · rw [Nat.min_eq_left hk]
    · rw [Nat.min_eq_right (show ds.length ≤ k by omega), List.take_length, List.take_of_length_le (show ds.length ≤ k by omega)]
  rw [e1]
  by_cases hn : n ≤ ds.length
  · rw [Nat.min_eq_left hn]
  · rw [Nat.min_eq_right (show ds.length ≤ n by omega), List.drop_eq_nil_of_le (by rw [List.length_take]; omega), List.drop_eq_nil_of_le (by rw [List.length_take]; omega)]
theorem cutD_butlast {α : Type} (ds : List α) : cutD ds none (some (-1)) = ds.dropLast := by
  unfold cutD
  rw [HT.sIx_none]
  show (List.drop 0 ds).take ((if (-1 : Int) < 0 then ((-1 : Int) + (ds.length : Int)).toNat else min (-1 : Int).toNat ds.length) - 0) = _
  rw [if_pos (by decide), List.drop_zero, List.dropLast_eq_take]
  congr 1
  omega
theorem cutV_D (xs : List V) (lo hi : Option Int) : cutV xs lo hi = cutD xs lo hi := rfl
section
variable {K : PySem.W.Frag} {σ : L2.St} {H : Hp} {Q : VK} {D : Ends} {v x y z : V} {d e : PyData} {ds es : List PyData} {tl te : TE} {ta : TA} {tb : TS} {g : TG} {lo hi : Option Int}
theorem dpa_cut {vs : List V} (h : DpAll K H vs ds) : DpAll K H (cutD vs lo hi) (cutD ds lo hi) := by
  unfold cutD
  rw [dpa_len h]
  exact dpa_take _ (dpa_drop _ h)
theorem w_slD (h : Dp K H v (.list ds)) (q : ∀ p H' xs, H p = none → Same H H' → H' p = some (.lst xs) → Dp K H' (.ref p) (.list (cutD ds lo hi)) → Q (.ref p) H') : rSlL K v lo hi H Q := by
  obtain ⟨a, xs, rfl, hs, ha⟩ := dp_lst h
  exact ⟨a, xs, rfl, hs, fun p hp => q p _ _ hp (same_new hp) upd_same (dp_newL upd_same (dpa_same (same_new hp) (dpa_cut ha)))⟩
theorem w_slV {a : Addr} {xs : List V} (h : SqL K H a xs) (q : ∀ p H', H p = none → Same H H' → H' p = some (.lst (cutD xs lo hi)) → Q (.ref p) H') : rSlL K (.ref a) lo hi H Q :=
  ⟨a, xs, rfl, h, fun p hp => q p _ hp (same_new hp) upd_same⟩
theorem w_slT (h : Dp K H v (.tuple ds)) (q : ∀ p H', Same H H' → Dp K H' (.ref p) (.tuple (cutD ds lo hi)) → Q (.ref p) H') (hne : ¬ (HT.sIx ds.length 0 lo = 0 ∧ HT.sIx ds.length ds.length hi = ds.length)) : ∃ a xs, v = .ref a ∧ SqT K H a xs := by
  obtain ⟨a, xs, rfl, hs, ha⟩ := dp_tup h
  exact ⟨a, xs, rfl, hs⟩
/-- strings -/
theorem w_slS {s : Str} (hz : s.length ≤ sizeLine) (q : Q (.str ⟨(cutD s.cps.toList lo hi).toArray⟩) H) : rSlS (.str s) lo hi H Q := ⟨s, rfl, hz, q⟩
def rForL (K : PySem.W.Frag) (g : TG) (tb : TS) (D : Ends) (σ : L2.St) (x : V) (H1 : Hp) : Prop := ∃ a, x = .ref a ∧ (∃ xs, SqL K H1 a xs) ∧ ∃ W : Nat → Nat → L2.St → Hp → Prop, (∃ m, W 0 m σ H1) ∧ ∀ i m σ H, W i m σ H →
  ((Itl K a).stop i H ∧ D.nx σ H) ∨ ((Itl K a).go i H ∧ ∃ N : L2.St → Hp → Prop, (∀ σ' H', N σ' H' → ∃ m', m' < m ∧ W (i + 1) m' σ' H') ∧ ∀ x H', (Itl K a).yld i H x H' → g x σ H' fun σ2 H2 => tb { D with nx := N, ct := N, bk := D.nx } σ2 H2)
theorem w_forL (h : tl σ H fun x H1 => rForL K g tb D σ x H1) : tFor (iList K tl) g tb D σ H := h
def rForT (K : PySem.W.Frag) (g : TG) (tb : TS) (D : Ends) (σ : L2.St) (x : V) (H1 : Hp) : Prop := ∃ a, x = .ref a ∧ (∃ xs, SqT K H1 a xs) ∧ ∃ W : Nat → Nat → L2.St → Hp → Prop, (∃ m, W 0 m σ H1) ∧ ∀ i m σ H, W i m σ H →
  ((Itt K a).stop i H ∧ D.nx σ H) ∨ ((Itt K a).go i H ∧ ∃ N : L2.St → Hp → Prop, (∀ σ' H', N σ' H' → ∃ m', m' < m ∧ W (i + 1) m' σ' H') ∧ ∀ x H', (Itt K a).yld i H x H' → g x σ H' fun σ2 H2 => tb { D with nx := N, ct := N, bk := D.nx } σ2 H2)
theorem w_forT (h : tl σ H fun x H1 => rForT K g tb D σ x H1) : tFor (iTup K tl) g tb D σ H := h
def rForR (g : TG) (tb : TS) (D : Ends) (σ : L2.St) (lo : Int) (n : Nat) (H1 : Hp) : Prop := ∃ W : Nat → Nat → L2.St → Hp → Prop, (∃ m, W 0 m σ H1) ∧ ∀ i m σ H, W i m σ H →
  ((Itr lo n).stop i H ∧ D.nx σ H) ∨ ((Itr lo n).go i H ∧ ∃ N : L2.St → Hp → Prop, (∀ σ' H', N σ' H' → ∃ m', m' < m ∧ W (i + 1) m' σ' H') ∧ ∀ x H', (Itr lo n).yld i H x H' → g x σ H' fun σ2 H2 => tb { D with nx := N, ct := N, bk := D.nx } σ2 H2)
def rForR1 (g : TG) (tb : TS) (D : Ends) (σ : L2.St) (vs : List V) (H1 : Hp) : Prop := ∃ j : Int, vs = [.int j] ∧ -(2 ^ 62) ≤ j ∧ j < 2 ^ 62 ∧ rForR g tb D σ 0 j.toNat H1
def rForR2 (g : TG) (tb : TS) (D : Ends) (σ : L2.St) (vs : List V) (H1 : Hp) : Prop := ∃ i j : Int, vs = [.int i, .int j] ∧ (-(2 ^ 62) ≤ i ∧ i < 2 ^ 62 ∧ -(2 ^ 62) ≤ j ∧ j < 2 ^ 62) ∧ rForR g tb D σ i (j - i).toNat H1
theorem w_forR1 (h : ta σ H fun vs H1 => rForR1 g tb D σ vs H1) : tFor (iRng1 ta) g tb D σ H := h
theorem w_forR2 (h : ta σ H fun vs H1 => rForR2 g tb D σ vs H1) : tFor (iRng2 ta) g tb D σ H := h
def rForS (g : TG) (tb : TS) (D : Ends) (σ : L2.St) (v : V) (H1 : Hp) : Prop := ∃ x, v = .str x ∧ ∃ W : Nat → Nat → L2.St → Hp → Prop, (∃ m, W 0 m σ H1) ∧ ∀ i m σ H, W i m σ H →
  ((Its x).stop i H ∧ D.nx σ H) ∨ ((Its x).go i H ∧ ∃ N : L2.St → Hp → Prop, (∀ σ' H', N σ' H' → ∃ m', m' < m ∧ W (i + 1) m' σ' H') ∧ ∀ x' H', (Its x).yld i H x' H' → g x' σ H' fun σ2 H2 => tb { D with nx := N, ct := N, bk := D.nx } σ2 H2)
theorem w_forS (h : te σ H fun v H1 => rForS g tb D σ v H1) : tFor (iStr te) g tb D σ H := h
/-- a list walked: at each turn an item by its data -/
theorem forL_by (Pv : Nat → L2.St → Hp → Prop) (src : Dp K H x (.list ds)) (h0 : Pv 0 σ H) (hk : ∀ i σ' H', i ≤ ds.length → Pv i σ' H' → Keep H H')
    (hs : ∀ i d y σ' H', ds[i]? = some d → Dp K H' y d → Pv i σ' H' → g y σ' H' fun σ2 H2 => tb { D with nx := Pv (i + 1), ct := Pv (i + 1), bk := D.nx } σ2 H2) (hd : ∀ σ' H', Pv ds.length σ' H' → D.nx σ' H') : rForL K g tb D σ x H := by
  obtain ⟨a, xs, rfl, hq, ha⟩ := dp_lst src
  have hl := dpa_len ha
  refine ⟨a, rfl, ⟨xs, hq⟩, for_list (xs := xs) Pv h0 (fun i σ' H' hi p => (hk i σ' H' (by omega) p).seqL hq) (fun i y σ' H' hi p => ?_) (fun σ' H' p => hd σ' H' (by rw [← hl]; exact p))⟩
  obtain ⟨d, e1, e2⟩ := dpa_get2 ha hi
  exact hs i d y σ' H' e1 (dp_keep (hk i σ' H' (by have := (List.getElem?_eq_some_iff.mp e1).1; omega) p) e2) p
theorem forT_by (Pv : Nat → L2.St → Hp → Prop) (src : Dp K H x (.tuple ds)) (h0 : Pv 0 σ H) (hk : ∀ i σ' H', i ≤ ds.length → Pv i σ' H' → Keep H H')
    (hs : ∀ i d y σ' H', ds[i]? = some d → Dp K H' y d → Pv i σ' H' → g y σ' H' fun σ2 H2 => tb { D with nx := Pv (i + 1), ct := Pv (i + 1), bk := D.nx } σ2 H2) (hd : ∀ σ' H', Pv ds.length σ' H' → D.nx σ' H') : rForT K g tb D σ x H := by
  obtain ⟨a, xs, rfl, hq, ha⟩ := dp_tup src
  have hl := dpa_len ha
  refine ⟨a, rfl, ⟨xs, hq⟩, for_tup (xs := xs) Pv h0 (fun i σ' H' hi p => (hk i σ' H' (by omega) p).seqT hq) (fun i y σ' H' hi p => ?_) (fun σ' H' p => hd σ' H' (by rw [← hl]; exact p))⟩
  obtain ⟨d, e1, e2⟩ := dpa_get2 ha hi
  exact hs i d y σ' H' e1 (dp_keep (hk i σ' H' (by have := (List.getElem?_eq_some_iff.mp e1).1; omega) p) e2) p
theorem forR1_by {k : Int} (Pv : Nat → L2.St → Hp → Prop) (hz : -(2 ^ 62) ≤ k ∧ k < 2 ^ 62) (h0 : Pv 0 σ H)
    (hs : ∀ (i : Nat) σ' H', (i : Int) < k → Pv i σ' H' → g (.int (i : Int)) σ' H' fun σ2 H2 => tb { D with nx := Pv (i + 1), ct := Pv (i + 1), bk := D.nx } σ2 H2) (hd : ∀ σ' H', Pv k.toNat σ' H' → D.nx σ' H') : rForR1 g tb D σ [.int k] H :=
  ⟨k, rfl, hz.1, hz.2, for_range (lo := 0) (n := k.toNat) Pv h0 (fun i σ' H' hi p => by rw [Int.zero_add]; exact hs i σ' H' (by omega) p) hd⟩
theorem forR2_by {lo k : Int} (Pv : Nat → L2.St → Hp → Prop) (hz : -(2 ^ 62) ≤ lo ∧ lo < 2 ^ 62 ∧ -(2 ^ 62) ≤ k ∧ k < 2 ^ 62) (h0 : Pv 0 σ H)
    (hs : ∀ (i : Nat) σ' H', lo + (i : Int) < k → Pv i σ' H' → g (.int (lo + (i : Int))) σ' H' fun σ2 H2 => tb { D with nx := Pv (i + 1), ct := Pv (i + 1), bk := D.nx } σ2 H2) (hd : ∀ σ' H', Pv (k - lo).toNat σ' H' → D.nx σ' H') : rForR2 g tb D σ [.int lo, .int k] H :=
  ⟨lo, k, rfl, hz, for_range (lo := lo) (n := (k - lo).toNat) Pv h0 (fun i σ' H' hi p => hs i σ' H' (by omega) p) hd⟩
theorem forS_by {s : Str} (Pv : Nat → L2.St → Hp → Prop) (h0 : Pv 0 σ H)
    (hs : ∀ (i : Nat) c σ' H', s.cps.toList[i]? = some c → Pv i σ' H' → g (.str ⟨#[c]⟩) σ' H' fun σ2 H2 => tb { D with nx := Pv (i + 1), ct := Pv (i + 1), bk := D.nx } σ2 H2) (hd : ∀ σ' H', Pv s.length σ' H' → D.nx σ' H') : rForS g tb D σ (.str s) H := by
  refine ⟨s, rfl, fun i m σ H => m = s.length - i ∧ i ≤ s.length ∧ Pv i σ H, ⟨s.length, by simp, Nat.zero_le _, h0⟩, ?_⟩
  rintro i m σ H ⟨rfl, hi, p⟩
  by_cases hlt : i < s.length
  · refine .inr ⟨hlt, Pv (i + 1), fun σ' H' p' => ⟨s.length - (i + 1), by omega, rfl, hlt, p'⟩, fun x H' y => ?_⟩
    obtain ⟨e, c, hc, rfl⟩ := y
    subst e
    exact hs i c σ _ (by simpa using hc) p
  · have e : i = s.length := by omega
    subst e
    exact .inl ⟨Nat.le_refl _, hd σ H p⟩
theorem w_gName {j : Nat} {Q : L2.St → Hp → Prop} (q : Q (σ.set j (some v)) H) : gName j v σ H Q := q
theorem w_pw {P : Prop} (h : P) : P := h
end
end Tw
namespace Tw
open PySem PySem.Spec PyProof.Rows L2
/-! ### data without bools and dicts: == is equality -/
def pln : Nat → PyData → Bool
  | _, .none => true
  | _, .int _ => true
  | _, .str x => PyData.strOk x
  | k + 1, .list ds => ds.all (pln k)
  | k + 1, .tuple ds => ds.all (pln k)
  | _, _ => false
theorem pln_shape : ∀ (k : Nat) (d : PyData), pln k d = true → d.canLay0 = true ∧ d.depth ≤ k := by
  intro k
  induction k with
  | zero =>
    intro d h
    cases d <;> simp [pln] at h <;> simp [PyData.canLay0, PyData.depth, h]
  | succ k ih =>
    have all : ∀ ds : List PyData, ds.all (pln k) = true → PyData.canLayAll0 ds = true ∧ PyData.depthAll ds ≤ k := by
      intro ds
      induction ds with
      | nil => intro _; exact ⟨rfl, Nat.zero_le _⟩
      | cons d ds ihd =>
        intro h
        rw [List.all_cons, Bool.and_eq_true] at h
        obtain ⟨a, b⟩ := ih d h.1
        obtain ⟨a', b'⟩ := ihd h.2
        exact ⟨by simp [PyData.canLayAll0, a, a'], by simp only [PyData.depthAll]; omega⟩
    intro d h
    cases d with
    | list ds =>
      obtain ⟨a, b⟩ := all ds (by simpa [pln] using h)
      exact ⟨by simpa [PyData.canLay0] using a, by simp only [PyData.depth]; omega⟩
    | tuple ds =>
      obtain ⟨a, b⟩ := all ds (by simpa [pln] using h)
      exact ⟨by simpa [PyData.canLay0] using a, by simp only [PyData.depth]; omega⟩
    | none => simp [PyData.canLay0, PyData.depth]
    | int i => simp [PyData.canLay0, PyData.depth]
    | str x => simp [pln] at h; simp [PyData.canLay0, PyData.depth, h]
    | bool b => simp [pln] at h
    | dict kvs => simp [pln] at h
theorem pln_shaped {k : Nat} {d : PyData} (h : pln k d = true) (hk : k ≤ 64) : SeqAt.shaped d = true := by
  obtain ⟨a, b⟩ := pln_shape k d h
  unfold SeqAt.shaped
  rw [a, Bool.true_and, decide_eq_true]
  omega
theorem pln_eqv : ∀ (k l : Nat) (d e : PyData), pln k d = true → pln l e = true → (PyData.eqv d e = true ↔ d = e) := by
  intro k
  induction k with
  | zero =>
    intro l d e h1 h2
    cases d <;> simp [pln] at h1 <;> cases e <;> simp [PyData.eqv] <;> cases l <;> simp [pln] at h2
  | succ k ih =>
    have all : ∀ (l : Nat) (ds es : List PyData), ds.all (pln k) = true → es.all (pln l) = true → (PyData.eqvAll ds es = true ↔ ds = es) := by
      intro l ds
      induction ds with
      | nil => intro es _ _; cases es <;> simp [PyData.eqvAll]
      | cons d ds ihd =>
        intro es h1 h2
        cases es with
        | nil => simp [PyData.eqvAll]
        | cons e es =>
          rw [List.all_cons, Bool.and_eq_true] at h1 h2
          simp only [PyData.eqvAll, Bool.and_eq_true, List.cons.injEq]
          rw [ih l d e h1.1 h2.1, ihd es h1.2 h2.2]
    intro l d e h1 h2
    cases d with
    | list ds =>
      cases e with
      | list es =>
        cases l with
        | zero => simp [pln] at h2
        | succ l =>
          have := all l ds es (by simpa [pln] using h1) (by simpa [pln] using h2)
          simpa [PyData.eqv] using this
      | _ => simp [PyData.eqv]
    | tuple ds =>
      cases e with
      | tuple es =>
        cases l with
        | zero => simp [pln] at h2
        | succ l =>
          have := all l ds es (by simpa [pln] using h1) (by simpa [pln] using h2)
          simpa [PyData.eqv] using this
      | _ => simp [PyData.eqv]
    | none => cases e <;> simp [PyData.eqv]
    | int i => cases e <;> simp [PyData.eqv] <;> (cases l <;> simp [pln] at h2)
    | str x => cases e <;> simp [PyData.eqv]
    | bool b => simp [pln] at h1
    | dict kvs => simp [pln] at h1
theorem pln_ints {k : Nat} (ns : List Int) : pln (k + 1) (.list (ns.map PyData.int)) = true := by
  cases k <;> simp [pln, List.all_eq_true]
theorem pln_intsT {k : Nat} (ns : List Int) : pln (k + 1) (.tuple (ns.map PyData.int)) = true := by
  cases k <;> simp [pln, List.all_eq_true]
section
variable {K : PySem.W.Frag} {H : Hp} {Q : VK} {x y : V} {d e : PyData}
theorem w_eqP (h1 : Dp K H x d) (h2 : Dp K H y e) (p1 : pln 9 d = true) (p2 : pln 9 e = true) (q1 : d = e → Q (.bl true) H) (q2 : d ≠ e → Q (.bl false) H) : rEqD K x y H Q := by
  refine ⟨d, e, h1, h2, pln_shaped p1 (by decide), pln_shaped p2 (by decide), ?_⟩
  have r := pln_eqv _ _ d e p1 p2
  cases he : PyData.eqv d e with
  | true => exact q1 (r.mp he)
  | false => exact q2 (fun z => by rw [r.mpr z] at he; cases he)
theorem w_neP (h1 : Dp K H x d) (h2 : Dp K H y e) (p1 : pln 9 d = true) (p2 : pln 9 e = true) (q1 : d = e → Q (.bl false) H) (q2 : d ≠ e → Q (.bl true) H) : rNeD K x y H Q := by
  refine ⟨d, e, h1, h2, pln_shaped p1 (by decide), pln_shaped p2 (by decide), ?_⟩
  have r := pln_eqv _ _ d e p1 p2
  cases he : PyData.eqv d e with
  | true => exact q1 (r.mp he)
  | false => exact q2 (fun z => by rw [r.mpr z] at he; cases he)
end
/-! ### a dict written out -/
def rDisp (p : Addr) (ps : List (V × V)) (H2 : Hp) (Q : VK) : Prop := H2 p = some (.dK []) ∧ ∃ kvs : List (Key × V), ps = kvs.map (fun kv => (kV kv.1, kv.2)) ∧ kvs.length ≤ 15 ∧ Q (.ref p) (upd H2 p (.dK (mergeK [] kvs)))
theorem w_disp {σ : L2.St} {H : Hp} {Q : VK} {trs : List (TE × TE)} (h : ∀ p H0, H p = none → Same H H0 → H0 p = some (.dK []) → tPairs trs σ H0 fun ps H2 => rDisp p ps H2 Q) : tDisp trs σ H Q := fun p hp => h p _ hp (same_new hp) upd_same
theorem w_pp {σ : L2.St} {H : Hp} {Q : List (V × V) → Hp → Prop} {tk tv : TE} {r : List (TE × TE)} (h : tk σ H fun x H1 => tv σ H1 fun y H2 => tPairs r σ H2 fun ps H3 => Q ((x, y) :: ps) H3) : tPairs ((tk, tv) :: r) σ H Q := h
theorem w_pp0 {σ : L2.St} {H : Hp} {Q : List (V × V) → Hp → Prop} (h : Q [] H) : tPairs [] σ H Q := h
theorem pg_tupK {X : Cx} {K : PySem.W.Frag} {es : List Expr} {k : Nat} {t : TGs} {n : Nat} {pos : Pos} (hc : X.calm = true) (hh : PGs X es t) (h : X.K = K := by rfl)
    (hn : (assignEach es X.env).length = n := by rfl) (hst : (assignEach es X.env).findIdx? (·.1) = none := by rfl) : PG X (.Tuple es k pos) (gTup K n t) := h ▸ pg_tup hc hh hn hst
end Tw
namespace Tw
open PySem PySem.Spec PyProof.Rows L2
/-! ### the law's own drawing: its dict -/
def moKvs (left seed : Int) (c : Addr) (spot : Int) : List (Key × V) := [(.inr "left", .int left), (.inr "seed", .int seed), (.inr "cells", .ref c), (.inr "spot", .int spot)]
theorem mo_len {l s : Int} {c : Addr} {p : Int} : (moKvs l s c p).length < sizeLine := by show 4 < sizeLine; decide
/-- a number of the script, or a little more -/
structure Big (n : Int) : Prop where
  lt : n.natAbs < 2 ^ 1048600
theorem Big.mul {i j : Int} (h : Big i) (hb : -(2 ^ 250) < j ∧ j < 2 ^ 250) : CMulX i j := mulx_ok (a := 1048600) (b := 250) h.lt (by omega) (by decide)
theorem Big.bits {n : Int} (h : Builtin.Int.intBits n ≤ 1048576) : Big n := by
  have h1 : n.natAbs < 2 ^ Builtin.Int.intBits n := by
    by_cases h0 : n = 0
    · subst h0; decide
    · unfold Builtin.Int.intBits
      rw [if_neg (by simpa using h0)]
      exact Nat.lt_log2_self
  exact ⟨Nat.lt_of_lt_of_le h1 (Nat.pow_le_pow_right (by decide) (by omega))⟩
theorem Big.small {n : Int} (h : -(2 ^ 250) < n ∧ n < 2 ^ 250) : Big n := by
  exact ⟨Nat.lt_of_lt_of_le (show n.natAbs < 2 ^ 250 by omega) (Nat.pow_le_pow_right (by decide) (by decide))⟩
/-- the dict of the law's draws, at most b of which were made; its cells at c -/
def Mo (H : Hp) (m c : Addr) (b : Nat) : Prop := ∃ (left seed spot : Int) (ns : List Int),
  H m = some (.dK (moKvs left seed c spot)) ∧ H c = some (.lst (ns.map V.int)) ∧ 0 < ns.length ∧ ns.length ≤ 100 ∧ (∀ n ∈ ns, Big n) ∧ 0 ≤ seed ∧ seed < 2147483647 ∧ 0 ≤ spot ∧ spot ≤ b
theorem k_left_seed : ¬ Str.ofString "left" = Str.ofString "seed" := by decide +kernel
theorem k_left_cells : ¬ Str.ofString "left" = Str.ofString "cells" := by decide +kernel
theorem k_left_spot : ¬ Str.ofString "left" = Str.ofString "spot" := by decide +kernel
theorem k_seed_cells : ¬ Str.ofString "seed" = Str.ofString "cells" := by decide +kernel
theorem k_seed_spot : ¬ Str.ofString "seed" = Str.ofString "spot" := by decide +kernel
theorem k_cells_spot : ¬ Str.ofString "cells" = Str.ofString "spot" := by decide +kernel
theorem mo_left {l s : Int} {c : Addr} {p : Int} : valV (moKvs l s c p) (.inr "left") = some (.int l) := by simp [valV, moKvs]
theorem mo_seed {l s : Int} {c : Addr} {p : Int} : valV (moKvs l s c p) (.inr "seed") = some (.int s) := by simp [valV, moKvs, k_left_seed]
theorem mo_cells {l s : Int} {c : Addr} {p : Int} : valV (moKvs l s c p) (.inr "cells") = some (.ref c) := by simp [valV, moKvs, k_left_cells, k_seed_cells]
theorem mo_spot {l s : Int} {c : Addr} {p : Int} : valV (moKvs l s c p) (.inr "spot") = some (.int p) := by simp [valV, moKvs, k_left_spot, k_seed_spot, k_cells_spot]
theorem mo_put_left {l s : Int} {c : Addr} {p z : Int} : putK (moKvs l s c p) (.inr "left") (.int z) = moKvs z s c p := by
  simp [putK, moKvs, k_left_seed, k_left_cells, k_left_spot, Ne.symm k_left_seed, Ne.symm k_left_cells, Ne.symm k_left_spot]
theorem mo_put_spot {l s : Int} {c : Addr} {p z : Int} : putK (moKvs l s c p) (.inr "spot") (.int z) = moKvs l s c z := by
  simp [putK, moKvs, k_left_spot, k_seed_spot, k_cells_spot]
theorem Mo.mono {H : Hp} {m c : Addr} {a b : Nat} (h : Mo H m c a) (l : a ≤ b) : Mo H m c b := by
  obtain ⟨left, seed, spot, ns, h1, h2, h3, h4, h5, h6, h7, h8, h9⟩ := h
  exact ⟨left, seed, spot, ns, h1, h2, h3, h4, h5, h6, h7, h8, by omega⟩
theorem Mo.same {H H' : Hp} {m c : Addr} {a : Nat} (e : Same H H') (h : Mo H m c a) : Mo H' m c a := by
  obtain ⟨left, seed, spot, ns, h1, h2, h⟩ := h
  exact ⟨left, seed, spot, ns, e _ _ h1, e _ _ h2, h⟩
theorem Mo.ne {H : Hp} {m c : Addr} {a : Nat} {D : Addr} (h : Mo H m c a) (hD : H D = none) : c ≠ D := by
  obtain ⟨left, seed, spot, ns, h1, h2, h⟩ := h
  exact ne_of_none h2 hD
theorem Mo.upd {H : Hp} {m c : Addr} {a : Nat} {D : Addr} {o : HO} {xs : List V} (h : Mo H m c a) (hD : H D = some (.lst xs)) (n : c ≠ D) : Mo (upd H D o) m c a := by
  obtain ⟨left, seed, spot, ns, h1, h2, h⟩ := h
  refine ⟨left, seed, spot, ns, ?_, ?_, h⟩
  · rw [upd_ne (ne_of h1 hD (fun z => nomatch z))]; exact h1
  · rw [upd_ne n]; exact h2
theorem Mo.new {H : Hp} {m c : Addr} {a : Nat} {D : Addr} {o : HO} (h : Mo H m c a) (hD : H D = none) : Mo (L2.upd H D o) m c a := h.same (same_new hD)
/-! ### data without lists -/
mutual
def noL : PyData → Bool
  | .list _ => false
  | .dict _ => false
  | .tuple ds => noLs ds
  | .none => true
  | .bool _ => true
  | .int _ => true
  | .str _ => true
def noLs : List PyData → Bool
  | [] => true
  | d :: ds => noL d && noLs ds
end
mutual
theorem dp_upd {K : PySem.W.Frag} {H : Hp} {D : Addr} {o : HO} {xs0 : List V} (hD : H D = some (.lst xs0)) : ∀ (d : PyData) (v : V), noL d = true → Dp K H v d → Dp K (upd H D o) v d
  | .none, _, _, h => by cases h; exact .non
  | .bool b, _, _, h => by cases h; exact .bl b
  | .int i, _, _, h => by cases h; exact .int i
  | .str x, _, _, h => by cases h; exact .str x
  | .list ds, _, n, h => by simp [noL] at n
  | .tuple ds, _, n, h => by
    cases h with
    | tup hs ha =>
      refine .tup ?_ (dpa_upd hD ds _ (by simpa [noL] using n) ha)
      rcases hs with (hs | ⟨ob, hs⟩) | hs
      · exact .inl (.inl (by rw [upd_ne (ne_of hs hD (fun z => nomatch z))]; exact hs))
      · exact .inl (.inr ⟨ob, by rw [upd_ne (ne_of hs hD (fun z => nomatch z))]; exact hs⟩)
      · exact .inr hs
  | .dict _, _, n, h => by cases h
theorem dpa_upd {K : PySem.W.Frag} {H : Hp} {D : Addr} {o : HO} {xs0 : List V} (hD : H D = some (.lst xs0)) : ∀ (ds : List PyData) (vs : List V), noLs ds = true → DpAll K H vs ds → DpAll K (upd H D o) vs ds
  | [], _, _, h => by cases h; exact .nil
  | d :: ds, _, n, h => by
    simp only [noLs, Bool.and_eq_true] at n
    cases h with
    | cons h1 h2 => exact .cons (dp_upd hD d _ n.1 h1) (dpa_upd hD ds _ n.2 h2)
end
theorem noLs_app : ∀ {ds es : List PyData}, noLs ds = true → noLs es = true → noLs (ds ++ es) = true
  | [], _, _, h => h
  | d :: ds, es, n, h => by
    simp only [noLs, Bool.and_eq_true] at n
    simp only [List.cons_append, noLs, Bool.and_eq_true]
    exact ⟨n.1, noLs_app n.2 h⟩
theorem noLs_one {d : PyData} (h : noL d = true) : noLs [d] = true := by simp [noLs, h]

/-! ### comprehensions -/
section
variable {K : PySem.W.Frag} {σ : L2.St} {H H1 : Hp} {Q : VK} {x : V} {ds : List PyData} {j : Nat} {vs : List Nat} {tt : TT} {te tl : TE} {ta : TA}
/-- what holds between two turns of a comprehension: i turns, the data made so far, the heap -/
structure LcJ (H1 : Hp) (J : Nat → List PyData → Hp → Prop) : Prop where
  start : ∀ D, H1 D = none → J 0 [] (L2.upd H1 D (.lst []))
  keep : ∀ i es H', J i es H' → Keep H1 H'
  upd : ∀ i es H' D xs o, H1 D = none → H' D = some (.lst xs) → J i es H' → J i es (L2.upd H' D o)
def LcP (K : PySem.W.Frag) (J : Nat → List PyData → Hp → Prop) (D : Addr) (i : Nat) (H' : Hp) : Prop :=
  ∃ vs es, H' D = some (.lst vs) ∧ DpAll K H' vs es ∧ noLs es = true ∧ es.length ≤ i ∧ J i es H'
def LcTurn (K : PySem.W.Frag) (J : Nat → List PyData → Hp → Prop) (tt : TT) (te : TE) (σx : L2.St) (i : Nat) (es : List PyData) (H' : Hp) : Prop :=
  ∀ (Yes : VK) (No : Hp → Prop), (∀ z H4 e, Keep H' H4 → noL e = true → Dp K H4 z e → J (i + 1) (es ++ [e]) H4 → Yes z H4) → (∀ H3, Keep H' H3 → J (i + 1) es H3 → No H3) →
    tt σx H' fun b H3 => if b = true then te σx H3 Yes else No H3
theorem lc_turn {J : Nat → List PyData → Hp → Prop} (lj : LcJ H1 J) {D : Addr} (hD : H1 D = none) {i : Nat} (hi : i < 1000000) {H' : Hp} {σx : L2.St} (p : LcP K J D i H') (turn : ∀ es, J i es H' → LcTurn K J tt te σx i es H') :
    tt σx H' fun b H3 => if b = true then te σx H3 fun y H4 => ∃ acc, H4 D = some (.lst acc) ∧ acc.length < sizeLine ∧ LcP K J D (i + 1) (L2.upd H4 D (.lst (acc ++ [y]))) else LcP K J D (i + 1) H3 := by
  obtain ⟨vs, es, p1, p2, p3, p4, p5⟩ := p
  have hs : sizeLine = 16777216 := sizeLine_eq
  refine turn es p5 _ _ (fun z H4 e k n dz j => ?_) (fun H3 k j => ?_)
  · have l := dpa_len p2
    refine ⟨vs, k.l p1, by omega, _, es ++ [e], upd_same, ?_, noLs_app p3 (noLs_one n), by simp; omega, lj.upd _ _ _ _ vs _ hD (k.l p1) j⟩
    exact dpa_app (dpa_upd (k.l p1) _ _ p3 (dpa_keep k p2)) (dpa_one (dp_upd (k.l p1) _ _ n dz))
  · exact ⟨vs, es, k.l p1, dpa_keep k p2, p3, by omega, j⟩
def rLcL (K : PySem.W.Frag) (j : Nat) (tt : TT) (te : TE) (vs : List Nat) (σ : L2.St) (x : V) (H1 : Hp) (Q : VK) : Prop := ∃ a, x = .ref a ∧ (∃ xs, SqL K H1 a xs) ∧ ∀ D, H1 D = none → ∃ W : Nat → Nat → Hp → Prop, (∃ m, W 0 m (L2.upd H1 D (.lst []))) ∧ ∀ i m H, W i m H →
  ((Itl K a).stop i H ∧ Q (.ref D) H) ∨ ((Itl K a).go i H ∧ ∃ Nx : Hp → Prop, (∀ H', Nx H' → ∃ m', m' < m ∧ W (i + 1) m' H') ∧ ∀ x H', (Itl K a).yld i H x H' → gName j x (wipe σ vs) H' fun σ2 H2 => wipe σ2 vs = wipe σ vs ∧ tt σ2 H2 fun b H3 =>
    if b = true then te σ2 H3 fun y H4 => ∃ acc, H4 D = some (.lst acc) ∧ acc.length < sizeLine ∧ Nx (L2.upd H4 D (.lst (acc ++ [y]))) else Nx H3)
theorem w_lcL (h : tl σ H fun x H1 => rLcL K j tt te vs σ x H1 Q) : tLc (iList K tl) (gName j) tt te vs σ H Q := h
theorem lc_list_by (J : Nat → List PyData → Hp → Prop) (lj : LcJ H1 J) (src : Dp K H1 x (.list ds)) (hz : ds.length ≤ 1000000) (hw : ∀ x, wipe ((wipe σ vs).set j (some x)) vs = wipe σ vs)
    (turn : ∀ i d y H' es, ds[i]? = some d → Dp K H' y d → J i es H' → LcTurn K J tt te ((wipe σ vs).set j (some y)) i es H')
    (done : ∀ p H' vs es, H1 p = none → Keep H1 H' → H' p = some (.lst vs) → Dp K H' (.ref p) (.list es) → J ds.length es H' → Q (.ref p) H') : rLcL K j tt te vs σ x H1 Q := by
  obtain ⟨a, xs, rfl, hs, ha⟩ := dp_lst src
  have hl := dpa_len ha
  refine ⟨a, rfl, ⟨xs, hs⟩, fun D hD => lc_list (xs := xs) (LcP K J D) ⟨[], [], upd_same, .nil, rfl, Nat.le_refl _, lj.start D hD⟩ (fun i H' _ p => ?_) (fun i y H' hi p => ⟨hw y, lc_turn lj hD ?_ p fun es q => ?_⟩) fun H' p => ?_⟩
  · obtain ⟨vs, es, p1, p2, p3, p4, p5⟩ := p
    exact (lj.keep _ _ _ p5).seqL hs
  · have := (List.getElem?_eq_some_iff.mp hi).1; omega
  · obtain ⟨d, e1, e2⟩ := dpa_get2 ha hi
    exact turn i d y H' es e1 (dp_keep (lj.keep _ _ _ q) e2) q
  · obtain ⟨vs, es, p1, p2, p3, p4, p5⟩ := p
    rw [hl] at p5
    exact done D H' vs es hD (lj.keep _ _ _ p5) p1 (dp_newL p1 p2) p5
def rLcT (K : PySem.W.Frag) (j : Nat) (tt : TT) (te : TE) (vs : List Nat) (σ : L2.St) (x : V) (H1 : Hp) (Q : VK) : Prop := ∃ a, x = .ref a ∧ (∃ xs, SqT K H1 a xs) ∧ ∀ D, H1 D = none → ∃ W : Nat → Nat → Hp → Prop, (∃ m, W 0 m (L2.upd H1 D (.lst []))) ∧ ∀ i m H, W i m H →
  ((Itt K a).stop i H ∧ Q (.ref D) H) ∨ ((Itt K a).go i H ∧ ∃ Nx : Hp → Prop, (∀ H', Nx H' → ∃ m', m' < m ∧ W (i + 1) m' H') ∧ ∀ x H', (Itt K a).yld i H x H' → gName j x (wipe σ vs) H' fun σ2 H2 => wipe σ2 vs = wipe σ vs ∧ tt σ2 H2 fun b H3 =>
    if b = true then te σ2 H3 fun y H4 => ∃ acc, H4 D = some (.lst acc) ∧ acc.length < sizeLine ∧ Nx (L2.upd H4 D (.lst (acc ++ [y]))) else Nx H3)
theorem w_lcT (h : tl σ H fun x H1 => rLcT K j tt te vs σ x H1 Q) : tLc (iTup K tl) (gName j) tt te vs σ H Q := h
theorem lc_tup_by (J : Nat → List PyData → Hp → Prop) (lj : LcJ H1 J) (src : Dp K H1 x (.tuple ds)) (hz : ds.length ≤ 1000000) (hw : ∀ x, wipe ((wipe σ vs).set j (some x)) vs = wipe σ vs)
    (turn : ∀ i d y H' es, ds[i]? = some d → Dp K H' y d → J i es H' → LcTurn K J tt te ((wipe σ vs).set j (some y)) i es H')
    (done : ∀ p H' vs es, H1 p = none → Keep H1 H' → H' p = some (.lst vs) → Dp K H' (.ref p) (.list es) → J ds.length es H' → Q (.ref p) H') : rLcT K j tt te vs σ x H1 Q := by
  obtain ⟨a, xs, rfl, hs, ha⟩ := dp_tup src
  have hl := dpa_len ha
  refine ⟨a, rfl, ⟨xs, hs⟩, fun D hD => lc_tup (xs := xs) (LcP K J D) ⟨[], [], upd_same, .nil, rfl, Nat.le_refl _, lj.start D hD⟩ (fun i H' _ p => ?_) (fun i y H' hi p => ⟨hw y, lc_turn lj hD ?_ p fun es q => ?_⟩) fun H' p => ?_⟩
  · obtain ⟨vs, es, p1, p2, p3, p4, p5⟩ := p
    exact (lj.keep _ _ _ p5).seqT hs
  · have := (List.getElem?_eq_some_iff.mp hi).1; omega
  · obtain ⟨d, e1, e2⟩ := dpa_get2 ha hi
    exact turn i d y H' es e1 (dp_keep (lj.keep _ _ _ q) e2) q
  · obtain ⟨vs, es, p1, p2, p3, p4, p5⟩ := p
    rw [hl] at p5
    exact done D H' vs es hD (lj.keep _ _ _ p5) p1 (dp_newL p1 p2) p5
def rLcR (j : Nat) (tt : TT) (te : TE) (us : List Nat) (σ : L2.St) (lo : Int) (n : Nat) (H1 : Hp) (Q : VK) : Prop := ∀ D, H1 D = none → ∃ W : Nat → Nat → Hp → Prop, (∃ m, W 0 m (L2.upd H1 D (.lst []))) ∧ ∀ i m H, W i m H →
  ((Itr lo n).stop i H ∧ Q (.ref D) H) ∨ ((Itr lo n).go i H ∧ ∃ Nx : Hp → Prop, (∀ H', Nx H' → ∃ m', m' < m ∧ W (i + 1) m' H') ∧ ∀ x H', (Itr lo n).yld i H x H' → gName j x (wipe σ us) H' fun σ2 H2 => wipe σ2 us = wipe σ us ∧ tt σ2 H2 fun b H3 =>
    if b = true then te σ2 H3 fun y H4 => ∃ acc, H4 D = some (.lst acc) ∧ acc.length < sizeLine ∧ Nx (L2.upd H4 D (.lst (acc ++ [y]))) else Nx H3)
def rLcR1 (j : Nat) (tt : TT) (te : TE) (us : List Nat) (σ : L2.St) (vs : List V) (H1 : Hp) (Q : VK) : Prop := ∃ k : Int, vs = [.int k] ∧ -(2 ^ 62) ≤ k ∧ k < 2 ^ 62 ∧ rLcR j tt te us σ 0 k.toNat H1 Q
def rLcR2 (j : Nat) (tt : TT) (te : TE) (us : List Nat) (σ : L2.St) (vs : List V) (H1 : Hp) (Q : VK) : Prop := ∃ i k : Int, vs = [.int i, .int k] ∧ (-(2 ^ 62) ≤ i ∧ i < 2 ^ 62 ∧ -(2 ^ 62) ≤ k ∧ k < 2 ^ 62) ∧ rLcR j tt te us σ i (k - i).toNat H1 Q
theorem w_lcR1 (h : ta σ H fun ws H1 => rLcR1 j tt te vs σ ws H1 Q) : tLc (iRng1 ta) (gName j) tt te vs σ H Q := h
theorem w_lcR2 (h : ta σ H fun ws H1 => rLcR2 j tt te vs σ ws H1 Q) : tLc (iRng2 ta) (gName j) tt te vs σ H Q := h
theorem lc_rng_by {lo : Int} {n : Nat} (J : Nat → List PyData → Hp → Prop) (lj : LcJ H1 J) (hz : n ≤ 1000000) (hw : ∀ x, wipe ((wipe σ vs).set j (some x)) vs = wipe σ vs)
    (turn : ∀ (i : Nat) H' es, i < n → J i es H' → LcTurn K J tt te ((wipe σ vs).set j (some (.int (lo + (i : Int))))) i es H')
    (done : ∀ p H' vs es, H1 p = none → Keep H1 H' → H' p = some (.lst vs) → Dp K H' (.ref p) (.list es) → J n es H' → Q (.ref p) H') : rLcR j tt te vs σ lo n H1 Q := by
  refine fun D hD => lc_range (lo := lo) (n := n) (LcP K J D) ⟨[], [], upd_same, .nil, rfl, Nat.le_refl _, lj.start D hD⟩ (fun i H' hi p => ⟨hw _, lc_turn lj hD (by omega) p fun es q => turn i H' es hi q⟩) fun H' p => ?_
  obtain ⟨vs, es, p1, p2, p3, p4, p5⟩ := p
  exact done D H' vs es hD (lj.keep _ _ _ p5) p1 (dp_newL p1 p2) p5
theorem lc_rng1_by {k : Int} (J : Nat → List PyData → Hp → Prop) (lj : LcJ H1 J) (hz : 0 ≤ k ∧ k ≤ 1000000) (hw : ∀ x, wipe ((wipe σ vs).set j (some x)) vs = wipe σ vs)
    (turn : ∀ (i : Nat) H' es, (i : Int) < k → J i es H' → LcTurn K J tt te ((wipe σ vs).set j (some (.int (i : Int)))) i es H')
    (done : ∀ p H' vs es, H1 p = none → Keep H1 H' → H' p = some (.lst vs) → Dp K H' (.ref p) (.list es) → J k.toNat es H' → Q (.ref p) H') : rLcR1 j tt te vs σ [.int k] H1 Q := by
  refine ⟨k, rfl, by omega, by omega, lc_rng_by (K := K) J lj (by omega) hw (fun i H' es hi q => ?_) done⟩
  rw [Int.zero_add]
  exact turn i H' es (by omega) q
theorem lc_rng2_by {lo k : Int} (J : Nat → List PyData → Hp → Prop) (lj : LcJ H1 J) (hz : -1000000 ≤ lo ∧ lo ≤ 1000000 ∧ -1000000 ≤ k ∧ k ≤ 1000000 ∧ k - lo ≤ 1000000) (hw : ∀ x, wipe ((wipe σ vs).set j (some x)) vs = wipe σ vs)
    (turn : ∀ (i : Nat) H' es, lo + (i : Int) < k → J i es H' → LcTurn K J tt te ((wipe σ vs).set j (some (.int (lo + (i : Int))))) i es H')
    (done : ∀ p H' vs es, H1 p = none → Keep H1 H' → H' p = some (.lst vs) → Dp K H' (.ref p) (.list es) → J (k - lo).toNat es H' → Q (.ref p) H') : rLcR2 j tt te vs σ [.int lo, .int k] H1 Q :=
  ⟨lo, k, rfl, by omega, lc_rng_by (K := K) J lj (by omega) hw (fun i H' es hi q => turn i H' es (by omega) q) done⟩
theorem w_tYes {Q : Bool → Hp → Prop} (q : Q true H) : tYes σ H Q := q
/-- nothing but new objects: a word about the turns and the data -/
def JP (H1 : Hp) (R : Nat → List PyData → Prop) (i : Nat) (es : List PyData) (H' : Hp) : Prop := Same H1 H' ∧ R i es
theorem JP.ok {R : Nat → List PyData → Prop} (r0 : R 0 []) : LcJ H1 (JP H1 R) where
  start := fun D hD => ⟨same_new hD, r0⟩
  keep := fun _ _ _ h => Keep.of h.1
  upd := fun _ _ _ _ _ _ hD _ h => ⟨same_mut h.1 hD, h.2⟩
/-- .. and draws, at most n a turn -/
def JM (H1 : Hp) (m c : Addr) (b n : Nat) (R : Nat → List PyData → Prop) (i : Nat) (es : List PyData) (H' : Hp) : Prop := Keep H1 H' ∧ Mo H' m c (b + n * i) ∧ R i es
theorem JM.ok {m c : Addr} {b n : Nat} {R : Nat → List PyData → Prop} (hm : Mo H1 m c b) (r0 : R 0 []) : LcJ H1 (JM H1 m c b n R) where
  start := fun D hD => ⟨Keep.of (same_new hD), hm.new hD, r0⟩
  keep := fun _ _ _ h => h.1
  upd := fun _ _ _ _ _ _ hD hx h => ⟨keep_mut h.1 hD, h.2.1.upd hx (hm.ne hD), h.2.2⟩
end
end Tw
namespace Tw
open PySem PySem.Spec PyProof.Rows L2
/-! ### texts as lists of codes -/
def Sg (l : List Nat) : Str := ⟨l.toArray⟩
theorem sg_tl (l : List Nat) : (Sg l).cps.toList = l := by simp [Sg]
theorem sg_len (l : List Nat) : (Sg l).length = l.length := by simp [Sg, Str.length]
theorem sg_app (a b : List Nat) : Sg a ++ Sg b = Sg (a ++ b) := by
  show Str.append (Sg a) (Sg b) = _
  simp [Sg, Str.append]
theorem sg_inj {a b : List Nat} (h : Sg a = Sg b) : a = b := by
  have := congrArg (fun s : Str => s.cps.toList) h
  simpa [Sg] using this
theorem sg_eq {a b : List Nat} : Sg a = Sg b ↔ a = b := ⟨sg_inj, fun h => by rw [h]⟩
theorem sg_one (c : Nat) : (⟨#[c]⟩ : Str) = Sg [c] := rfl
theorem sg_of (s : Str) : ∃ l, s = Sg l := ⟨s.cps.toList, by simp [Sg]⟩
theorem sg_V {a b : List Nat} : (V.str (Sg a) = V.str (Sg b)) ↔ a = b := by
  constructor
  · intro h; exact sg_inj (V.str.inj h)
  · intro h; rw [h]
theorem sg_join (ys : List (List Nat)) : Txt.join (Sg []) (ys.map Sg) = Sg ys.flatten := by
  rw [TL.join_eq]
  induction ys with
  | nil => rfl
  | cons a r ih =>
    cases r with
    | nil => simp [Str.join]
    | cons b r =>
      show Str.append (Str.append (Sg a) (Sg [])) (Str.join (Sg []) (Sg b :: r.map Sg)) = _
      rw [show Sg b :: r.map Sg = (b :: r).map Sg from rfl, ih]
      simp [Sg, Str.append]
theorem sg_empty : Str.ofString "" = Sg [] := by decide +kernel
theorem sg_cut (l : List Nat) (lo hi : Option Int) : (⟨(cutD (Sg l).cps.toList lo hi).toArray⟩ : Str) = Sg (cutD l lo hi) := by simp [Sg]
section
variable {K : PySem.W.Frag} {H : Hp} {Q : VK} {v : V} {lo hi : Option Int}
theorem w_ixSg {l : List Nat} {n : Int} (hz : l.length ≤ 1000000) (h0 : 0 ≤ n) (h1 : n < (l.length : Int)) (q : ∀ c, l[n.toNat]? = some c → Q (.str (Sg [c])) H) : rIxS (.str (Sg l)) (.int n) H Q := by
  have hl : n.toNat < l.length := by omega
  have hs : sizeLine = 16777216 := sizeLine_eq
  exact w_ixS (j := n.toNat) (c := l[n.toNat]) (by rw [sg_len]; omega) (by omega) (by rw [sg_tl]; exact List.getElem?_eq_getElem hl) (q _ (List.getElem?_eq_getElem hl))
theorem w_ixSgLast {l : List Nat} (hz : l.length ≤ 1000000) (h1 : l ≠ []) (q : Q (.str (Sg [l.getLast h1])) H) : rIxS (.str (Sg l)) (.int (-1)) H Q := by
  have hs : sizeLine = 16777216 := sizeLine_eq
  refine ⟨Sg l, -1, l.getLast h1, rfl, rfl, by rw [sg_len]; omega, ?_, q⟩
  rw [sg_tl]
  have e : l = l.dropLast ++ [l.getLast h1] := (List.dropLast_concat_getLast h1).symm
  rw [show atI l (-1) = atI (l.dropLast ++ [l.getLast h1]) (-1) by rw [← e]]
  exact atI_last _ _
theorem w_lenSg {l : List Nat} (h : l.length ≤ 1000000) (q : Q (.int (l.length : Int)) H) : rLen K [.str (Sg l)] H Q := by
  have hs : sizeLine = 16777216 := sizeLine_eq
  refine w_lenS (by rw [sg_len]; omega) ?_
  rw [sg_len]; exact q
theorem w_addSg {a b : List Nat} (h : a.length + b.length ≤ 1000000) (q : Q (.str (Sg (a ++ b))) H) : rAddStr (.str (Sg a)) (.str (Sg b)) H Q := by
  have hs : sizeLine = 16777216 := sizeLine_eq
  refine w_addS (by rw [sg_len, sg_len]; omega) ?_
  rw [sg_app]; exact q
theorem w_slSg {l : List Nat} (h : l.length ≤ 1000000) (q : Q (.str (Sg (cutD l lo hi))) H) : rSlS (.str (Sg l)) lo hi H Q := by
  have hs : sizeLine = 16777216 := sizeLine_eq
  refine w_slS (by rw [sg_len]; omega) ?_
  rw [sg_cut]; exact q
theorem w_eqSg {a b : List Nat} (q1 : a = b → Q (.bl true) H) (q2 : a ≠ b → Q (.bl false) H) : rEq (.str (Sg a)) (.str (Sg b)) H Q := by
  refine ⟨rfl, ?_⟩
  by_cases h : a = b
  · rw [decide_eq_true (sg_V.mpr h)]; exact q1 h
  · rw [decide_eq_false (fun z => h (sg_V.mp z))]; exact q2 h
theorem w_neSg {a b : List Nat} (q1 : a = b → Q (.bl false) H) (q2 : a ≠ b → Q (.bl true) H) : rNe (.str (Sg a)) (.str (Sg b)) H Q := by
  refine ⟨rfl, ?_⟩
  by_cases h : a = b
  · rw [decide_eq_true (sg_V.mpr h)]; exact q1 h
  · rw [decide_eq_false (fun z => h (sg_V.mp z))]; exact q2 h
theorem w_joinSg {ys : List (List Nat)} (h : Dp K H v (.list (ys.map fun y => PyData.str (Sg y)))) (hz : ys.flatten.length ≤ 1000000) (q : Q (.str (Sg ys.flatten)) H) : rJoin K (.str (Sg [])) [v] H Q := by
  refine w_join (ys := ys.map Sg) (by rw [List.map_map]; exact h) ?_ (by rw [sg_join]; exact q)
  rw [List.map_map, sg_len, List.length_nil, Nat.mul_zero, Nat.add_zero]
  have e : (ys.map ((·.length) ∘ Sg)).sum = ys.flatten.length := by
    rw [List.length_flatten]
    congr 1
    first
    | done
    | (apply List.map_congr_left; intro a _; exact sg_len a)
  omega
end
section
variable {K : PySem.W.Frag} {H : Hp} {Q : VK} {v x : V} {ds : List PyData}
theorem cl_isi {X : Cx} {K : PySem.W.Frag} (h : X.K = K := by rfl) : CallR X (.builtin "isinstance") (rIsi K) := h ▸ call_isi
theorem w_isiY {t n : String} (ty : TyX K H x (.type t)) (h : kitB t n = some true) (q : Q (.bl true) H) : rIsi K [x, .ty n] H Q := ⟨x, .ty n, .type t, .type n, true, rfl, .ty n, ty, kit_ty h, q⟩
theorem w_isiN {t n : String} (ty : TyX K H x (.type t)) (h : kitB t n = some false) (q : Q (.bl false) H) : rIsi K [x, .ty n] H Q := ⟨x, .ty n, .type t, .type n, false, rfl, .ty n, ty, kit_ty h, q⟩
theorem ty_tup (h : Dp K H v (.tuple ds)) : TyX K H v (.type "tuple") := by
  obtain ⟨a, xs, rfl, hs, ha⟩ := dp_tup h
  rcases hs with (hs | ⟨o, hs⟩) | ⟨o, its, n, e, c, _⟩
  · exact .base (.tup hs)
  · exact .fTuple hs
  · exact .kTuple e c
theorem ty_lst (h : Dp K H v (.list ds)) : TyX K H v (.type "list") := by
  obtain ⟨a, xs, rfl, hs, ha⟩ := dp_lst h
  rcases hs with (hs | ⟨o, hs⟩) | ⟨o, its, n, e, c, _⟩
  · exact .base (.lst hs)
  · exact .base (.frz hs)
  · exact .kList e c
theorem ty_int {i : Int} : TyX K H (.int i) (.type "int") := .base (.int i)
theorem ty_non : TyX K H .non (.type "NoneType") := .base .non
theorem ty_bl {b : Bool} : TyX K H (.bl b) (.type "bool") := .base (.bl b)
theorem ty_str {s : Str} : TyX K H (.str s) (.type "str") := .base (.str s)
end
end Tw
namespace Tw
open PySem PySem.Spec PyProof.Rows L2
/-! ### ratios in lowest terms -/
def red (p q : Nat) : Nat × Nat := (p / Nat.gcd p q, q / Nat.gcd p q)
theorem red_pos {p q : Nat} (h : 0 < q) : 0 < (red p q).2 := Nat.div_pos (Nat.le_of_dvd h (Nat.gcd_dvd_right p q)) (Nat.gcd_pos_of_pos_right p h)
theorem red_coprime {p q : Nat} (h : 0 < q) : Nat.Coprime (red p q).1 (red p q).2 := Nat.coprime_div_gcd_div_gcd (Nat.gcd_pos_of_pos_right p h)
theorem red_cross {p q : Nat} : (red p q).1 * q = p * (red p q).2 := by
  have h1 := Nat.gcd_dvd_left p q
  have h2 := Nat.gcd_dvd_right p q
  show p / Nat.gcd p q * q = p * (q / Nat.gcd p q)
  rw [← Nat.mul_div_assoc p h2, Nat.div_mul_right_comm h1]
theorem red_unique {a b c d : Nat} (hb : 0 < b) (hd : 0 < d) (h1 : Nat.Coprime a b) (h2 : Nat.Coprime c d) (h : a * d = c * b) : a = c ∧ b = d := by
  have e1 : b ∣ d := h1.symm.dvd_of_dvd_mul_left (by rw [h]; exact Nat.dvd_mul_left b c)
  have e2 : d ∣ b := h2.symm.dvd_of_dvd_mul_left (by rw [← h]; exact Nat.dvd_mul_left d a)
  have e3 := Nat.dvd_antisymm e1 e2
  subst e3
  exact ⟨Nat.eq_of_mul_eq_mul_right hb h, rfl⟩
theorem red_eq {p q p' q' : Nat} (hq : 0 < q) (hq' : 0 < q') (h : p * q' = p' * q) : red p q = red p' q' := by
  have e := red_unique (red_pos (p := p) hq) (red_pos (p := p') hq') (red_coprime hq) (red_coprime hq') (by
    have h1 := red_cross (p := p) (q := q)
    have h2 := red_cross (p := p') (q := q')
    have h3 : (red p q).1 * (red p' q').2 * (q * q') = (red p' q').1 * (red p q).2 * (q * q') := by grind
    exact Nat.eq_of_mul_eq_mul_right (Nat.mul_pos hq hq') h3)
  exact Prod.ext e.1 e.2
theorem red_self {p q : Nat} (h : Nat.Coprime p q) : red p q = (p, q) := by
  unfold red
  rw [show Nat.gcd p q = 1 from h, Nat.div_one, Nat.div_one]
theorem red_of {x : Nat × Nat} {p q : Nat} (hx : Nat.Coprime x.1 x.2) (h0 : 0 < x.2) (hq : 0 < q) (h : x.1 * q = p * x.2) : red p q = x := by
  rw [← red_eq h0 hq h, red_self hx]
theorem red_le {p q : Nat} : (red p q).2 ≤ q := Nat.div_le_self _ _
theorem red_le1 {p q : Nat} : (red p q).1 ≤ p := Nat.div_le_self _ _
theorem red_dvd {p q : Nat} : (red p q).2 ∣ q := Nat.div_dvd_of_dvd (Nat.gcd_dvd_right p q)
theorem red_lt {p q : Nat} (h : p < q) : (red p q).1 < (red p q).2 := Nat.div_lt_div_of_lt_of_dvd (Nat.gcd_dvd_right p q) h
/-! ### places -/
def CN : Nat := 56525307072677432455503587098948920087821904549333509463754043204567040000
theorem CN_pos : 0 < CN := by decide +kernel
theorem CN_lt : CN < 2 ^ 250 := by decide +kernel
theorem CN_dvdAll : ∀ m : Fin 24, ∀ n : Fin 25, 1 ≤ n.val → m.val + n.val ≤ 24 → CN % (2 ^ m.val * (2 ^ n.val - 1)) = 0 := by decide +kernel
theorem CN_dvd {m n : Nat} (hn : 1 ≤ n) (h : m + n ≤ 24) : 2 ^ m * (2 ^ n - 1) ∣ CN := Nat.dvd_of_mod_eq_zero (CN_dvdAll ⟨m, by omega⟩ ⟨n, by omega⟩ hn h)
theorem two_pow_pos (n : Nat) : 0 < 2 ^ n := Nat.pow_pos (by decide)
theorem bot_pos {m n : Nat} (hn : 1 ≤ n) : 0 < 2 ^ m * (2 ^ n - 1) := by
  have h1 : 2 ≤ 2 ^ n := by
    calc 2 = 2 ^ 1 := rfl
      _ ≤ 2 ^ n := Nat.pow_le_pow_right (by decide) hn
  exact Nat.mul_pos (two_pow_pos m) (by omega)
theorem bot_lt {m n : Nat} (h : m + n ≤ 24) : 2 ^ m * (2 ^ n - 1) < 2 ^ 24 := by
  have h0 := two_pow_pos n
  have h1 := two_pow_pos m
  calc 2 ^ m * (2 ^ n - 1) < 2 ^ m * 2 ^ n := Nat.mul_lt_mul_of_pos_left (by omega) h1
    _ = 2 ^ (m + n) := (Nat.pow_add 2 m n).symm
    _ ≤ 2 ^ 24 := Nat.pow_le_pow_right (by decide) h
/-- a place -/
structure Plc (x : Nat × Nat) : Prop where
  lt : x.1 < x.2
  cop : Nat.Coprime x.1 x.2
  bot : ∃ m n, 1 ≤ n ∧ m + n ≤ 24 ∧ x.2 ∣ 2 ^ m * (2 ^ n - 1)
section
variable {x y z a b : Nat × Nat}
theorem Plc.dvd (h : Plc x) : x.2 ∣ CN := by
  obtain ⟨m, n, h1, h2, h3⟩ := h.bot
  exact Nat.dvd_trans h3 (CN_dvd h1 h2)
theorem Plc.pos (h : Plc x) : 0 < x.2 := Nat.lt_of_le_of_lt (Nat.zero_le _) h.lt
theorem Plc.small (h : Plc x) : x.2 < 2 ^ 24 := by
  obtain ⟨m, n, h1, h2, h3⟩ := h.bot
  exact Nat.lt_of_le_of_lt (Nat.le_of_dvd (bot_pos h1) h3) (bot_lt h2)
/-- steps of 1 / CN from zero -/
def sz (x : Nat × Nat) : Nat := x.1 * (CN / x.2)
theorem sz_mul (h : Plc x) : sz x * x.2 = x.1 * CN := by
  unfold sz
  rw [Nat.mul_assoc, Nat.div_mul_cancel h.dvd]
theorem sz_lt (h : Plc x) : sz x < CN := by
  have h1 := sz_mul h
  have h2 : sz x * x.2 < CN * x.2 := by
    rw [h1, Nat.mul_comm CN]
    exact Nat.mul_lt_mul_of_pos_right h.lt CN_pos
  exact Nat.lt_of_mul_lt_mul_right h2
theorem sz_red (h : Plc x) : red (sz x) CN = x := red_of h.cop h.pos CN_pos (sz_mul h).symm
theorem sz_inj (h : Plc x) (h' : Plc y) (e : sz x = sz y) : x = y := by rw [← sz_red h, ← sz_red h', e]
theorem sz_less (h : Plc x) (h' : Plc y) : (x.1 * y.2 < y.1 * x.2 ↔ sz x < sz y) := by
  have h1 := sz_mul h
  have h2 := sz_mul h'
  have p := h.pos
  have p' := h'.pos
  have e1 : x.1 * y.2 * CN = sz x * (x.2 * y.2) := by grind
  have e2 : y.1 * x.2 * CN = sz y * (x.2 * y.2) := by grind
  constructor
  · intro l
    have : x.1 * y.2 * CN < y.1 * x.2 * CN := Nat.mul_lt_mul_of_pos_right l CN_pos
    rw [e1, e2] at this
    exact Nat.lt_of_mul_lt_mul_right this
  · intro l
    have : sz x * (x.2 * y.2) < sz y * (x.2 * y.2) := Nat.mul_lt_mul_of_pos_right l (Nat.mul_pos p p')
    rw [← e1, ← e2] at this
    exact Nat.lt_of_mul_lt_mul_right this
/-- the way up from a to b -/
def wu (a b : Nat × Nat) : Nat := (sz b + (CN - sz a)) % CN
theorem wu_lt : wu a b < CN := Nat.mod_lt _ CN_pos
theorem wu_eq (ha : Plc a) (hb : Plc b) : wu a b = if sz a ≤ sz b then sz b - sz a else sz b + CN - sz a := by
  have h1 := sz_lt ha
  have h2 := sz_lt hb
  unfold wu
  split
  · rw [show sz b + (CN - sz a) = (sz b - sz a) + CN by omega, Nat.add_mod_right, Nat.mod_eq_of_lt (by omega)]
  · rw [Nat.mod_eq_of_lt (by omega)]; omega
theorem wu_int (ha : Plc a) (hb : Plc b) : ((sz b : Int) - sz a) % (CN : Int) = (wu a b : Int) := by
  have h1 := sz_lt ha
  have h2 := sz_lt hb
  rw [wu_eq ha hb]
  split
  · rw [Int.emod_eq_of_lt (by omega) (by omega)]; omega
  · rw [← Int.add_emod_right, Int.emod_eq_of_lt (by omega) (by omega)]; omega
def arcN (a b : Nat × Nat) : Nat × Nat := red (wu a b) CN
/-- the mirrored place -/
def mirN (x : Nat × Nat) : Nat × Nat := (if x.1 = 0 then 0 else x.2 - x.1, x.2)
theorem mir_plc (h : Plc x) : Plc (mirN x) := by
  have h1 := h.lt
  refine ⟨?_, ?_, h.bot⟩
  · show (if x.1 = 0 then 0 else x.2 - x.1) < x.2
    split <;> omega
  · show Nat.Coprime (if x.1 = 0 then 0 else x.2 - x.1) x.2
    have hc := h.cop
    split
    · rename_i e
      rw [e] at hc
      exact hc
    · unfold Nat.Coprime at hc ⊢
      rw [Nat.gcd_comm, Nat.gcd_self_sub_right (Nat.le_of_lt h1), Nat.gcd_comm]
      exact hc
theorem mir_sz (h : Plc x) : sz (mirN x) = if sz x = 0 then 0 else CN - sz x := by
  have h1 := sz_mul h
  have h3 := sz_mul (mir_plc h)
  have hp := h.pos
  have hl := h.lt
  have hs := sz_lt h
  have e2 : (mirN x).2 = x.2 := rfl
  have e1 : (mirN x).1 = if x.1 = 0 then 0 else x.2 - x.1 := rfl
  rw [e2, e1] at h3
  by_cases h0 : x.1 = 0
  · have : sz x = 0 := by unfold sz; rw [h0, Nat.zero_mul]
    rw [if_pos this]
    rw [if_pos h0, Nat.zero_mul] at h3
    rcases Nat.mul_eq_zero.mp h3 with h | h
    · exact h
    · omega
  · have hn : sz x ≠ 0 := by
      intro z
      rw [z, Nat.zero_mul] at h1
      rcases Nat.mul_eq_zero.mp h1.symm with h | h
      · exact h0 h
      · have := CN_pos; omega
    rw [if_neg hn]
    rw [if_neg h0, Nat.sub_mul, ← h1] at h3
    have e : sz (mirN x) * x.2 = (CN - sz x) * x.2 := by rw [h3, Nat.sub_mul, Nat.mul_comm CN]
    exact Nat.eq_of_mul_eq_mul_right hp e
theorem mir_wu (ha : Plc a) (hb : Plc b) : wu (mirN b) (mirN a) = wu a b := by
  have h1 := sz_lt ha
  have h2 := sz_lt hb
  rw [wu_eq (mir_plc hb) (mir_plc ha), wu_eq ha hb, mir_sz ha, mir_sz hb]
  (repeat' split) <;> omega
end
def pd (x : Nat × Nat) : PyData := .tuple [.int x.1, .int x.2]
theorem pd_inj {x y : Nat × Nat} (h : pd x = pd y) : x = y := by
  simp only [pd, PyData.tuple.injEq, List.cons.injEq, PyData.int.injEq, and_true] at h
  exact Prod.ext (by omega) (by omega)
theorem pd_pln {k : Nat} (x : Nat × Nat) : pln (k + 1) (pd x) = true := by
  cases k <;> simp [pd, pln]
theorem pd_noL (x : Nat × Nat) : noL (pd x) = true := rfl
end Tw
namespace Tw
open PySem PySem.Spec PyProof.Rows L2
theorem mir_int {x : Nat × Nat} (h : x.1 < x.2) : (-(x.1 : Int)) % (x.2 : Int) = ((mirN x).1 : Int) := by
  show _ = (((if x.1 = 0 then 0 else x.2 - x.1) : Nat) : Int)
  split
  · rename_i e; rw [e]; simp
  · rw [← Int.add_emod_right, Int.emod_eq_of_lt (by omega) (by omega)]; omega
/-! ### doubling -/
def dblN (x : Nat × Nat) : Nat × Nat := if x.2 % 2 = 0 then (x.1 % (x.2 / 2), x.2 / 2) else (2 * x.1 % x.2, x.2)
theorem odd_of_dvd {b n : Nat} (hn : 1 ≤ n) (h : b ∣ 2 ^ 0 * (2 ^ n - 1)) : b % 2 = 1 := by
  obtain ⟨k, hk⟩ := h
  rw [Nat.pow_zero, Nat.one_mul] at hk
  have h1 : 2 ^ n = 2 * 2 ^ (n - 1) := by rw [← Nat.pow_succ']; congr 1; omega
  have h0 := two_pow_pos (n - 1)
  rcases Nat.mod_two_eq_zero_or_one b with hb | hb
  · have hb2 : b = 2 * (b / 2) := by omega
    rw [hb2, Nat.mul_assoc] at hk
    omega
  · exact hb
theorem dbl_plc {x : Nat × Nat} (h : Plc x) : Plc (dblN x) := by
  obtain ⟨m, n, h1, h2, h3⟩ := h.bot
  have hp := h.pos
  have hl := h.lt
  have hc := h.cop
  unfold dblN
  split
  · rename_i e
    have hx : x.2 = 2 * (x.2 / 2) := by omega
    have hq : 0 < x.2 / 2 := by omega
    have hm : 1 ≤ m := by
      cases m with
      | zero => have := odd_of_dvd h1 h3; omega
      | succ m => omega
    refine ⟨Nat.mod_lt _ hq, ?_, m - 1, n, h1, by omega, ?_⟩
    · show Nat.Coprime (x.1 % (x.2 / 2)) (x.2 / 2)
      have hd : Nat.gcd x.1 (x.2 / 2) ∣ Nat.gcd x.1 x.2 := Nat.dvd_gcd (Nat.gcd_dvd_left _ _) (Nat.dvd_trans (Nat.gcd_dvd_right _ _) ⟨2, by omega⟩)
      rw [show Nat.gcd x.1 x.2 = 1 from hc] at hd
      unfold Nat.Coprime
      rw [← Nat.gcd_rec, Nat.gcd_comm]
      exact Nat.dvd_one.mp hd
    · show x.2 / 2 ∣ _
      have e2 : 2 ^ m = 2 * 2 ^ (m - 1) := by rw [← Nat.pow_succ']; congr 1; omega
      rw [hx, e2, Nat.mul_assoc] at h3
      exact Nat.dvd_of_mul_dvd_mul_left (by decide) h3
  · rename_i e
    refine ⟨Nat.mod_lt _ hp, ?_, m, n, h1, h2, h3⟩
    show Nat.Coprime (2 * x.1 % x.2) x.2
    unfold Nat.Coprime
    rw [← Nat.gcd_rec]
    have h2c : Nat.Coprime x.2 2 := by
      unfold Nat.Coprime
      rw [Nat.gcd_comm, Nat.gcd_rec, show x.2 % 2 = 1 by omega]
      rfl
    exact Nat.Coprime.mul_right h2c hc.symm
/-! ### digits -/
def bv (l : List Nat) : Nat := l.foldl (fun s c => 2 * s + (c - 48)) 0
def Dg (l : List Nat) : Prop := ∀ c ∈ l, c = 48 ∨ c = 49
theorem bv_snoc (l : List Nat) (c : Nat) : bv (l ++ [c]) = 2 * bv l + (c - 48) := by simp [bv, List.foldl_append]
theorem bv_lt : ∀ (l : List Nat), Dg l → bv l < 2 ^ l.length := by
  intro l
  induction hn : l.length generalizing l with
  | zero => intro _; rw [List.length_eq_zero_iff.mp hn]; decide
  | succ n ih =>
    intro h
    have hne : l ≠ [] := fun z => by rw [z] at hn; simp at hn
    have hl : l.dropLast.length = n := by rw [List.length_dropLast]; omega
    have h1 := ih l.dropLast hl (fun c hc => h c (List.dropLast_subset l hc))
    have h2 := h (l.getLast hne) (List.getLast_mem hne)
    rw [← List.dropLast_concat_getLast hne, bv_snoc, Nat.pow_succ]
    omega
def botN (h c : List Nat) : Nat := 2 ^ h.length * (2 ^ c.length - 1)
def binN (h c : List Nat) : Nat × Nat := red ((bv h * (2 ^ c.length - 1) + bv c) % botN h c) (botN h c)
theorem botN_pos {h c : List Nat} (hc : c ≠ []) : 0 < botN h c := bot_pos (List.length_pos_iff.mpr hc)
theorem bin_plc {h c : List Nat} (hc : c ≠ []) (hl : h.length + c.length ≤ 24) : Plc (binN h c) :=
  ⟨red_lt (Nat.mod_lt _ (botN_pos hc)), red_coprime (botN_pos hc), h.length, c.length, List.length_pos_iff.mpr hc, hl, red_dvd⟩
/-! ### what readings ask -/
section
variable {K : PySem.W.Frag} {σ : L2.St} {H : Hp} {Q : VK} {v y : V} {x : Nat × Nat} {p q : Nat}
theorem w_gcdN (h : Q (.int ((Nat.gcd p q : Nat) : Int)) H) : rGcd [.int (p : Int), .int (q : Int)] H Q := ⟨p, q, rfl, by simpa using h⟩
theorem w_ix0 (h : Dp K H v (pd x)) (q : Q (.int (x.1 : Int)) H) : rIxT K v (.int 0) H Q := w_ixT (j := 0) h rfl rfl fun v' hv => by cases hv; exact q
theorem w_ix1 (h : Dp K H v (pd x)) (q : Q (.int (x.2 : Int)) H) : rIxT K v (.int 1) H Q := w_ixT (j := 1) h rfl rfl fun v' hv => by cases hv; exact q
theorem w_gTupP {i j : Nat} {Q : L2.St → Hp → Prop} (h : Dp K H v (pd x)) (q : Q ((σ.set i (some (.int (x.1 : Int)))).set j (some (.int (x.2 : Int)))) H) : gTup K 2 (gCons (gName i) (gCons (gName j) gNil)) v σ H Q :=
  w_gTup2 h fun v1 v2 h1 h2 => by cases h1; cases h2; exact q
def rAbs : List V → Hp → VK → Prop := fun xs H Q => ∃ i, xs = [.int i] ∧ Q (.int (if i < 0 then -i else i)) H
theorem cl_abs {X : Cx} : CallR X (.builtin "abs") rAbs := call_abs
theorem w_absN (h : Q (.int (p : Int)) H) : rAbs [.int (p : Int)] H Q := ⟨p, rfl, by rw [if_neg (by omega)]; exact h⟩
theorem w_absI {i : Int} (h : Q (.int (i.natAbs : Int)) H) : rAbs [.int i] H Q := ⟨i, rfl, by
  rw [show (if i < 0 then -i else i) = (i.natAbs : Int) by split <;> omega]; exact h⟩
def rIntS : List V → Hp → VK → Prop := fun xs H Q => ∃ a n, xs = [.str a] ∧ PySem.intText? a = some n ∧ a.length ≤ 640 ∧ Q (.int n) H
theorem cl_intS {X : Cx} : CallR X (.type "int") rIntS := call_int_str
theorem int_0 : PySem.intText? (Sg [48]) = some 0 := by decide +kernel
theorem int_1 : PySem.intText? (Sg [49]) = some 1 := by decide +kernel
theorem w_intS {c : Nat} (hc : c = 48 ∨ c = 49) (h : Q (.int ((c - 48 : Nat) : Int)) H) : rIntS [.str (Sg [c])] H Q := by
  rcases hc with rfl | rfl
  · exact ⟨Sg [48], 0, rfl, int_0, by decide, h⟩
  · exact ⟨Sg [49], 1, rfl, int_1, by decide, h⟩
theorem op_inDK {X : Cx} {K : PySem.W.Frag} (hu : X.A.units + 65 < cLine) (h : X.K = K := by rfl) : OpR X (compareOp .In) (rInD K) := h ▸ op_inD hu
theorem op_notInDK {X : Cx} {K : PySem.W.Frag} (hu : X.A.units + 65 < cLine) (h : X.K = K := by rfl) : OpR X (compareOp .NotIn) (rNotInD K) := h ▸ op_notInD hu
theorem any_eqv {d : PyData} {ds : List PyData} (hd : pln 8 d = true) (hs : ∀ z ∈ ds, pln 8 z = true) : (ds.any fun z => PyData.eqv z d) = true ↔ d ∈ ds := by
  rw [List.any_eq_true]
  constructor
  · rintro ⟨z, hz, e⟩
    rw [(pln_eqv 8 8 z d (hs z hz) hd).mp e] at hz
    exact hz
  · intro h
    exact ⟨d, h, (pln_eqv 8 8 d d hd hd).mpr rfl⟩
theorem pln_list {k : Nat} {ds : List PyData} (h : ∀ z ∈ ds, pln k z = true) : pln (k + 1) (.list ds) = true := by simpa [pln] using h
theorem pln_tuple {k : Nat} {ds : List PyData} (h : ∀ z ∈ ds, pln k z = true) : pln (k + 1) (.tuple ds) = true := by simpa [pln] using h
theorem w_inP {d : PyData} {ds : List PyData} (h1 : Dp K H v d) (h2 : Dp K H y (.list ds)) (p1 : pln 8 d = true) (p2 : ∀ z ∈ ds, pln 8 z = true) (q1 : d ∈ ds → Q (.bl true) H) (q2 : d ∉ ds → Q (.bl false) H) : rInD K v y H Q := by
  refine ⟨d, ds, h1, h2, pln_shaped p1 (by decide), pln_shaped (pln_list p2) (by decide), ?_⟩
  have r := any_eqv p1 p2
  cases he : (ds.any fun z => PyData.eqv z d) with
  | true => exact q1 (r.mp he)
  | false => exact q2 (fun z => by rw [r.mpr z] at he; cases he)
theorem w_notInP {d : PyData} {ds : List PyData} (h1 : Dp K H v d) (h2 : Dp K H y (.list ds)) (p1 : pln 8 d = true) (p2 : ∀ z ∈ ds, pln 8 z = true) (q1 : d ∈ ds → Q (.bl false) H) (q2 : d ∉ ds → Q (.bl true) H) : rNotInD K v y H Q := by
  refine ⟨d, ds, h1, h2, pln_shaped p1 (by decide), pln_shaped (pln_list p2) (by decide), ?_⟩
  have r := any_eqv p1 p2
  cases he : (ds.any fun z => PyData.eqv z d) with
  | true => exact q1 (r.mp he)
  | false => exact q2 (fun z => by rw [r.mpr z] at he; cases he)
theorem Room65 {k : Nat} {A : Around} (r : Room k A) : A.units + 65 < cLine := by have := r.un; omega
end
/-! ### Euclid's steps -/
structure Eu (a b : Nat) (i a' b' : Nat) : Prop where
  g : Nat.gcd a' b' = Nat.gcd a b
  s : i = 0 → b' = b
  l : 1 ≤ i → b' < a' ∧ a' * b' * 2 ^ (i - 1) < 2 ^ 380 ∨ b' = 0
theorem Eu.start (a b : Nat) : Eu a b 0 a b := ⟨rfl, fun _ => rfl, fun h => by omega⟩
theorem Eu.step {a b i a' b' : Nat} (hb : b < 2 ^ 190) (h : Eu a b i a' b') (h0 : b' ≠ 0) : Eu a b (i + 1) b' (a' % b') := by
  have hlt : a' % b' < b' := Nat.mod_lt _ (by omega)
  refine ⟨?_, fun z => by omega, fun _ => ?_⟩
  · rw [← h.g, Nat.gcd_comm b', ← Nat.gcd_rec, Nat.gcd_comm]
  · left
    refine ⟨hlt, ?_⟩
    rw [Nat.add_sub_cancel]
    by_cases hi : i = 0
    · subst hi
      have e := h.s rfl
      subst e
      rw [Nat.pow_zero, Nat.mul_one]
      calc b' * (a' % b') ≤ b' * b' := Nat.mul_le_mul_left _ (Nat.le_of_lt hlt)
        _ < 2 ^ 190 * 2 ^ 190 := Nat.mul_lt_mul'' hb hb
        _ = 2 ^ 380 := by rw [← Nat.pow_add]
    · rcases h.l (by omega) with ⟨h1, h2⟩ | h1
      · have h3 : 2 * (a' % b') ≤ a' := by
          have := Nat.div_add_mod a' b'
          have : 1 ≤ a' / b' := Nat.div_pos (by omega) (by omega)
          have : b' * 1 ≤ b' * (a' / b') := Nat.mul_le_mul_left _ this
          omega
        have e : 2 ^ i = 2 * 2 ^ (i - 1) := by rw [← Nat.pow_succ']; congr 1; omega
        calc b' * (a' % b') * 2 ^ i = b' * (2 * (a' % b')) * 2 ^ (i - 1) := by rw [e]; grind
          _ ≤ b' * a' * 2 ^ (i - 1) := Nat.mul_le_mul_right _ (Nat.mul_le_mul_left _ h3)
          _ = a' * b' * 2 ^ (i - 1) := by rw [Nat.mul_comm b']
          _ < 2 ^ 380 := h2
      · exact absurd h1 h0
theorem Eu.done {a b i a' b' : Nat} (h : Eu a b i a' b') (hi : 382 ≤ i) : a' = Nat.gcd a b := by
  have : b' = 0 := by
    rcases h.l (by omega) with ⟨h1, h2⟩ | h1
    · by_cases hb : b' = 0
      · exact hb
      · exfalso
        have h3 : 1 ≤ a' * b' := Nat.mul_pos (by omega) (by omega)
        have h4 : 2 ^ 380 ≤ 2 ^ (i - 1) := Nat.pow_le_pow_right (by decide) (by omega)
        have h5 : 1 * 2 ^ (i - 1) ≤ a' * b' * 2 ^ (i - 1) := Nat.mul_le_mul_right _ h3
        omega
    · exact h1
  rw [← h.g, this, Nat.gcd_zero_right]
theorem Eu.zero {a b i a' : Nat} (h : Eu a b i a' 0) : a' = Nat.gcd a b := by rw [← h.g, Nat.gcd_zero_right]
end Tw
namespace Tw
open PySem PySem.Spec PyProof.Rows L2
/-- x lies between a and b, going up from a (by the law's own look) -/
def btw (a x b : Nat × Nat) : Prop := if sz a < sz b then sz a < sz x ∧ sz x < sz b else sz a < sz x ∨ sz x < sz b
instance {a x b : Nat × Nat} : Decidable (btw a x b) := by unfold btw; infer_instance
theorem btw_wu {a x b : Nat × Nat} (ha : Plc a) (hx : Plc x) (hb : Plc b) (h1 : x ≠ a) (h2 : x ≠ b) (h3 : a ≠ b) : btw a x b ↔ (0 < wu a x ∧ wu a x < wu a b) := by
  have s1 := sz_lt ha
  have s2 := sz_lt hx
  have s3 := sz_lt hb
  have n1 : sz x ≠ sz a := fun z => h1 (sz_inj hx ha z)
  have n2 : sz x ≠ sz b := fun z => h2 (sz_inj hx hb z)
  have n3 : sz a ≠ sz b := fun z => h3 (sz_inj ha hb z)
  rw [wu_eq ha hx, wu_eq ha hb]
  unfold btw
  (repeat' split) <;> omega
theorem wu_self {a : Nat × Nat} (ha : Plc a) : wu a a = 0 := by rw [wu_eq ha ha]; simp
theorem arc_top {a b : Nat × Nat} (ha : Plc a) (hb : Plc b) : ∃ n : Nat, (if 0 ≤ (b.1 : Int) * a.2 - (a.1 : Int) * b.2 then (b.1 : Int) * a.2 - (a.1 : Int) * b.2 else (b.1 : Int) * a.2 - (a.1 : Int) * b.2 + (a.2 : Int) * b.2) = (n : Int) ∧ n * CN = wu a b * (a.2 * b.2) := by
  have e1 := sz_mul ha
  have e2 := sz_mul hb
  have p1 := ha.lt
  have p2 := hb.lt
  have hl : (a.1 * b.2 ≤ b.1 * a.2 ↔ sz a ≤ sz b) := by
    have := sz_less hb ha
    omega
  have u1 : b.1 * a.2 * CN = sz b * (a.2 * b.2) := by grind
  have u2 : a.1 * b.2 * CN = sz a * (a.2 * b.2) := by grind
  have hab : a.1 * b.2 ≤ a.2 * b.2 := Nat.mul_le_mul_right _ (Nat.le_of_lt p1)
  have c1 : (b.1 : Int) * a.2 = ((b.1 * a.2 : Nat) : Int) := rfl
  have c2 : (a.1 : Int) * b.2 = ((a.1 * b.2 : Nat) : Int) := rfl
  have c3 : (a.2 : Int) * b.2 = ((a.2 * b.2 : Nat) : Int) := rfl
  rw [c1, c2, c3, wu_eq ha hb]
  have s1 := sz_lt ha
  by_cases h : sz a ≤ sz b
  · have h' := hl.mpr h
    refine ⟨b.1 * a.2 - a.1 * b.2, by rw [if_pos (by omega)]; omega, ?_⟩
    rw [if_pos h, Nat.sub_mul, Nat.sub_mul, u1, u2]
  · have h' : ¬ a.1 * b.2 ≤ b.1 * a.2 := fun z => h (hl.mp z)
    refine ⟨b.1 * a.2 + a.2 * b.2 - a.1 * b.2, by rw [if_neg (by omega)]; omega, ?_⟩
    rw [if_neg h, Nat.sub_mul, Nat.add_mul, u1, u2, Nat.sub_mul, Nat.add_mul, Nat.mul_comm CN]
/-- sums of arcs -/
theorem red_add {n k : Nat} {x y : Nat × Nat} (hx : x = red n CN) (hy : y = red k CN) : red (x.1 * y.2 + y.1 * x.2) (x.2 * y.2) = red (n + k) CN := by
  have h1 := red_cross (p := n) (q := CN)
  have h2 := red_cross (p := k) (q := CN)
  have p1 := red_pos (p := n) CN_pos
  have p2 := red_pos (p := k) CN_pos
  rw [← hx] at h1 p1
  rw [← hy] at h2 p2
  refine red_eq (Nat.mul_pos p1 p2) CN_pos ?_
  grind
theorem red_one : red CN CN = (1, 1) := by
  unfold red; rw [Nat.gcd_self, Nat.div_self CN_pos]
theorem red_two : red (2 * CN) CN = (2, 1) := by
  unfold red
  rw [Nat.gcd_comm, Nat.gcd_mul_left_right, Nat.div_self CN_pos, Nat.mul_div_cancel _ CN_pos]
theorem red_ne {n k : Nat} (h : red n CN = red k CN) : n = k := by
  have h1 := red_cross (p := n) (q := CN)
  have h2 := red_cross (p := k) (q := CN)
  have p1 := red_pos (p := n) CN_pos
  rw [h] at h1
  rw [h] at p1
  have := h1.symm.trans h2
  exact Nat.eq_of_mul_eq_mul_right p1 this
theorem arc_bd {a b : Nat × Nat} (ha : Plc a) (hb : Plc b) : 0 < (arcN a b).2 ∧ (arcN a b).2 < 2 ^ 48 ∧ (arcN a b).1 < 2 ^ 48 := by
  have p1 := ha.small
  have p3 := hb.small
  have hd : a.2 * b.2 < 2 ^ 48 := by
    calc a.2 * b.2 < 2 ^ 24 * 2 ^ 24 := Nat.mul_lt_mul'' p1 p3
      _ = 2 ^ 48 := by rw [← Nat.pow_add]
  have hpos : 0 < a.2 * b.2 := Nat.mul_pos ha.pos hb.pos
  obtain ⟨n, _, hn⟩ := arc_top ha hb
  have e : arcN a b = red n (a.2 * b.2) := (red_eq hpos CN_pos hn).symm
  have h1 := red_le (p := n) (q := a.2 * b.2)
  have h2 := red_pos (p := n) hpos
  have h3 : (arcN a b).1 < (arcN a b).2 := red_lt wu_lt
  rw [← e] at h1 h2
  omega
theorem wu_back {a b : Nat × Nat} (ha : Plc a) (hb : Plc b) (h : a ≠ b) : wu a b + wu b a = CN := by
  have s1 := sz_lt ha
  have s3 := sz_lt hb
  have n3 : sz a ≠ sz b := fun z => h (sz_inj ha hb z)
  rw [wu_eq ha hb, wu_eq hb ha]
  (repeat' split) <;> omega
theorem arc_mir {a b : Nat × Nat} (ha : Plc a) (hb : Plc b) : arcN (mirN b) (mirN a) = arcN a b := by unfold arcN; rw [mir_wu ha hb]
theorem sum_bd {a x b : Nat × Nat} (ha : Plc a) (hx : Plc x) (hb : Plc b) :
    0 < (red ((arcN a x).1 * (arcN x b).2 + (arcN x b).1 * (arcN a x).2) ((arcN a x).2 * (arcN x b).2)).2 ∧ (red ((arcN a x).1 * (arcN x b).2 + (arcN x b).1 * (arcN a x).2) ((arcN a x).2 * (arcN x b).2)).2 < 2 ^ 96 ∧
    (red ((arcN a x).1 * (arcN x b).2 + (arcN x b).1 * (arcN a x).2) ((arcN a x).2 * (arcN x b).2)).1 < 2 ^ 97 := by
  have b1 := arc_bd ha hx
  have b2 := arc_bd hx hb
  have hq : (arcN a x).2 * (arcN x b).2 < 2 ^ 96 := by
    calc (arcN a x).2 * (arcN x b).2 < 2 ^ 48 * 2 ^ 48 := Nat.mul_lt_mul'' b1.2.1 b2.2.1
      _ = 2 ^ 96 := by rw [← Nat.pow_add]
  have h1 : (arcN a x).1 * (arcN x b).2 < 2 ^ 96 := by
    calc (arcN a x).1 * (arcN x b).2 < 2 ^ 48 * 2 ^ 48 := Nat.mul_lt_mul'' b1.2.2 b2.2.1
      _ = 2 ^ 96 := by rw [← Nat.pow_add]
  have h2 : (arcN x b).1 * (arcN a x).2 < 2 ^ 96 := by
    calc (arcN x b).1 * (arcN a x).2 < 2 ^ 48 * 2 ^ 48 := Nat.mul_lt_mul'' b2.2.2 b1.2.1
      _ = 2 ^ 96 := by rw [← Nat.pow_add]
  exact ⟨red_pos (Nat.mul_pos b1.1 b2.1), Nat.lt_of_le_of_lt red_le hq, Nat.lt_of_le_of_lt red_le1 (by omega)⟩
end Tw
namespace Tw
open PySem PySem.Spec PyProof.Rows L2
def topS (i : Nat) : Stmt := PySem.Challenge.pw_twicedial_k06_arcs.main.body.getD i (.Pass ⟨0, 0, 0, 0⟩)
abbrev s_reduced : Stmt := topS 3
abbrev N_reduced : List Str := ["top", "bottom", "common"]
theorem sc_reduced : FnScope N_reduced ["top", "bottom"] (defScope s_reduced) := ⟨rfl, rfl, rfl, by decide +kernel, rfl, by decide +kernel, by decide +kernel⟩
abbrev s_size : Stmt := topS 4
abbrev N_size : List Str := ["x"]
theorem sc_size : FnScope N_size ["x"] (defScope s_size) := ⟨rfl, rfl, rfl, by decide +kernel, rfl, by decide +kernel, by decide +kernel⟩
abbrev s_way_up : Stmt := topS 5
abbrev N_way_up : List Str := ["a", "b"]
theorem sc_way_up : FnScope N_way_up ["a", "b"] (defScope s_way_up) := ⟨rfl, rfl, rfl, by decide +kernel, rfl, by decide +kernel, by decide +kernel⟩
abbrev s_mirrored : Stmt := topS 7
abbrev N_mirrored : List Str := ["x", "top", "bottom"]
theorem sc_mirrored : FnScope N_mirrored ["x"] (defScope s_mirrored) := ⟨rfl, rfl, rfl, by decide +kernel, rfl, by decide +kernel, by decide +kernel⟩
abbrev s_arc : Stmt := topS 9
abbrev N_arc : List Str := ["a", "b"]
theorem sc_arc : FnScope N_arc ["a", "b"] (defScope s_arc) := ⟨rfl, rfl, rfl, by decide +kernel, rfl, by decide +kernel, by decide +kernel⟩
abbrev s_is_within : Stmt := topS 10
abbrev N_is_within : List Str := ["a", "x", "b"]
theorem sc_is_within : FnScope N_is_within ["a", "x", "b"] (defScope s_is_within) := ⟨rfl, rfl, rfl, by decide +kernel, rfl, by decide +kernel, by decide +kernel⟩
abbrev s__law_begun : Stmt := topS 12
abbrev N__law_begun : List Str := ["script", "k", "cells", "great", "seed", "cell"]
theorem sc__law_begun : FnScope N__law_begun ["script", "k"] (defScope s__law_begun) := ⟨rfl, rfl, rfl, by decide +kernel, rfl, by decide +kernel, by decide +kernel⟩
abbrev s__law_draw : Stmt := topS 13
abbrev N__law_draw : List Str := ["m", "below", "found", "spot", "cells", "extra", "cell", "blend"]
theorem sc__law_draw : FnScope N__law_draw ["m", "below"] (defScope s__law_draw) := ⟨rfl, rfl, rfl, by decide +kernel, rfl, by decide +kernel, by decide +kernel⟩
abbrev s__law_of : Stmt := topS 14
abbrev N__law_of : List Str := ["m", "some"]
theorem sc__law_of : FnScope N__law_of ["m", "some"] (defScope s__law_of) := ⟨rfl, rfl, rfl, by decide +kernel, rfl, by decide +kernel, by decide +kernel⟩
abbrev s__law_twos : Stmt := topS 15
abbrev N__law_twos : List Str := ["count", "found", "k"]
theorem sc__law_twos : FnScope N__law_twos ["count"] (defScope s__law_twos) := ⟨rfl, rfl, rfl, by decide +kernel, rfl, by decide +kernel, by decide +kernel⟩
abbrev s__law_shared : Stmt := topS 16
abbrev N__law_shared : List Str := ["a", "b", "k"]
theorem sc__law_shared : FnScope N__law_shared ["a", "b"] (defScope s__law_shared) := ⟨rfl, rfl, rfl, by decide +kernel, rfl, by decide +kernel, by decide +kernel⟩
abbrev s__law_ratio : Stmt := topS 17
abbrev N__law_ratio : List Str := ["a", "b", "shared"]
theorem sc__law_ratio : FnScope N__law_ratio ["a", "b"] (defScope s__law_ratio) := ⟨rfl, rfl, rfl, by decide +kernel, rfl, by decide +kernel, by decide +kernel⟩
abbrev s__law_less : Stmt := topS 18
abbrev N__law_less : List Str := ["x", "y"]
theorem sc__law_less : FnScope N__law_less ["x", "y"] (defScope s__law_less) := ⟨rfl, rfl, rfl, by decide +kernel, rfl, by decide +kernel, by decide +kernel⟩
abbrev s__law_double : Stmt := topS 19
abbrev N__law_double : List Str := ["x"]
theorem sc__law_double : FnScope N__law_double ["x"] (defScope s__law_double) := ⟨rfl, rfl, rfl, by decide +kernel, rfl, by decide +kernel, by decide +kernel⟩
abbrev s__law_binary : Stmt := topS 20
abbrev N__law_binary : List Str := ["head", "cycle", "front", "back", "sign", "wide", "bottom"]
theorem sc__law_binary : FnScope N__law_binary ["head", "cycle"] (defScope s__law_binary) := ⟨rfl, rfl, rfl, by decide +kernel, rfl, by decide +kernel, by decide +kernel⟩
abbrev s__law_string : Stmt := topS 21
abbrev N__law_string : List Str := ["m", "size_v", "k"]
theorem sc__law_string : FnScope N__law_string ["m", "size_v"] (defScope s__law_string) := ⟨rfl, rfl, rfl, by decide +kernel, rfl, by decide +kernel, by decide +kernel⟩
abbrev s__law_place : Stmt := topS 22
abbrev N__law_place : List Str := ["m", "ahead", "again"]
theorem sc__law_place : FnScope N__law_place ["m", "ahead", "again"] (defScope s__law_place) := ⟨rfl, rfl, rfl, by decide +kernel, rfl, by decide +kernel, by decide +kernel⟩
abbrev s__law_any_place : Stmt := topS 23
abbrev N__law_any_place : List Str := ["m", "limit", "again"]
theorem sc__law_any_place : FnScope N__law_any_place ["m", "limit"] (defScope s__law_any_place) := ⟨rfl, rfl, rfl, by decide +kernel, rfl, by decide +kernel, by decide +kernel⟩
abbrev s__law_between : Stmt := topS 24
abbrev N__law_between : List Str := ["a", "x", "b"]
theorem sc__law_between : FnScope N__law_between ["a", "x", "b"] (defScope s__law_between) := ⟨rfl, rfl, rfl, by decide +kernel, rfl, by decide +kernel, by decide +kernel⟩
abbrev s__law_arc : Stmt := topS 25
abbrev N__law_arc : List Str := ["a", "b", "top"]
theorem sc__law_arc : FnScope N__law_arc ["a", "b"] (defScope s__law_arc) := ⟨rfl, rfl, rfl, by decide +kernel, rfl, by decide +kernel, by decide +kernel⟩
abbrev s__law_plus : Stmt := topS 26
abbrev N__law_plus : List Str := ["x", "y"]
theorem sc__law_plus : FnScope N__law_plus ["x", "y"] (defScope s__law_plus) := ⟨rfl, rfl, rfl, by decide +kernel, rfl, by decide +kernel, by decide +kernel⟩
abbrev s_law : Stmt := topS 27
abbrev N_law : List Str := ["script", "k", "m", "a", "b", "x", "one", "other", "told", "due", "total"]
theorem sc_law : FnScope N_law ["script"] (defScope s_law) := ⟨rfl, rfl, rfl, by decide +kernel, rfl, by decide +kernel, by decide +kernel⟩
structure Top (K : PySem.W.Frag) (mg : Str → Option Value) where
  f_reduced : Addr
  fd_reduced : FuncData
  F_reduced : Fun K "reduced" "reduced" s_reduced f_reduced fd_reduced
  b_reduced : Binds K fd_reduced ["top", "bottom"] []
  g_reduced : mg "reduced" = some (.ref f_reduced)
  f_size : Addr
  fd_size : FuncData
  F_size : Fun K "size" "size" s_size f_size fd_size
  b_size : Binds K fd_size ["x"] []
  g_size : mg "size" = some (.ref f_size)
  f_way_up : Addr
  fd_way_up : FuncData
  F_way_up : Fun K "way_up" "way_up" s_way_up f_way_up fd_way_up
  b_way_up : Binds K fd_way_up ["a", "b"] []
  g_way_up : mg "way_up" = some (.ref f_way_up)
  f_mirrored : Addr
  fd_mirrored : FuncData
  F_mirrored : Fun K "mirrored" "mirrored" s_mirrored f_mirrored fd_mirrored
  b_mirrored : Binds K fd_mirrored ["x"] []
  g_mirrored : mg "mirrored" = some (.ref f_mirrored)
  f_arc : Addr
  fd_arc : FuncData
  F_arc : Fun K "arc" "arc" s_arc f_arc fd_arc
  b_arc : Binds K fd_arc ["a", "b"] []
  g_arc : mg "arc" = some (.ref f_arc)
  f_is_within : Addr
  fd_is_within : FuncData
  F_is_within : Fun K "is_within" "is_within" s_is_within f_is_within fd_is_within
  b_is_within : Binds K fd_is_within ["a", "x", "b"] []
  g_is_within : mg "is_within" = some (.ref f_is_within)
  f__law_begun : Addr
  fd__law_begun : FuncData
  F__law_begun : Fun K "_law_begun" "_law_begun" s__law_begun f__law_begun fd__law_begun
  b__law_begun : Binds K fd__law_begun ["script", "k"] []
  g__law_begun : mg "_law_begun" = some (.ref f__law_begun)
  f__law_draw : Addr
  fd__law_draw : FuncData
  F__law_draw : Fun K "_law_draw" "_law_draw" s__law_draw f__law_draw fd__law_draw
  b__law_draw : Binds K fd__law_draw ["m", "below"] []
  g__law_draw : mg "_law_draw" = some (.ref f__law_draw)
  f__law_of : Addr
  fd__law_of : FuncData
  F__law_of : Fun K "_law_of" "_law_of" s__law_of f__law_of fd__law_of
  b__law_of : Binds K fd__law_of ["m", "some"] []
  g__law_of : mg "_law_of" = some (.ref f__law_of)
  f__law_twos : Addr
  fd__law_twos : FuncData
  F__law_twos : Fun K "_law_twos" "_law_twos" s__law_twos f__law_twos fd__law_twos
  b__law_twos : Binds K fd__law_twos ["count"] []
  g__law_twos : mg "_law_twos" = some (.ref f__law_twos)
  f__law_shared : Addr
  fd__law_shared : FuncData
  F__law_shared : Fun K "_law_shared" "_law_shared" s__law_shared f__law_shared fd__law_shared
  b__law_shared : Binds K fd__law_shared ["a", "b"] []
  g__law_shared : mg "_law_shared" = some (.ref f__law_shared)
  f__law_ratio : Addr
  fd__law_ratio : FuncData
  F__law_ratio : Fun K "_law_ratio" "_law_ratio" s__law_ratio f__law_ratio fd__law_ratio
  b__law_ratio : Binds K fd__law_ratio ["a", "b"] []
  g__law_ratio : mg "_law_ratio" = some (.ref f__law_ratio)
  f__law_less : Addr
  fd__law_less : FuncData
  F__law_less : Fun K "_law_less" "_law_less" s__law_less f__law_less fd__law_less
  b__law_less : Binds K fd__law_less ["x", "y"] []
  g__law_less : mg "_law_less" = some (.ref f__law_less)
  f__law_double : Addr
  fd__law_double : FuncData
  F__law_double : Fun K "_law_double" "_law_double" s__law_double f__law_double fd__law_double
  b__law_double : Binds K fd__law_double ["x"] []
  g__law_double : mg "_law_double" = some (.ref f__law_double)
  f__law_binary : Addr
  fd__law_binary : FuncData
  F__law_binary : Fun K "_law_binary" "_law_binary" s__law_binary f__law_binary fd__law_binary
  b__law_binary : Binds K fd__law_binary ["head", "cycle"] []
  g__law_binary : mg "_law_binary" = some (.ref f__law_binary)
  f__law_string : Addr
  fd__law_string : FuncData
  F__law_string : Fun K "_law_string" "_law_string" s__law_string f__law_string fd__law_string
  b__law_string : Binds K fd__law_string ["m", "size_v"] []
  g__law_string : mg "_law_string" = some (.ref f__law_string)
  f__law_place : Addr
  fd__law_place : FuncData
  F__law_place : Fun K "_law_place" "_law_place" s__law_place f__law_place fd__law_place
  b__law_place : Binds K fd__law_place ["m", "ahead", "again"] []
  g__law_place : mg "_law_place" = some (.ref f__law_place)
  f__law_any_place : Addr
  fd__law_any_place : FuncData
  F__law_any_place : Fun K "_law_any_place" "_law_any_place" s__law_any_place f__law_any_place fd__law_any_place
  b__law_any_place : Binds K fd__law_any_place ["m", "limit"] []
  g__law_any_place : mg "_law_any_place" = some (.ref f__law_any_place)
  f__law_between : Addr
  fd__law_between : FuncData
  F__law_between : Fun K "_law_between" "_law_between" s__law_between f__law_between fd__law_between
  b__law_between : Binds K fd__law_between ["a", "x", "b"] []
  g__law_between : mg "_law_between" = some (.ref f__law_between)
  f__law_arc : Addr
  fd__law_arc : FuncData
  F__law_arc : Fun K "_law_arc" "_law_arc" s__law_arc f__law_arc fd__law_arc
  b__law_arc : Binds K fd__law_arc ["a", "b"] []
  g__law_arc : mg "_law_arc" = some (.ref f__law_arc)
  f__law_plus : Addr
  fd__law_plus : FuncData
  F__law_plus : Fun K "_law_plus" "_law_plus" s__law_plus f__law_plus fd__law_plus
  b__law_plus : Binds K fd__law_plus ["x", "y"] []
  g__law_plus : mg "_law_plus" = some (.ref f__law_plus)
  f_law : Addr
  fd_law : FuncData
  F_law : Fun K "law" "law" s_law f_law fd_law
  b_law : Binds K fd_law ["script"] []
  g_law : mg "law" = some (.ref f_law)
  z_abs : mg "abs" = none
  z_bool : mg "bool" = none
  z_int : mg "int" = none
  z_isinstance : mg "isinstance" = none
  z_len : mg "len" = none
  z_max : mg "max" = none
  z_min : mg "min" = none
  z_range : mg "range" = none
  z_str : mg "str" = none
  z_tuple : mg "tuple" = none
  i_gcd : mg "gcd" = some (.builtin "math.gcd")
  t_COMMON : Tok
  c_COMMON : mg "COMMON" = some (.int ((CN : Nat) : Int) t_COMMON)
end Tw
namespace Tw
open PySem PySem.Spec PyProof.Rows L2
local macro_rules | `(tactic| walk_at "dp") => `(tactic| first
  | exact Dp.int _ | exact Dp.str _ | exact Dp.bl _ | exact Dp.non
  | assumption
  | ((refine' dp_same ?he ?hd); (case he => assumption); (case hd => walk_at "dp"))
  | ((refine' dp_keep ?he ?hd); (case he => assumption); (case hd => walk_at "dp")))
local macro_rules | `(tactic| walk_at "dpa") => `(tactic| first
  | exact DpAll.nil
  | assumption
  | ((refine' DpAll.cons ?ha ?hb); (case ha => walk_at "dp"); (case hb => walk_at "dpa")))
local macro_rules | `(tactic| walk_at "ty") => `(tactic| first
  | exact ty_int | exact ty_non | exact ty_bl | exact ty_str
  | ((refine' ty_tup ?hx); (case hx => walk_at "dp"))
  | ((refine' ty_lst ?hx); (case hx => walk_at "dp")))
local macro_rules | `(tactic| walk_at "c") => `(tactic| ((try dsimp only); (first
  | (with_reducible assumption) | omega | decide
  | (simp only [List.length_map]; omega)
  | exact mulS ⟨by omega, by omega⟩ ⟨by omega, by omega⟩
  | exact divS ⟨by omega, by omega⟩)))
local macro_rules | `(tactic| walk_at "e0") => `(tactic| first
  | with_reducible refine w_c ?_
  | ((with_reducible refine' w_var ?hv ?_); case hv => rfl)
  | with_reducible refine w_op ?_
  | with_reducible refine w_rI0 ?_
  | with_reducible refine w_rU ?_
  | with_reducible refine w_cons ?_
  | with_reducible refine w_nil ?_
  | with_reducible refine w_cb ?_
  | with_reducible refine w_call ?_
  | with_reducible refine w_tTest ?_
  | with_reducible refine w_bl ?_
  | with_reducible refine w_blV ?_
  | with_reducible refine w_andV ?_
  | with_reducible refine w_chain ?_
  | with_reducible refine w_orV ?_
  | with_reducible refine w_notV ?_
  | with_reducible refine w_tB ?_
  | with_reducible refine w_and ?_
  | with_reducible refine w_or ?_
  | with_reducible refine w_not ?_
  | with_reducible refine w_tI ?_
  | with_reducible refine w_un ?_
  | with_reducible refine w_int ?_
  | with_reducible refine w_tup ?_
  | with_reducible refine w_lst ?_
  | with_reducible refine w_tIsN ?_
  | with_reducible refine w_tNotN ?_
  | with_reducible refine w_slice ?_
  | with_reducible refine w_noPart ?_
  | with_reducible refine w_part ?_
  | with_reducible refine w_pint ?_
  | with_reducible refine w_isStr ?_
  | with_reducible refine w_bm ?_
  | with_reducible refine w_bm0 ?_
  | with_reducible refine w_m1 ?_
  | with_reducible refine w_tyS ?_
  | with_reducible refine w_dget ?_
  | with_reducible refine w_iteT ?_
  | with_reducible refine w_iteF ?_
  | with_reducible refine w_iteNT ?_
  | with_reducible refine w_iteNF ?_
  | with_reducible refine w_pp ?_
  | with_reducible refine w_pp0 ?_
  | with_reducible refine w_lcL ?_
  | with_reducible refine w_lcT ?_
  | with_reducible refine w_lcR1 ?_
  | with_reducible refine w_lcR2 ?_
  | with_reducible refine w_tYes ?_
  | ((with_reducible refine' w_dgS ?h ?hm ?_); (case h => assumption); (case hm => first | exact mo_left | exact mo_seed | exact mo_cells | exact mo_spot))
  | ((with_reducible refine' w_isiY ?ty ?h ?_); (case ty => walk_at "ty"); (case h => decide +kernel))
  | ((with_reducible refine' w_isiN ?ty ?h ?_); (case ty => walk_at "ty"); (case h => decide +kernel))
  | ((with_reducible refine' w_lenL ?h ?_); case h => walk_at "dp")
  | ((with_reducible refine' w_lenT ?h ?_); case h => walk_at "dp")
  | ((with_reducible refine' w_lenSg ?h ?_); case h => walk_at "c")
  | ((with_reducible refine' w_lenS ?h ?_); case h => walk_at "c")
  | ((with_reducible refine' w_addSg ?h ?_); case h => walk_at "c")
  | ((with_reducible refine' w_rI ?c ?_); case c => walk_at "c")
  | with_reducible refine w_eqI ?_
  | with_reducible refine w_neI ?_
  | ((with_reducible refine' w_rEq ?hs ?_); case hs => rfl)
  | ((with_reducible refine' w_rNe ?hs ?_); case hs => rfl))
local macro_rules | `(tactic| walk_at "e") => `(tactic| first
  | walk_at "e0"
  | ((with_reducible refine' w_rMod ?c ?_); case c => walk_at "c"))
local macro_rules | `(tactic| walk_at "p") => `(tactic| first
  | ((with_reducible refine' w_ix0 ?h ?_); case h => walk_at "dp")
  | ((with_reducible refine' w_ix1 ?h ?_); case h => walk_at "dp")
  | ((with_reducible refine' w_gTupP ?h ?_); case h => walk_at "dp")
  | with_reducible refine w_gcdN ?_
  | with_reducible refine w_absN ?_
  | with_reducible refine w_absI ?_
  | with_reducible refine w_max2 (fun _ _ => ?_)
  | with_reducible refine w_min2 (fun _ _ => ?_))
local macro_rules | `(tactic| walk_at "s0") => `(tactic| first
  | with_reducible refine w_seq ?_
  | with_reducible refine w_asg ?_
  | with_reducible refine w_ret ?_
  | with_reducible refine w_drop ?_
  | with_reducible refine w_next ?_
  | with_reducible refine w_retN ?_
  | with_reducible refine w_brk ?_
  | with_reducible refine w_cont ?_
  | with_reducible refine w_dput ?_
  | with_reducible refine w_forL ?_
  | with_reducible refine w_wb ?_
  | with_reducible refine w_forT ?_
  | with_reducible refine w_forR1 ?_
  | with_reducible refine w_forR2 ?_
  | with_reducible refine w_forS ?_
  | with_reducible refine w_gName ?_
  | with_reducible refine w_par ?_
  | with_reducible refine w_asgG ?_
  | with_reducible refine w_par3 ?_
  | with_reducible refine w_par33 ?_
  | with_reducible refine w_par2 ?_)
local macro_rules | `(tactic| walk_at "s") => `(tactic| first
  | walk_at "s0"
  | with_reducible refine w_ifS ?_)
local macro_rules | `(tactic| walk_at "w") => `(tactic| repeat first | walk_at "e" | walk_at "s")
local macro_rules | `(tactic| walk_at "w0") => `(tactic| repeat first | walk_at "e0" | walk_at "s")
local macro_rules | `(tactic| walk_at "wp") => `(tactic| repeat first | walk_at "e" | walk_at "s" | walk_at "p")
local macro_rules | `(tactic| walk_at "t") => `(tactic| first
  | ((with_reducible refine' w_newT (K := ‹PySem.W.Frag›) ?hl ?hd (fun _ _ _ _ _ => ?_)); (case hl => exact len_ok (by simp)); (case hd => walk_at "dpa"))
  | ((with_reducible refine' w_newL (K := ‹PySem.W.Frag›) ?hl ?hd (fun _ _ _ _ _ _ => ?_)); (case hl => exact len_ok (by simp)); (case hd => walk_at "dpa"))
  | ((with_reducible refine' w_gTup2 ?h (fun _ _ _ _ => ?_)); case h => walk_at "dp"))
local macro_rules | `(tactic| walk_at "wt") => `(tactic| repeat first | walk_at "e" | walk_at "s" | walk_at "p" | walk_at "t")
local macro_rules | `(tactic| walk_at "same") => `(tactic| first
  | exact Same.refl _
  | assumption
  | ((refine' Same.trans ?ha ?hb); (case hb => assumption); (case ha => walk_at "same")))
local macro_rules | `(tactic| walk_at "keep") => `(tactic| first
  | exact Keep.refl _
  | assumption
  | (refine Keep.of ?_; assumption)
  | ((refine' Keep.trans ?ha ?hb); (case hb => first | assumption | (refine Keep.of ?_; assumption)); (case ha => walk_at "keep")))
local macro_rules | `(tactic| walk_at "wi") => `(tactic| repeat first | walk_at "e" | walk_at "s0" | walk_at "p" | walk_at "t")
section
variable {P : Program} {w : World} {K : PySem.W.Frag} {mg : Str → Option Value} {base : Heap}
/-! ### reduced -/
def sp_reduced (K : PySem.W.Frag) : Sp := fun vs H Q _ => ∃ p q : Nat, vs = [.int (p : Int), .int (q : Int)] ∧ 0 < q ∧ q < 2 ^ 250 ∧ ∀ v H', Same H H' → Dp K H' v (pd (red p q)) → Q v H'
theorem ok_reduced (T : Top K mg) : FnOk P w K mg base CX0 1 T.f_reduced T.fd_reduced ["top", "bottom"] (sp_reduced K) := by
  refine T.F_reduced.ok sc_reduced (fun vs H Q E h => ?_) (fun cdv A outer s H vs Q E hr h => ?_)
  · obtain ⟨p, q, rfl, _⟩ := h
    rfl
  · obtain ⟨p, q, rfl, h0, h1, q1⟩ := h
    refine ⟨_, (pss_cons (ps_set (i := 2) sc_reduced.nd (by rfl) (by first | exact Or.inl rfl | exact Or.inr rfl) (pe_callBfun cr_gcd (by rfl) T.i_gcd (pa_cons (pv 0) (pa_cons (pv 1) pa_nil))))
      (pss_one (ps_ret (pe_tup (pa_cons (pe_op op_fdivW (pv 0) (pv 2)) (pa_cons (pe_op op_fdivW (pv 1) (pv 2)) pa_nil)))))), ?_⟩
    rw [show start N_reduced [.int (p : Int), .int (q : Int)] = [some (.int (p : Int)), some (.int (q : Int)), none] from rfl]
    try dsimp only [cxK]
    have g0 : 0 < Nat.gcd p q := Nat.gcd_pos_of_pos_right p h0
    have g1 : Nat.gcd p q ≤ q := Nat.le_of_dvd h0 (Nat.gcd_dvd_right p q)
    walk_at "wp"
    refine w_newT (K := K) (len_ok (by simp)) (.cons (.int _) (.cons (.int _) .nil)) fun t H1 n1 e1 d1 => ?_
    exact q1 _ H1 e1 d1

/-! ### size -/
def sp_size (K : PySem.W.Frag) : Sp := fun vs H Q _ => ∃ v x, vs = [v] ∧ Dp K H v (pd x) ∧ Plc x ∧ Q (.int (sz x : Int)) H
theorem ok_size (T : Top K mg) : FnOk P w K mg base CX0 1 T.f_size T.fd_size ["x"] (sp_size K) := by
  refine T.F_size.ok sc_size (fun vs H Q E h => ?_) (fun cdv A outer s H vs Q E hr h => ?_)
  · obtain ⟨v, x, rfl, _⟩ := h
    rfl
  · obtain ⟨v, x, rfl, hv, hx, q⟩ := h
    refine ⟨_, (pss_one (ps_ret (pe_op op_mulX (pe_ix (ix_tupK (K := K)) (pv 0) pe_int (fun _ _ => rfl)) (pe_op op_fdivW (pe_cint (by rfl) T.c_COMMON) (pe_ix (ix_tupK (K := K)) (pv 0) pe_int (fun _ _ => rfl)))))), ?_⟩
    rw [show start N_size [v] = [some (v)] from rfl]
    try dsimp only [cxK]
    have p0 := hx.pos
    have p1 := hx.small
    have p2 := hx.lt
    have c1 := CN_lt
    have c2 : CN / x.2 ≤ CN := Nat.div_le_self _ _
    have c3 : ((CN : Int) / (x.2 : Int)) = ((CN / x.2 : Nat) : Int) := rfl
    walk_at "wp"
    rw [c3]
    have e4 : sz x = x.1 * (CN / x.2) := rfl
    rw [e4] at q
    generalize CN / x.2 = z at *
    walk_at "wp"
    exact q

/-! ### mirrored -/
def sp_mirrored (K : PySem.W.Frag) : Sp := fun vs H Q _ => ∃ v x, vs = [v] ∧ Dp K H v (pd x) ∧ x.1 < x.2 ∧ ∀ v H', Same H H' → Dp K H' v (pd (mirN x)) → Q v H'
theorem ok_mirrored (T : Top K mg) : FnOk P w K mg base CX0 1 T.f_mirrored T.fd_mirrored ["x"] (sp_mirrored K) := by
  refine T.F_mirrored.ok sc_mirrored (fun vs H Q E h => ?_) (fun cdv A outer s H vs Q E hr h => ?_)
  · obtain ⟨v, x, rfl, _⟩ := h
    rfl
  · obtain ⟨v, x, rfl, hv, hx, q⟩ := h
    refine ⟨_, (pss_cons (ps_asg (pv 0) (pg_tupK (K := K) (n := 2) (by rfl) (pgs_cons (pg_name (i := 1) sc_mirrored.nd (by rfl) (by first | exact Or.inl rfl | exact Or.inr rfl)) (pgs_cons (pg_name (i := 2) sc_mirrored.nd (by rfl) (by first | exact Or.inl rfl | exact Or.inr rfl)) pgs_nil))))
      (pss_one (ps_ret (pe_tup (pa_cons (pe_op op_modD (pe_un un_neg (pv 1)) (pv 2)) (pa_cons (pv 2) pa_nil)))))), ?_⟩
    rw [show start N_mirrored [v] = [some (v), none, none] from rfl]
    try dsimp only [cxK]
    walk_at "wp"
    refine w_newT (K := K) (len_ok (by simp)) (.cons (.int _) (.cons (.int _) .nil)) fun t H1 n1 e1 d1 => ?_
    rw [mir_int hx] at d1
    exact q _ H1 e1 d1

/-! ### _law_begun -/
def sp__law_begun (K : PySem.W.Frag) : Sp := fun vs H Q _ => ∃ (a : Addr) (ns : List Int) (k : Int), vs = [.ref a, .int k] ∧ SqL K H a (ns.map V.int) ∧ ns.length ≤ 63 ∧ (∀ n ∈ ns, Big n) ∧ 0 ≤ k ∧ k < 1000 ∧
  ∀ (m c : Addr) H', Same H H' → H m = none → Mo H' m c 0 → Q (.ref m) H'
theorem ok__law_begun (T : Top K mg) : FnOk P w K mg base CX0 1 T.f__law_begun T.fd__law_begun ["script", "k"] (sp__law_begun K) := by
  refine T.F__law_begun.ok sc__law_begun (fun vs H Q E h => ?_) (fun cdv A outer s H vs Q E hr h => ?_)
  · obtain ⟨a, ns, k, rfl, _⟩ := h
    rfl
  · obtain ⟨a, ns, k, rfl, hS, hl, hB, hk0, hk1, q⟩ := h
    refine ⟨_, (pss_cons (ps_set (i := 2) sc__law_begun.nd (by rfl) (by first | exact Or.inl rfl | exact Or.inr rfl) (pe_op op_catL (pe_slice (sl_listK (K := K)) (pv 0) (po_some (pv 1)) po_none) (pe_slice (sl_listK (K := K)) (pv 0) po_none (po_some (pv 1)))))
      (pss_cons (ps_setLc (i := 3) (own := [("cell", 5)]) (g := gName 5) (by rfl) sc__law_begun.nd (by rfl) (by rfl) (sw_true rfl rfl rfl (by decide +kernel)) (pi_listK (K := K) (pv 2)) (blkOk_by (own := [("cell", 5)]) (N := N__law_begun) (sc := defScope s__law_begun) (by decide +kernel)) (fun _ _ _ _ _ => (pg_name (i := 5) sc__law_begun.nd (by rfl) (by first | exact Or.inl rfl | exact Or.inr rfl))) (fun _ _ _ _ _ => (pts_one (pt_cmpR op_ge (pv 5) (pe_op op_pow pe_int pe_int) (nomark _)))) (fun _ _ _ _ _ => (pv 5)))
      (pss_cons (ps_set (i := 4) sc__law_begun.nd (by rfl) (by first | exact Or.inl rfl | exact Or.inr rfl) (pe_op op_add pe_int (pv 1)))
      (pss_cons (ps_for PassesOwn.never (by rfl) (pi_listK (K := K) (pv 2)) (pg_name (i := 5) sc__law_begun.nd (by rfl) (by first | exact Or.inl rfl | exact Or.inr rfl)) (pss_one (ps_set (i := 4) sc__law_begun.nd (by rfl) (by first | exact Or.inl rfl | exact Or.inr rfl) (pe_op op_modD (pe_callTy cl_int (by rfl) T.z_int (by decide +kernel) (pa_cons (pe_op op_add (pe_op op_mulX (pv 4) pe_int) (pv 5)) pa_nil)) pe_int))))
      (pss_one (ps_ret (pe_disp (pps_cons pe_str (pe_ifExp (pt_cmpR (op_neK (K := K) hr.units) (pv 3) (pe_lst pa_nil) (nomark _)) (pe_ix (ix_listK (K := K)) (pv 3) pe_int (fun _ _ => rfl)) pe_int) (pps_cons pe_str (pv 4) (pps_cons pe_str (pe_op op_catL (pv 2) (pe_lst (pa_cons (pe_op op_add (pe_op op_mulX pe_int (pv 1)) pe_int) pa_nil))) (pps_cons pe_str pe_int pps_nil)))) (by rfl) (by rfl) (fun z => by cases z) (by decide)))))))), ?_⟩
    rw [show start N__law_begun [.ref a, .int k] = [some (.ref a), some (.int k), none, none, none, none] from rfl]
    try dsimp only [cxK]
    have hz : sizeLine = 16777216 := sizeLine_eq
    walk_at "w"
    refine w_slV hS fun p1 H1 n1 e1 f1 => ?_
    walk_at "w"
    refine w_slV (e1.seq hS) fun p2 H2 n2 e2 f2 => ?_
    rw [cutD_from _ hk0] at f1
    rw [cutD_to _ hk0] at f2
    refine w_catL (e2 _ _ f1) f2 (by simp only [List.length_drop, List.length_take, List.length_map]; omega) fun p3 H3 n3 e3 f3 => ?_
    rw [← List.map_drop, ← List.map_take, ← List.map_append] at f3
    generalize hcs : ns.drop k.toNat ++ ns.take k.toNat = cs at f3
    have hcB : ∀ n ∈ cs, Big n := fun n hn => by
      rw [← hcs] at hn
      rcases List.mem_append.mp hn with hn | hn
      · exact hB n (List.mem_of_mem_drop hn)
      · exact hB n (List.mem_of_mem_take hn)
    have hcl : cs.length ≤ 63 := by rw [← hcs]; simp only [List.length_append, List.length_drop, List.length_take]; omega
    have d3 : Dp K H3 (.ref p3) (.list (cs.map PyData.int)) := .lst (.of f3) (dpa_ints cs)
    have s3 : Same H H3 := (e1.trans e2).trans e3
    walk_at "w"
    refine lc_list_by (JP H3 fun i es => ∃ gs : List Int, es = gs.map PyData.int ∧ gs.length ≤ i) (JP.ok ⟨[], rfl, by simp⟩) d3 (by simp; omega) (fun _ => rfl) ?_ ?_
    · intro i d y H' es hd hy hJ Yes No hyes hno
      obtain ⟨hs, gs, rfl, hgl⟩ := hJ
      rw [List.getElem?_map] at hd
      obtain ⟨z, hz1, rfl⟩ := Option.map_eq_some_iff.mp hd
      cases hy
      walk_at "w"
      refine w_rI ⟨by decide, by decide, by decide⟩ ?_
      walk_at "w"
      refine w_ite (fun hb => ?_) (fun hb => ?_)
      · walk_at "w"
        exact hyes _ H' (.int z) (Keep.refl _) rfl (.int z) ⟨hs, gs ++ [z], by simp, by simp; omega⟩
      · exact hno H' (Keep.refl _) ⟨hs, gs, rfl, by omega⟩
    · intro p4 H4 vs4 es n4 k4 f4 d4 hJ
      obtain ⟨s4, gs, rfl, hgl⟩ := hJ
      rw [List.length_map] at hgl
      walk_at "w"
      refine forL_by (fun i σ' H' => ∃ (sd : Int) (y5 : Option V), σ' = [some (.ref a), some (.int k), some (.ref p3), some (.ref p4), some (.int sd), y5] ∧ H4 = H' ∧ 0 ≤ sd ∧ sd < 2147483647) (dp_same s4 d3) ⟨71 + k, none, rfl, rfl, by omega, by omega⟩ ?_ ?_ ?_
      · rintro i σ' H' _ ⟨sd, y5, rfl, rfl, _⟩
        exact Keep.refl _
      · rintro i d y σ' H' hd hy ⟨sd, y5, rfl, rfl, hsd0, hsd1⟩
        rw [List.getElem?_map] at hd
        obtain ⟨z, hz1, rfl⟩ := Option.map_eq_some_iff.mp hd
        cases hy
        walk_at "w0"
        refine w_rModB (by decide) fun r h0 h1 => ?_
        walk_at "w0"
        exact ⟨r, _, rfl, rfl, h0, h1⟩
      · rintro σ' H' ⟨sd, y5, rfl, rfl, hsd0, hsd1⟩
        walk_at "w"
        refine w_disp fun pd Hd nd ed fd => ?_
        walk_at "w"
        refine w_newL (K := K) (by decide) .nil fun p6 H6 n6 e6 f6 d6 => ?_
        have d4' : Dp K H6 (.ref p4) (.list (gs.map PyData.int)) := dp_same e6 (dp_same ed d4)
        have rest : ∀ (lv : Int) (H7 : Hp), Same H6 H7 → rNewL [V.int (53 * k + 11)] H7 fun y H2 => rCat (V.ref p3) y H2 fun y H2 =>
            tPairs [(tC (V.str (Str.ofString "spot")), tC (V.int 0))] [some (V.ref a), some (V.int k), some (V.ref p3), some (V.ref p4), some (V.int sd), y5] H2 fun ps H3 =>
              rDisp pd ((V.str (Str.ofString "left"), V.int lv) :: (V.str (Str.ofString "seed"), V.int sd) :: (V.str (Str.ofString "cells"), y) :: ps) H3 Q := by
          intro lv H7 e7
          refine w_newL (K := K) (len_ok (by simp)) (dpa_one (.int _)) fun p8 H8 n8 e8 f8 d8 => ?_
          refine w_catL (e8 _ _ (e7 _ _ (e6 _ _ (ed _ _ (s4 _ _ f3))))) f8 (by simp; omega) fun p9 H9 n9 e9 f9 => ?_
          walk_at "w"
          have fd9 : H9 pd = some (.dK []) := e9 _ _ (e8 _ _ (e7 _ _ (e6 _ _ fd)))
          refine ⟨fd9, [(.inr "left", .int lv), (.inr "seed", .int sd), (.inr "cells", .ref p9), (.inr "spot", .int 0)], rfl, by simp, ?_⟩
          have hm : mergeK [] [((.inr "left" : Key), V.int lv), (.inr "seed", .int sd), (.inr "cells", .ref p9), (.inr "spot", .int 0)] = moKvs lv sd p9 0 := by
            simp [mergeK, putK, moKvs, k_left_seed, k_left_cells, k_left_spot, k_seed_cells, k_seed_spot, k_cells_spot]
          rw [hm]
          have sall : Same H4 H9 := (((ed.trans e6).trans e7).trans e8).trans e9
          refine q pd p9 _ (same_mut ((s3.trans s4).trans sall) ((s3.trans s4).free nd)) ((s3.trans s4).free nd) ⟨lv, sd, 0, cs ++ [53 * k + 11], upd_same, ?_, by simp, by simp; omega, ?_, hsd0, hsd1, by omega, by omega⟩
          · rw [upd_ne (ne_of f9 fd9 (fun z => nomatch z)), f9]
            simp
          · intro n hn
            rcases List.mem_append.mp hn with hn | hn
            · exact hcB n hn
            · simp at hn; subst hn; exact Big.small (by omega)
        refine w_neP d4' d6 (pln_ints _) rfl (fun he => ?_) (fun he => ?_)
        · walk_at "w"
          exact rest 0 H6 (Same.refl _)
        · have hg0 : 0 < gs.length := by
            cases gs with
            | nil => exact absurd rfl he
            | cons g gs => simp
          walk_at "w"
          refine w_ixLI d4' (by decide) (by omega) fun z _ => ?_
          walk_at "w"
          exact rest z H6 (Same.refl _)

/-! ### _law_draw -/
def sp__law_draw (K : PySem.W.Frag) : Sp := fun vs H Q _ => ∃ (m c : Addr) (below : Int) (b : Nat), vs = [.ref m, .int below] ∧ 0 < below ∧ below < 2 ^ 60 ∧ Mo H m c b ∧ b < 2 ^ 50 ∧
  ∀ (r : Int) H', 0 ≤ r → r < below → Keep H H' → Mo H' m c (b + 1) → Q (.int r) H'
theorem ok__law_draw (T : Top K mg) : FnOk P w K mg base CX0 1 T.f__law_draw T.fd__law_draw ["m", "below"] (sp__law_draw K) := by
  refine T.F__law_draw.ok sc__law_draw (fun vs H Q E h => ?_) (fun cdv A outer s H vs Q E hr h => ?_)
  · obtain ⟨m, c, below, b, rfl, _⟩ := h
    rfl
  · obtain ⟨m, c, below, b, rfl, hb0, hb1, hm, hb, q⟩ := h
    refine ⟨_, (pss_cons (ps_if (pt_cmpR op_gt (pe_dget (hu_of hr) (pv 0) pe_str (fun _ _ => rfl)) pe_int (nomark _)) (pss_cons (ps_set (i := 2) sc__law_draw.nd (by rfl) (by first | exact Or.inl rfl | exact Or.inr rfl) (pe_op op_modD (pe_callTy cl_int (by rfl) T.z_int (by decide +kernel) (pa_cons (pe_dget (hu_of hr) (pv 0) pe_str (fun _ _ => rfl)) pa_nil)) (pv 1)))
      (pss_cons (ps_dput (hu_of hr) (pv 0) pe_str (pe_op op_fdivW (pe_dget (hu_of hr) (pv 0) pe_str (fun _ _ => rfl)) (pv 1)) rfl)
      (pss_one (ps_ret (pv 2))))) pss_nil)
      (pss_cons (ps_set (i := 3) sc__law_draw.nd (by rfl) (by first | exact Or.inl rfl | exact Or.inr rfl) (pe_dget (hu_of hr) (pv 0) pe_str (fun _ _ => rfl)))
      (pss_cons (ps_dput (hu_of hr) (pv 0) pe_str (pe_op op_add (pv 3) pe_int) rfl)
      (pss_cons (ps_par (i := 4) (j := 5) (by rfl) sc__law_draw.nd (by rfl) (by rfl) (by decide) (by rfl) (by rfl) (pa_cons (pe_dget (hu_of hr) (pv 0) pe_str (fun _ _ => rfl)) (pa_cons (pe_op op_add (pe_dget (hu_of hr) (pv 0) pe_str (fun _ _ => rfl)) (pe_op op_mulX (pe_op op_mulX pe_int (pv 3)) (pv 3))) pa_nil)) (by rfl))
      (pss_cons (ps_set (i := 6) sc__law_draw.nd (by rfl) (by first | exact Or.inl rfl | exact Or.inr rfl) (pe_ix (ix_listK (K := K)) (pv 4) (pe_op op_modD (pe_callTy cl_int (by rfl) T.z_int (by decide +kernel) (pa_cons (pv 3) pa_nil)) (pe_callB (cl_len (K := K)) (by rfl) T.z_len (by decide +kernel) (pa_cons (pv 4) pa_nil))) (fun _ _ => rfl)))
      (pss_cons (ps_set (i := 7) sc__law_draw.nd (by rfl) (by first | exact Or.inl rfl | exact Or.inr rfl) (pe_op op_modD (pe_callTy cl_int (by rfl) T.z_int (by decide +kernel) (pa_cons (pe_op op_add (pe_op op_mulX (pv 6) (pe_op op_add (pe_op op_mulX pe_int (pv 3)) pe_int)) (pv 5)) pa_nil)) pe_int))
      (pss_cons (ps_set (i := 7) sc__law_draw.nd (by rfl) (by first | exact Or.inl rfl | exact Or.inr rfl) (pe_op op_modD (pe_callTy cl_int (by rfl) T.z_int (by decide +kernel) (pa_cons (pe_op op_add (pe_op op_add (pe_op op_mulX (pv 7) (pv 7)) (pe_op op_mulX pe_int (pv 3))) (pe_dget (hu_of hr) (pv 0) pe_str (fun _ _ => rfl))) pa_nil)) pe_int))
      (pss_one (ps_ret (pe_op op_modD (pe_op op_fdivW (pe_op op_modD (pe_callTy cl_int (by rfl) T.z_int (by decide +kernel) (pa_cons (pe_op op_add (pe_op op_mulX (pv 7) pe_int) (pv 3)) pa_nil)) pe_int) pe_int) (pv 1))))))))))), ?_⟩
    rw [show start N__law_draw [.ref m, .int below] = [some (.ref m), some (.int below), none, none, none, none, none, none] from rfl]
    obtain ⟨left, seed, spot, ns, m1, m2, m3, m4, m5, m6, m7, m8, m9⟩ := hm
    try dsimp only [cxK]
    walk_at "w"
    refine w_iteD (fun hl => ?_) (fun hl => ?_)
    · walk_at "w"
      refine w_dpS m1 mo_put_left mo_len fun H1 e1 m1' => ?_
      walk_at "w"
      exact q _ H1 (Int.emod_nonneg _ (by omega)) (Int.emod_lt_of_pos _ hb0) e1 ⟨_, seed, spot, ns, m1', e1.l m2, m3, m4, m5, m6, m7, m8, by omega⟩
    · walk_at "w"
      refine w_dpS m1 mo_put_spot mo_len fun H1 e1 m1' => ?_
      have m2' := e1.l m2
      have dC : Dp K H1 (.ref c) (.list (ns.map PyData.int)) := .lst (.of m2') (dpa_ints ns)
      walk_at "w"
      rw [List.length_map]
      refine w_ixLI dC (Int.emod_nonneg _ (by omega)) (Int.emod_lt_of_pos _ (by omega)) fun z hz => ?_
      have hz2 := m5 z (List.mem_of_getElem? hz)
      walk_at "w"
      refine w_rI (hz2.mul (by omega)) ?_
      walk_at "w0"
      refine w_rModB (by decide) fun r1 h1 h1' => ?_
      walk_at "w0"
      refine w_rModB (by decide) fun r2 h2 h2' => ?_
      walk_at "w0"
      refine w_rModB (by decide) fun r3 h3 h3' => ?_
      walk_at "w0"
      refine w_rModB hb0 fun r4 h4 h4' => ?_
      walk_at "w0"
      exact q r4 H1 h4 h4' e1 ⟨left, seed, spot + 1, ns, m1', m2', m3, m4, m5, m6, m7, by omega, by omega⟩

/-! ### _law_twos -/
def sp__law_twos (K : PySem.W.Frag) : Sp := fun vs H Q _ => ∃ n : Nat, vs = [.int (n : Int)] ∧ n ≤ 200 ∧ Q (.int ((2 ^ n : Nat) : Int)) H
theorem ok__law_twos (T : Top K mg) : FnOk P w K mg base CX0 1 T.f__law_twos T.fd__law_twos ["count"] (sp__law_twos K) := by
  refine T.F__law_twos.ok sc__law_twos (fun vs H Q E h => ?_) (fun cdv A outer s H vs Q E hr h => ?_)
  · obtain ⟨n, rfl, _⟩ := h
    rfl
  · obtain ⟨n, rfl, hn, q⟩ := h
    refine ⟨_, (pss_cons (ps_set (i := 1) sc__law_twos.nd (by rfl) (by first | exact Or.inl rfl | exact Or.inr rfl) pe_int)
      (pss_cons (ps_for PassesOwn.never (by rfl) (pi_range1 (by rfl) T.z_range (pa_cons (pv 0) pa_nil)) (pg_name (i := 2) sc__law_twos.nd (by rfl) (by first | exact Or.inl rfl | exact Or.inr rfl)) (pss_one (ps_set (i := 1) sc__law_twos.nd (by rfl) (by first | exact Or.inl rfl | exact Or.inr rfl) (pe_op op_mulX pe_int (pv 1)))))
      (pss_one (ps_ret (pv 1))))), ?_⟩
    rw [show start N__law_twos [.int (n : Int)] = [some (.int (n : Int)), none, none] from rfl]
    try dsimp only [cxK]
    walk_at "wp"
    refine forR1_by (fun i σ' H' => ∃ (y : Option V) (P : Nat), P = 2 ^ i ∧ σ' = [some (.int (n : Int)), some (.int (P : Int)), y] ∧ H = H') (by omega) ⟨none, 1, rfl, rfl, rfl⟩ ?_ ?_
    · rintro i σ' H' hi ⟨y, P, hP, rfl, rfl⟩
      have hp : P ≤ 2 ^ 200 := by rw [hP]; exact Nat.pow_le_pow_right (by decide) (by omega)
      walk_at "wp"
      refine ⟨_, 2 * P, ?_, rfl, rfl⟩
      rw [hP, Nat.pow_succ']
    · rintro σ' H' ⟨y, P, rfl, rfl, rfl⟩
      walk_at "wp"
      rw [Int.toNat_natCast]
      exact q

/-! ### _law_shared -/
def sp__law_shared (K : PySem.W.Frag) : Sp := fun vs H Q _ => ∃ a b : Nat, vs = [.int (a : Int), .int (b : Int)] ∧ b < 2 ^ 190 ∧ Q (.int (Nat.gcd a b : Int)) H
theorem ok__law_shared (T : Top K mg) : FnOk P w K mg base CX0 1 T.f__law_shared T.fd__law_shared ["a", "b"] (sp__law_shared K) := by
  refine T.F__law_shared.ok sc__law_shared (fun vs H Q E h => ?_) (fun cdv A outer s H vs Q E hr h => ?_)
  · obtain ⟨a, b, rfl, _⟩ := h
    rfl
  · obtain ⟨a, b, rfl, hb, q⟩ := h
    refine ⟨_, (pss_cons (ps_for PassesOwn.never (by rfl) (pi_range1 (by rfl) T.z_range (pa_cons pe_int pa_nil)) (pg_name (i := 2) sc__law_shared.nd (by rfl) (by first | exact Or.inl rfl | exact Or.inr rfl)) (pss_cons (ps_if (pt_cmpR op_eq (pv 1) pe_int (nomark _)) (pss_one (ps_ret (pv 0))) pss_nil)
      (pss_one (ps_par (i := 0) (j := 1) (by rfl) sc__law_shared.nd (by rfl) (by rfl) (by decide) (by rfl) (by rfl) (pa_cons (pv 1) (pa_cons (pe_op op_modD (pe_callTy cl_int (by rfl) T.z_int (by decide +kernel) (pa_cons (pv 0) pa_nil)) (pv 1)) pa_nil)) (by rfl)))))
      (pss_one (ps_ret (pv 0)))), ?_⟩
    rw [show start N__law_shared [.int (a : Int), .int (b : Int)] = [some (.int (a : Int)), some (.int (b : Int)), none] from rfl]
    try dsimp only [cxK]
    walk_at "wp"
    refine forR1_by (fun i σ' H' => ∃ (y : Option V) (a' b' : Nat), σ' = [some (.int (a' : Int)), some (.int (b' : Int)), y] ∧ H = H' ∧ Eu a b i a' b') (by omega) ⟨none, a, b, rfl, rfl, Eu.start a b⟩ ?_ ?_
    · rintro i σ' H' hi ⟨y, a', b', rfl, rfl, he⟩
      walk_at "wp"
      refine w_iteD (fun h => ?_) (fun h => ?_)
      · walk_at "wp"
        have hb0 : b' = 0 := by omega
        subst hb0
        rw [he.zero]
        exact q
      · walk_at "wp"
        exact ⟨_, b', a' % b', rfl, rfl, he.step hb (by omega)⟩
    · rintro σ' H' ⟨y, a', b', rfl, rfl, he⟩
      walk_at "wp"
      rw [he.done (by decide)]
      exact q

/-! ### _law_less -/
def sp__law_less (K : PySem.W.Frag) : Sp := fun vs H Q _ => ∃ v w x y, vs = [v, w] ∧ Dp K H v (pd x) ∧ Plc x ∧ Dp K H w (pd y) ∧ Plc y ∧ Q (.bl (decide (sz x < sz y))) H
theorem ok__law_less (T : Top K mg) : FnOk P w K mg base CX0 1 T.f__law_less T.fd__law_less ["x", "y"] (sp__law_less K) := by
  refine T.F__law_less.ok sc__law_less (fun vs H Q E h => ?_) (fun cdv A outer s H vs Q E hr h => ?_)
  · obtain ⟨v, w, x, y, rfl, _⟩ := h
    rfl
  · obtain ⟨v, w, x, y, rfl, hv, hx, hw, hy, q⟩ := h
    refine ⟨_, (pss_one (ps_ret (pe_cmpR op_lt (pe_op op_mulX (pe_ix (ix_tupK (K := K)) (pv 0) pe_int (fun _ _ => rfl)) (pe_ix (ix_tupK (K := K)) (pv 1) pe_int (fun _ _ => rfl))) (pe_op op_mulX (pe_ix (ix_tupK (K := K)) (pv 1) pe_int (fun _ _ => rfl)) (pe_ix (ix_tupK (K := K)) (pv 0) pe_int (fun _ _ => rfl))) (nomark _)))), ?_⟩
    rw [show start N__law_less [v, w] = [some (v), some (w)] from rfl]
    try dsimp only [cxK]
    have p1 := hx.small
    have p2 := hx.lt
    have p3 := hy.small
    have p4 := hy.lt
    walk_at "wp"
    rw [show decide ((x.1 : Int) * (y.2 : Int) < (y.1 : Int) * (x.2 : Int)) = decide (sz x < sz y) by
      rw [decide_eq_decide, ← sz_less hx hy, ← Int.ofNat_lt, Int.natCast_mul, Int.natCast_mul]]
    exact q

/-! ### _law_double -/
def sp__law_double (K : PySem.W.Frag) : Sp := fun vs H Q _ => ∃ v x, vs = [v] ∧ Dp K H v (pd x) ∧ x.1 < x.2 ∧ x.2 < 2 ^ 60 ∧ ∀ v H', Same H H' → Dp K H' v (pd (dblN x)) → Q v H'
theorem ok__law_double (T : Top K mg) : FnOk P w K mg base CX0 1 T.f__law_double T.fd__law_double ["x"] (sp__law_double K) := by
  refine T.F__law_double.ok sc__law_double (fun vs H Q E h => ?_) (fun cdv A outer s H vs Q E hr h => ?_)
  · obtain ⟨v, x, rfl, _⟩ := h
    rfl
  · obtain ⟨v, x, rfl, hv, hx, hx2, q⟩ := h
    refine ⟨_, (pss_cons (ps_if (pt_cmpR op_eq (pe_op op_modD (pe_callTy cl_int (by rfl) T.z_int (by decide +kernel) (pa_cons (pe_ix (ix_tupK (K := K)) (pv 0) pe_int (fun _ _ => rfl)) pa_nil)) pe_int) pe_int (nomark _)) (pss_one (ps_ret (pe_tup (pa_cons (pe_op op_modD (pe_callTy cl_int (by rfl) T.z_int (by decide +kernel) (pa_cons (pe_ix (ix_tupK (K := K)) (pv 0) pe_int (fun _ _ => rfl)) pa_nil)) (pe_op op_fdivW (pe_ix (ix_tupK (K := K)) (pv 0) pe_int (fun _ _ => rfl)) pe_int)) (pa_cons (pe_op op_fdivW (pe_ix (ix_tupK (K := K)) (pv 0) pe_int (fun _ _ => rfl)) pe_int) pa_nil))))) pss_nil)
      (pss_one (ps_ret (pe_tup (pa_cons (pe_op op_modD (pe_callTy cl_int (by rfl) T.z_int (by decide +kernel) (pa_cons (pe_op op_mulX pe_int (pe_ix (ix_tupK (K := K)) (pv 0) pe_int (fun _ _ => rfl))) pa_nil)) (pe_ix (ix_tupK (K := K)) (pv 0) pe_int (fun _ _ => rfl))) (pa_cons (pe_ix (ix_tupK (K := K)) (pv 0) pe_int (fun _ _ => rfl)) pa_nil)))))), ?_⟩
    rw [show start N__law_double [v] = [some (v)] from rfl]
    try dsimp only [cxK]
    walk_at "wp"
    refine w_iteD (fun h => ?_) (fun h => ?_)
    · have hh : x.2 % 2 = 0 := by omega
      walk_at "wp"
      refine w_newT (K := K) (len_ok (by simp)) (.cons (.int _) (.cons (.int _) .nil)) fun t H1 n1 e1 d1 => ?_
      refine q _ H1 e1 ?_
      unfold dblN
      rw [if_pos hh]
      exact d1
    · have hh : ¬ x.2 % 2 = 0 := by omega
      walk_at "wp"
      refine w_newT (K := K) (len_ok (by simp)) (.cons (.int _) (.cons (.int _) .nil)) fun t H1 n1 e1 d1 => ?_
      refine q _ H1 e1 ?_
      unfold dblN
      rw [if_neg hh]
      exact d1

/-! ### way_up -/
def sp_way_up (K : PySem.W.Frag) : Sp := fun vs H Q _ => ∃ v w a b, vs = [v, w] ∧ Dp K H v (pd a) ∧ Plc a ∧ Dp K H w (pd b) ∧ Plc b ∧ Q (.int (wu a b : Int)) H
theorem ok_way_up (T : Top K mg) : FnOk P w K mg base CX0 2 T.f_way_up T.fd_way_up ["a", "b"] (sp_way_up K) := by
  refine T.F_way_up.ok sc_way_up (fun vs H Q E h => ?_) (fun cdv A outer s H vs Q E hr h => ?_)
  · obtain ⟨v, w, a, b, rfl, _⟩ := h
    rfl
  · obtain ⟨v, w, a, b, rfl, hv, ha, hw, hb, q⟩ := h
    refine ⟨_, (pss_one (ps_ret (pe_op op_modD (pe_op op_sub (pe_call (ok_size T) (hr.mono (by decide)) (by rfl) T.g_size T.F_size.kp T.b_size .nil pass0 (pa_cons (pv 1) pa_nil)) (pe_call (ok_size T) (hr.mono (by decide)) (by rfl) T.g_size T.F_size.kp T.b_size .nil pass0 (pa_cons (pv 0) pa_nil))) (pe_cint (by rfl) T.c_COMMON)))), ?_⟩
    rw [show start N_way_up [v, w] = [some (v), some (w)] from rfl]
    try dsimp only [cxK]
    have c0 := CN_pos
    walk_at "wp"
    refine ⟨_, b, rfl, hw, hb, ?_⟩
    walk_at "wp"
    refine ⟨_, a, rfl, hv, ha, ?_⟩
    walk_at "wp"
    rw [wu_int ha hb]
    exact q

/-! ### _law_of -/
def sp__law_of (K : PySem.W.Frag) : Sp := fun vs H Q _ => ∃ (m c : Addr) (v : V) (ds : List PyData) (b : Nat), vs = [.ref m, v] ∧ Dp K H v (.list ds) ∧ 0 < ds.length ∧ ds.length ≤ 1000 ∧ Mo H m c b ∧ b < 2 ^ 50 ∧
  ∀ y d H', d ∈ ds → Dp K H' y d → Keep H H' → Mo H' m c (b + 1) → Q y H'
theorem ok__law_of (T : Top K mg) : FnOk P w K mg base CX0 2 T.f__law_of T.fd__law_of ["m", "some"] (sp__law_of K) := by
  refine T.F__law_of.ok sc__law_of (fun vs H Q E h => ?_) (fun cdv A outer s H vs Q E hr h => ?_)
  · obtain ⟨m, c, v, ds, b, rfl, _⟩ := h
    rfl
  · obtain ⟨m, c, v, ds, b, rfl, hv, hz0, hz1, hm, hb, q⟩ := h
    refine ⟨_, (pss_one (ps_ret (pe_ix (ix_listK (K := K)) (pv 1) (pe_call (ok__law_draw T) (hr.mono (by decide)) (by rfl) T.g__law_draw T.F__law_draw.kp T.b__law_draw .nil pass0 (pa_cons (pv 0) (pa_cons (pe_callB (cl_len (K := K)) (by rfl) T.z_len (by decide +kernel) (pa_cons (pv 1) pa_nil)) pa_nil))) (fun _ _ => rfl)))), ?_⟩
    rw [show start N__law_of [.ref m, v] = [some (.ref m), some (v)] from rfl]
    try dsimp only [cxK]
    walk_at "w"
    refine ⟨m, c, _, b, rfl, by omega, by omega, hm, hb, fun r H' h0 h1 k m' => ?_⟩
    have hr : r.toNat < ds.length := by omega
    exact w_ixL (j := r.toNat) (dp_keep k hv) (by omega) (List.getElem?_eq_getElem hr) fun y hy => q y _ H' (List.getElem_mem hr) hy k m'

/-! ### _law_ratio -/
def sp__law_ratio (K : PySem.W.Frag) : Sp := fun vs H Q _ => ∃ p q : Nat, vs = [.int (p : Int), .int (q : Int)] ∧ 0 < q ∧ q < 2 ^ 190 ∧ ∀ v H', Same H H' → Dp K H' v (pd (red p q)) → Q v H'
theorem ok__law_ratio (T : Top K mg) : FnOk P w K mg base CX0 2 T.f__law_ratio T.fd__law_ratio ["a", "b"] (sp__law_ratio K) := by
  refine T.F__law_ratio.ok sc__law_ratio (fun vs H Q E h => ?_) (fun cdv A outer s H vs Q E hr h => ?_)
  · obtain ⟨p, q, rfl, _⟩ := h
    rfl
  · obtain ⟨p, q, rfl, h0, h1, q1⟩ := h
    refine ⟨_, (pss_cons (ps_set (i := 2) sc__law_ratio.nd (by rfl) (by first | exact Or.inl rfl | exact Or.inr rfl) (pe_call (ok__law_shared T) (hr.mono (by decide)) (by rfl) T.g__law_shared T.F__law_shared.kp T.b__law_shared .nil pass0 (pa_cons (pe_callB cl_abs (by rfl) T.z_abs (by decide +kernel) (pa_cons (pv 0) pa_nil)) (pa_cons (pv 1) pa_nil))))
      (pss_one (ps_ret (pe_tup (pa_cons (pe_op op_fdivW (pv 0) (pv 2)) (pa_cons (pe_op op_fdivW (pv 1) (pv 2)) pa_nil)))))), ?_⟩
    rw [show start N__law_ratio [.int (p : Int), .int (q : Int)] = [some (.int (p : Int)), some (.int (q : Int)), none] from rfl]
    try dsimp only [cxK]
    have g0 : 0 < Nat.gcd p q := Nat.gcd_pos_of_pos_right p h0
    have g1 : Nat.gcd p q ≤ q := Nat.le_of_dvd h0 (Nat.gcd_dvd_right p q)
    walk_at "wp"
    refine ⟨p, q, rfl, h1, ?_⟩
    walk_at "wp"
    refine w_newT (K := K) (len_ok (by simp)) (.cons (.int _) (.cons (.int _) .nil)) fun t H1 n1 e1 d1 => ?_
    exact q1 _ H1 e1 d1

/-! ### _law_string -/
def sp__law_string (K : PySem.W.Frag) : Sp := fun vs H Q _ => ∃ (m c : Addr) (n : Int) (b : Nat), vs = [.ref m, .int n] ∧ 0 ≤ n ∧ n ≤ 1000 ∧ Mo H m c b ∧ b < 2 ^ 45 ∧
  ∀ (l : List Nat) H', l.length = n.toNat → (∀ x ∈ l, x = 48 ∨ x = 49) → Keep H H' → Mo H' m c (b + n.toNat) → Q (.str (Sg l)) H'
theorem ok__law_string (T : Top K mg) : FnOk P w K mg base CX0 2 T.f__law_string T.fd__law_string ["m", "size_v"] (sp__law_string K) := by
  refine T.F__law_string.ok sc__law_string (fun vs H Q E h => ?_) (fun cdv A outer s H vs Q E hr h => ?_)
  · obtain ⟨m, c, n, b, rfl, _⟩ := h
    rfl
  · obtain ⟨m, c, n, b, rfl, hn0, hn1, hm, hb, q⟩ := h
    refine ⟨_, (pss_one (ps_ret (pe_joinD (K := K) pe_str (pe_lc (own := [("k", 2)]) (g := gName 2) (tt := tYes) (by rfl) sc__law_string.nd (pi_range1 (by rfl) T.z_range (pa_cons (pv 1) pa_nil)) (blkOk_by (own := [("k", 2)]) (N := N__law_string) (sc := defScope s__law_string) (by decide +kernel)) (fun _ _ _ _ _ => (pg_name (i := 2) sc__law_string.nd (by rfl) (by first | exact Or.inl rfl | exact Or.inr rfl))) (fun _ _ _ _ _ => pts_nil) (fun _ _ _ _ _ => (pe_callTy cl_strI (by rfl) T.z_str (by decide +kernel) (pa_cons (pe_call (ok__law_draw T) (hr.mono (by decide)) (by rfl) T.g__law_draw T.F__law_draw.kp T.b__law_draw .nil pass0 (pa_cons (pv 0) (pa_cons pe_int pa_nil))) pa_nil))))))), ?_⟩
    rw [show start N__law_string [.ref m, .int n] = [some (.ref m), some (.int n), none] from rfl]
    rw [sg_empty]
    try dsimp only [cxK]
    walk_at "w"
    refine lc_rng1_by (K := K) (JM H m c b 1 fun i es => ∃ ys : List (List Nat), es = ys.map (fun y => PyData.str (Sg y)) ∧ ys.length = i ∧ ∀ y ∈ ys, y = [48] ∨ y = [49]) (JM.ok hm ⟨[], rfl, rfl, by simp⟩) (by omega) (fun _ => rfl) ?_ ?_
    · rintro i H' es hi ⟨k, mo, ys, rfl, hl, hy⟩ Yes No hyes hno
      walk_at "w"
      refine ⟨m, c, 2, _, rfl, by decide, by decide, mo, by omega, fun r H4 h0 h1 k4 mo4 => ?_⟩
      have hr : r = 0 ∨ r = 1 := by omega
      rcases hr with rfl | rfl
      · refine w_strI (by decide) ?_
        have e : ((toString (0 : Int) : String) : Str) = Sg [48] := by decide +kernel
        rw [e]
        exact hyes _ H4 (.str (Sg [48])) k4 rfl (.str _) ⟨k.trans k4, mo4.mono (by omega), ys ++ [[48]], by simp, by simp [hl], fun y h => (List.mem_append.mp h).elim (hy y) (fun z => by simp at z; exact .inl z)⟩
      · refine w_strI (by decide) ?_
        have e : ((toString (1 : Int) : String) : Str) = Sg [49] := by decide +kernel
        rw [e]
        exact hyes _ H4 (.str (Sg [49])) k4 rfl (.str _) ⟨k.trans k4, mo4.mono (by omega), ys ++ [[49]], by simp, by simp [hl], fun y h => (List.mem_append.mp h).elim (hy y) (fun z => by simp at z; exact .inr z)⟩
    · rintro p H' vs es hn k hv dl ⟨_, mo, ys, rfl, hl, hy⟩
      have hf : ∀ ys : List (List Nat), (∀ y ∈ ys, y = [48] ∨ y = [49]) → ys.flatten.length = ys.length ∧ ∀ x ∈ ys.flatten, x = 48 ∨ x = 49 := by
        intro ys
        induction ys with
        | nil => intro _; simp
        | cons y ys ih =>
          intro h
          obtain ⟨a, b⟩ := ih fun z hz => h z (List.mem_cons_of_mem _ hz)
          have h1 := h y List.mem_cons_self
          constructor
          · rcases h1 with rfl | rfl <;> simp [a] <;> omega
          · intro x hx
            rw [List.flatten_cons, List.mem_append] at hx
            rcases hx with hx | hx
            · rcases h1 with rfl | rfl <;> simp at hx <;> omega
            · exact b x hx
      obtain ⟨f1, f2⟩ := hf ys hy
      exact w_joinSg dl (by omega) (q _ H' (by omega) f2 k (mo.mono (by omega)))

/-! ### _law_between -/
def sp__law_between (K : PySem.W.Frag) : Sp := fun vs H Q _ => ∃ v1 v2 v3 a x b, vs = [v1, v2, v3] ∧ Dp K H v1 (pd a) ∧ Plc a ∧ Dp K H v2 (pd x) ∧ Plc x ∧ Dp K H v3 (pd b) ∧ Plc b ∧ Q (.bl (decide (btw a x b))) H
theorem ok__law_between (T : Top K mg) : FnOk P w K mg base CX0 2 T.f__law_between T.fd__law_between ["a", "x", "b"] (sp__law_between K) := by
  refine T.F__law_between.ok sc__law_between (fun vs H Q E h => ?_) (fun cdv A outer s H vs Q E hr h => ?_)
  · obtain ⟨v1, v2, v3, a, x, b, rfl, _⟩ := h
    rfl
  · obtain ⟨v1, v2, v3, a, x, b, rfl, d1, h1, d2, h2, d3, h3, q⟩ := h
    refine ⟨_, (pss_cons (ps_if (pt_val (pe_call (ok__law_less T) (hr.mono (by decide)) (by rfl) T.g__law_less T.F__law_less.kp T.b__law_less .nil pass0 (pa_cons (pv 0) (pa_cons (pv 2) pa_nil)))) (pss_one (ps_ret (pe_and (pe_call (ok__law_less T) (hr.mono (by decide)) (by rfl) T.g__law_less T.F__law_less.kp T.b__law_less .nil pass0 (pa_cons (pv 0) (pa_cons (pv 1) pa_nil))) (pe_one (pe_call (ok__law_less T) (hr.mono (by decide)) (by rfl) T.g__law_less T.F__law_less.kp T.b__law_less .nil pass0 (pa_cons (pv 1) (pa_cons (pv 2) pa_nil))))))) pss_nil)
      (pss_one (ps_ret (pe_or (pe_call (ok__law_less T) (hr.mono (by decide)) (by rfl) T.g__law_less T.F__law_less.kp T.b__law_less .nil pass0 (pa_cons (pv 0) (pa_cons (pv 1) pa_nil))) (pe_one (pe_call (ok__law_less T) (hr.mono (by decide)) (by rfl) T.g__law_less T.F__law_less.kp T.b__law_less .nil pass0 (pa_cons (pv 1) (pa_cons (pv 2) pa_nil)))))))), ?_⟩
    rw [show start N__law_between [v1, v2, v3] = [some (v1), some (v2), some (v3)] from rfl]
    try dsimp only [cxK]
    walk_at "wp"
    refine ⟨_, _, a, b, rfl, d1, h1, d3, h3, ?_⟩
    walk_at "wp"
    refine w_iteD (fun h => ?_) (fun h => ?_)
    · walk_at "wp"
      refine ⟨_, _, a, x, rfl, d1, h1, d2, h2, ?_⟩
      walk_at "wp"
      refine w_iteD (fun hh => ?_) (fun hh => ?_)
      · walk_at "wp"
        refine ⟨_, _, x, b, rfl, d2, h2, d3, h3, ?_⟩
        rw [show decide (sz x < sz b) = decide (btw a x b) by rw [decide_eq_decide]; unfold btw; rw [if_pos h]; omega]
        exact q
      · rw [show decide (btw a x b) = false by rw [decide_eq_false_iff_not]; unfold btw; rw [if_pos h]; omega] at q
        exact q
    · walk_at "wp"
      refine ⟨_, _, a, x, rfl, d1, h1, d2, h2, ?_⟩
      walk_at "wp"
      refine w_iteD (fun hh => ?_) (fun hh => ?_)
      · rw [show decide (btw a x b) = true by rw [decide_eq_true_eq]; unfold btw; rw [if_neg h]; omega] at q
        exact q
      · walk_at "wp"
        refine ⟨_, _, x, b, rfl, d2, h2, d3, h3, ?_⟩
        rw [show decide (sz x < sz b) = decide (btw a x b) by rw [decide_eq_decide]; unfold btw; rw [if_neg h]; omega]
        exact q

/-! ### arc -/
def sp_arc (K : PySem.W.Frag) : Sp := fun vs H Q _ => ∃ v w a b, vs = [v, w] ∧ Dp K H v (pd a) ∧ Plc a ∧ Dp K H w (pd b) ∧ Plc b ∧ ∀ v H', Same H H' → Dp K H' v (pd (arcN a b)) → Q v H'
theorem ok_arc (T : Top K mg) : FnOk P w K mg base CX0 3 T.f_arc T.fd_arc ["a", "b"] (sp_arc K) := by
  refine T.F_arc.ok sc_arc (fun vs H Q E h => ?_) (fun cdv A outer s H vs Q E hr h => ?_)
  · obtain ⟨v, w, a, b, rfl, _⟩ := h
    rfl
  · obtain ⟨v, w, a, b, rfl, hv, ha, hw, hb, q⟩ := h
    refine ⟨_, (pss_one (ps_ret (pe_call (ok_reduced T) (hr.mono (by decide)) (by rfl) T.g_reduced T.F_reduced.kp T.b_reduced .nil pass0 (pa_cons (pe_call (ok_way_up T) (hr.mono (by decide)) (by rfl) T.g_way_up T.F_way_up.kp T.b_way_up .nil pass0 (pa_cons (pv 0) (pa_cons (pv 1) pa_nil))) (pa_cons (pe_cint (by rfl) T.c_COMMON) pa_nil))))), ?_⟩
    rw [show start N_arc [v, w] = [some (v), some (w)] from rfl]
    try dsimp only [cxK]
    walk_at "wp"
    refine ⟨_, _, a, b, rfl, hv, ha, hw, hb, ?_⟩
    walk_at "wp"
    exact ⟨wu a b, CN, rfl, CN_pos, CN_lt, q⟩

/-! ### is_within -/
def sp_is_within (K : PySem.W.Frag) : Sp := fun vs H Q _ => ∃ v1 v2 v3 a x b, vs = [v1, v2, v3] ∧ Dp K H v1 (pd a) ∧ Plc a ∧ Dp K H v2 (pd x) ∧ Plc x ∧ Dp K H v3 (pd b) ∧ Plc b ∧ Q (.bl (decide (0 < wu a x ∧ wu a x < wu a b))) H
theorem ok_is_within (T : Top K mg) : FnOk P w K mg base CX0 3 T.f_is_within T.fd_is_within ["a", "x", "b"] (sp_is_within K) := by
  refine T.F_is_within.ok sc_is_within (fun vs H Q E h => ?_) (fun cdv A outer s H vs Q E hr h => ?_)
  · obtain ⟨v1, v2, v3, a, x, b, rfl, _⟩ := h
    rfl
  · obtain ⟨v1, v2, v3, a, x, b, rfl, d1, h1, d2, h2, d3, h3, q⟩ := h
    refine ⟨_, (pss_one (ps_ret (pe_chain op_lt op_lt pe_int (pe_call (ok_way_up T) (hr.mono (by decide)) (by rfl) T.g_way_up T.F_way_up.kp T.b_way_up .nil pass0 (pa_cons (pv 0) (pa_cons (pv 1) pa_nil))) (pe_call (ok_way_up T) (hr.mono (by decide)) (by rfl) T.g_way_up T.F_way_up.kp T.b_way_up .nil pass0 (pa_cons (pv 0) (pa_cons (pv 2) pa_nil)))))), ?_⟩
    rw [show start N_is_within [v1, v2, v3] = [some (v1), some (v2), some (v3)] from rfl]
    try dsimp only [cxK]
    walk_at "wp"
    refine ⟨_, _, a, x, rfl, d1, h1, d2, h2, ?_⟩
    walk_at "wp"
    refine w_iteD (fun h => ?_) (fun h => ?_)
    · walk_at "wp"
      refine ⟨_, _, a, b, rfl, d1, h1, d3, h3, ?_⟩
      walk_at "wp"
      rw [show decide ((wu a x : Int) < (wu a b : Int)) = decide (0 < wu a x ∧ wu a x < wu a b) by
        rw [decide_eq_decide]; omega]
      exact q
    · rw [show decide (0 < wu a x ∧ wu a x < wu a b) = false by
        rw [decide_eq_false_iff_not]; omega] at q
      exact q

/-! ### _law_binary -/
def sp__law_binary (K : PySem.W.Frag) : Sp := fun vs H Q _ => ∃ h c : List Nat, vs = [.str (Sg h), .str (Sg c)] ∧ Dg h ∧ Dg c ∧ c ≠ [] ∧ h.length + c.length ≤ 80 ∧ ∀ v H', Same H H' → Dp K H' v (pd (binN h c)) → Q v H'
theorem ok__law_binary (T : Top K mg) : FnOk P w K mg base CX0 3 T.f__law_binary T.fd__law_binary ["head", "cycle"] (sp__law_binary K) := by
  refine T.F__law_binary.ok sc__law_binary (fun vs H Q E h => ?_) (fun cdv A outer s H vs Q E hr h => ?_)
  · obtain ⟨h, c, rfl, _⟩ := h
    rfl
  · obtain ⟨h, c, rfl, dh, dc, hc, hl, q⟩ := h
    refine ⟨_, (pss_cons (ps_asg (pe_tup (pa_cons pe_int (pa_cons pe_int pa_nil))) (pg_tupK (K := K) (n := 2) (by rfl) (pgs_cons (pg_name (i := 2) sc__law_binary.nd (by rfl) (by first | exact Or.inl rfl | exact Or.inr rfl)) (pgs_cons (pg_name (i := 3) sc__law_binary.nd (by rfl) (by first | exact Or.inl rfl | exact Or.inr rfl)) pgs_nil))))
      (pss_cons (ps_for PassesOwn.never (by rfl) (pi_str (pv 0)) (pg_name (i := 4) sc__law_binary.nd (by rfl) (by first | exact Or.inl rfl | exact Or.inr rfl)) (pss_one (ps_set (i := 2) sc__law_binary.nd (by rfl) (by first | exact Or.inl rfl | exact Or.inr rfl) (pe_op op_add (pe_op op_mulX pe_int (pv 2)) (pe_callTy cl_intS (by rfl) T.z_int (by decide +kernel) (pa_cons (pv 4) pa_nil))))))
      (pss_cons (ps_for PassesOwn.never (by rfl) (pi_str (pv 1)) (pg_name (i := 4) sc__law_binary.nd (by rfl) (by first | exact Or.inl rfl | exact Or.inr rfl)) (pss_one (ps_set (i := 3) sc__law_binary.nd (by rfl) (by first | exact Or.inl rfl | exact Or.inr rfl) (pe_op op_add (pe_op op_mulX pe_int (pv 3)) (pe_callTy cl_intS (by rfl) T.z_int (by decide +kernel) (pa_cons (pv 4) pa_nil))))))
      (pss_cons (ps_set (i := 5) sc__law_binary.nd (by rfl) (by first | exact Or.inl rfl | exact Or.inr rfl) (pe_op op_sub (pe_call (ok__law_twos T) (hr.mono (by decide)) (by rfl) T.g__law_twos T.F__law_twos.kp T.b__law_twos .nil pass0 (pa_cons (pe_callB (cl_len (K := K)) (by rfl) T.z_len (by decide +kernel) (pa_cons (pv 1) pa_nil)) pa_nil)) pe_int))
      (pss_cons (ps_set (i := 6) sc__law_binary.nd (by rfl) (by first | exact Or.inl rfl | exact Or.inr rfl) (pe_op op_mulX (pe_call (ok__law_twos T) (hr.mono (by decide)) (by rfl) T.g__law_twos T.F__law_twos.kp T.b__law_twos .nil pass0 (pa_cons (pe_callB (cl_len (K := K)) (by rfl) T.z_len (by decide +kernel) (pa_cons (pv 0) pa_nil)) pa_nil)) (pv 5)))
      (pss_one (ps_ret (pe_call (ok__law_ratio T) (hr.mono (by decide)) (by rfl) T.g__law_ratio T.F__law_ratio.kp T.b__law_ratio .nil pass0 (pa_cons (pe_op op_modD (pe_callTy cl_int (by rfl) T.z_int (by decide +kernel) (pa_cons (pe_op op_add (pe_op op_mulX (pv 2) (pv 5)) (pv 3)) pa_nil)) (pv 6)) (pa_cons (pv 6) pa_nil)))))))))), ?_⟩
    rw [show start N__law_binary [.str (Sg h), .str (Sg c)] = [some (.str (Sg h)), some (.str (Sg c)), none, none, none, none, none] from rfl]
    try dsimp only [cxK]
    have hp : 0 < c.length := List.length_pos_iff.mpr hc
    walk_at "wp"
    refine w_newT (K := K) (len_ok (by simp)) (.cons (.int _) (.cons (.int _) .nil)) fun t0 H0 n0 e0 d0 => ?_
    refine w_gTupP (x := (0, 0)) d0 ?_
    walk_at "wp"
    refine forS_by (fun i σ' H' => ∃ (y4 y5 y6 : Option V), σ' = [some (.str (Sg h)), some (.str (Sg c)), some (.int (bv (h.take i) : Int)), some (.int 0), y4, y5, y6] ∧ H0 = H') ⟨none, none, none, rfl, rfl⟩ ?_ ?_
    · rintro i x σ' H' hx ⟨y4, y5, y6, rfl, rfl⟩
      rw [sg_tl] at hx
      have hm : x = 48 ∨ x = 49 := dh x (List.mem_of_getElem? hx)
      have hb := bv_lt (h.take i) (fun z hz => dh z (List.mem_of_mem_take hz))
      have hb2 : 2 ^ (h.take i).length ≤ 2 ^ 80 := Nat.pow_le_pow_right (by decide) (by rw [List.length_take]; omega)
      rw [sg_one]
      walk_at "wp"
      refine w_intS hm ?_
      walk_at "wp"
      have e : bv (h.take (i + 1)) = 2 * bv (h.take i) + (x - 48) := by
        rw [List.take_add_one, hx, Option.toList_some, bv_snoc]
      rw [e]
      exact ⟨_, _, _, rfl, rfl⟩
    · rintro σ' H' ⟨y4, y5, y6, rfl, rfl⟩
      rw [sg_len, List.take_length]
      walk_at "wp"
      refine forS_by (fun i σ' H' => ∃ (y4 y5 y6 : Option V), σ' = [some (.str (Sg h)), some (.str (Sg c)), some (.int (bv h : Int)), some (.int (bv (c.take i) : Int)), y4, y5, y6] ∧ H0 = H') ⟨_, _, _, rfl, rfl⟩ ?_ ?_
      · rintro i x σ' H' hx ⟨y4, y5, y6, rfl, rfl⟩
        rw [sg_tl] at hx
        have hm : x = 48 ∨ x = 49 := dc x (List.mem_of_getElem? hx)
        have hb := bv_lt (c.take i) (fun z hz => dc z (List.mem_of_mem_take hz))
        have hb2 : 2 ^ (c.take i).length ≤ 2 ^ 80 := Nat.pow_le_pow_right (by decide) (by rw [List.length_take]; omega)
        rw [sg_one]
        walk_at "wp"
        refine w_intS hm ?_
        walk_at "wp"
        have e : bv (c.take (i + 1)) = 2 * bv (c.take i) + (x - 48) := by
          rw [List.take_add_one, hx, Option.toList_some, bv_snoc]
        rw [e]
        exact ⟨_, _, _, rfl, rfl⟩
      · rintro σ' H' ⟨y4, y5, y6, rfl, rfl⟩
        rw [sg_len, List.take_length]
        walk_at "wp"
        refine ⟨c.length, rfl, by omega, ?_⟩
        walk_at "wp"
        refine ⟨h.length, rfl, by omega, ?_⟩
        have b0 := bv_lt h dh
        have b1 := bv_lt c dc
        have b2 : 2 ^ h.length ≤ 2 ^ 80 := Nat.pow_le_pow_right (by decide) (by omega)
        have b3 : 2 ^ c.length ≤ 2 ^ 80 := Nat.pow_le_pow_right (by decide) (by omega)
        have b4 := two_pow_pos c.length
        have b5 := two_pow_pos h.length
        have b6 := botN_pos (h := h) hc
        have b7 : botN h c < 2 ^ 160 := by
          unfold botN
          calc 2 ^ h.length * (2 ^ c.length - 1) < 2 ^ h.length * 2 ^ c.length := Nat.mul_lt_mul_of_pos_left (by omega) b5
            _ ≤ 2 ^ 80 * 2 ^ 80 := Nat.mul_le_mul b2 b3
            _ = 2 ^ 160 := by rw [← Nat.pow_add]
        have e1 : (((2 ^ c.length : Nat) : Int) - 1) = ((2 ^ c.length - 1 : Nat) : Int) := by omega
        rw [e1]
        have e2 : ((2 ^ h.length : Nat) : Int) * ((2 ^ c.length - 1 : Nat) : Int) = ((botN h c : Nat) : Int) := rfl
        generalize hB : botN h c = B at *
        generalize hP : 2 ^ h.length = P at *
        generalize hW : 2 ^ c.length - 1 = W at *
        have c1 : (W : Int) < 2 ^ 80 := by omega
        have c2 : (P : Int) ≤ 2 ^ 80 := by omega
        have c3 : (bv h : Int) < 2 ^ 80 := by omega
        walk_at "wp"
        rw [e2]
        walk_at "wp"
        refine ⟨(bv h * W + bv c) % B, B, rfl, b6, by omega, fun v H1 e d => q v H1 (e0.trans e) ?_⟩
        unfold binN
        rw [hB, hW]
        exact d

/-! ### _law_arc -/
def sp__law_arc (K : PySem.W.Frag) : Sp := fun vs H Q _ => ∃ v w a b, vs = [v, w] ∧ Dp K H v (pd a) ∧ Plc a ∧ Dp K H w (pd b) ∧ Plc b ∧ ∀ v H', Same H H' → Dp K H' v (pd (arcN a b)) → Q v H'
theorem ok__law_arc (T : Top K mg) : FnOk P w K mg base CX0 3 T.f__law_arc T.fd__law_arc ["a", "b"] (sp__law_arc K) := by
  refine T.F__law_arc.ok sc__law_arc (fun vs H Q E h => ?_) (fun cdv A outer s H vs Q E hr h => ?_)
  · obtain ⟨v, w, a, b, rfl, _⟩ := h
    rfl
  · obtain ⟨v, w, a, b, rfl, hv, ha, hw, hb, q⟩ := h
    refine ⟨_, (pss_cons (ps_set (i := 2) sc__law_arc.nd (by rfl) (by first | exact Or.inl rfl | exact Or.inr rfl) (pe_op op_sub (pe_op op_mulX (pe_ix (ix_tupK (K := K)) (pv 1) pe_int (fun _ _ => rfl)) (pe_ix (ix_tupK (K := K)) (pv 0) pe_int (fun _ _ => rfl))) (pe_op op_mulX (pe_ix (ix_tupK (K := K)) (pv 0) pe_int (fun _ _ => rfl)) (pe_ix (ix_tupK (K := K)) (pv 1) pe_int (fun _ _ => rfl)))))
      (pss_one (ps_ret (pe_call (ok__law_ratio T) (hr.mono (by decide)) (by rfl) T.g__law_ratio T.F__law_ratio.kp T.b__law_ratio .nil pass0 (pa_cons (pe_ifExp (pt_cmpR op_ge (pv 2) pe_int (nomark _)) (pv 2) (pe_op op_add (pv 2) (pe_op op_mulX (pe_ix (ix_tupK (K := K)) (pv 0) pe_int (fun _ _ => rfl)) (pe_ix (ix_tupK (K := K)) (pv 1) pe_int (fun _ _ => rfl))))) (pa_cons (pe_op op_mulX (pe_ix (ix_tupK (K := K)) (pv 0) pe_int (fun _ _ => rfl)) (pe_ix (ix_tupK (K := K)) (pv 1) pe_int (fun _ _ => rfl))) pa_nil)))))), ?_⟩
    rw [show start N__law_arc [v, w] = [some (v), some (w), none] from rfl]
    try dsimp only [cxK]
    have p1 := ha.small
    have p2 := ha.lt
    have p3 := hb.small
    have p4 := hb.lt
    walk_at "wp"
    have hd : a.2 * b.2 < 2 ^ 48 := by
      calc a.2 * b.2 < 2 ^ 24 * 2 ^ 24 := Nat.mul_lt_mul'' p1 p3
        _ = 2 ^ 48 := by rw [← Nat.pow_add]
    have hpos : 0 < a.2 * b.2 := Nat.mul_pos ha.pos hb.pos
    obtain ⟨n, e, hn⟩ := arc_top ha hb
    refine w_iteD (fun h => ?_) (fun h => ?_)
    · rw [if_pos (by simpa using h)] at e
      walk_at "wp"
      rw [e]
      refine ⟨n, a.2 * b.2, rfl, hpos, by omega, fun v H1 e1 d => q v H1 e1 ?_⟩
      unfold arcN
      rw [← red_eq hpos CN_pos hn]
      exact d
    · rw [if_neg (by simpa using h)] at e
      walk_at "wp"
      rw [e]
      refine ⟨n, a.2 * b.2, rfl, hpos, by omega, fun v H1 e1 d => q v H1 e1 ?_⟩
      unfold arcN
      rw [← red_eq hpos CN_pos hn]
      exact d

/-! ### _law_plus -/
def sp__law_plus (K : PySem.W.Frag) : Sp := fun vs H Q _ => ∃ v w x y, vs = [v, w] ∧ Dp K H v (pd x) ∧ Dp K H w (pd y) ∧ 0 < x.2 ∧ x.2 < 2 ^ 96 ∧ x.1 < 2 ^ 97 ∧ 0 < y.2 ∧ y.2 < 2 ^ 48 ∧ y.1 < 2 ^ 48 ∧ ∀ v H', Same H H' → Dp K H' v (pd (red (x.1 * y.2 + y.1 * x.2) (x.2 * y.2))) → Q v H'
theorem ok__law_plus (T : Top K mg) : FnOk P w K mg base CX0 3 T.f__law_plus T.fd__law_plus ["x", "y"] (sp__law_plus K) := by
  refine T.F__law_plus.ok sc__law_plus (fun vs H Q E h => ?_) (fun cdv A outer s H vs Q E hr h => ?_)
  · obtain ⟨v, w, x, y, rfl, _⟩ := h
    rfl
  · obtain ⟨v, w, x, y, rfl, hv, hw, x0, x1, x2, y0, y1, y2, q⟩ := h
    refine ⟨_, (pss_one (ps_ret (pe_call (ok__law_ratio T) (hr.mono (by decide)) (by rfl) T.g__law_ratio T.F__law_ratio.kp T.b__law_ratio .nil pass0 (pa_cons (pe_op op_add (pe_op op_mulX (pe_ix (ix_tupK (K := K)) (pv 0) pe_int (fun _ _ => rfl)) (pe_ix (ix_tupK (K := K)) (pv 1) pe_int (fun _ _ => rfl))) (pe_op op_mulX (pe_ix (ix_tupK (K := K)) (pv 1) pe_int (fun _ _ => rfl)) (pe_ix (ix_tupK (K := K)) (pv 0) pe_int (fun _ _ => rfl)))) (pa_cons (pe_op op_mulX (pe_ix (ix_tupK (K := K)) (pv 0) pe_int (fun _ _ => rfl)) (pe_ix (ix_tupK (K := K)) (pv 1) pe_int (fun _ _ => rfl))) pa_nil))))), ?_⟩
    rw [show start N__law_plus [v, w] = [some (v), some (w)] from rfl]
    try dsimp only [cxK]
    have hd : x.2 * y.2 < 2 ^ 144 := by
      calc x.2 * y.2 < 2 ^ 96 * 2 ^ 48 := Nat.mul_lt_mul'' x1 y1
        _ = 2 ^ 144 := by rw [← Nat.pow_add]
    walk_at "wp"
    exact ⟨x.1 * y.2 + y.1 * x.2, x.2 * y.2, rfl, Nat.mul_pos x0 y0, by omega, q⟩

/-! ### _law_place -/
def sp__law_place (K : PySem.W.Frag) : Sp := fun vs H Q _ => ∃ (m c : Addr) (n k : Int) (b : Nat), vs = [.ref m, .int n, .int k] ∧ 0 ≤ n ∧ 1 ≤ k ∧ n + k ≤ 80 ∧ Mo H m c b ∧ b < 2 ^ 44 ∧ ∀ (h t : List Nat) v H', h.length = n.toNat → t.length = k.toNat → Dg h → Dg t → Keep H H' → Mo H' m c (b + 80) → Dp K H' v (pd (binN h t)) → Q v H'
theorem ok__law_place (T : Top K mg) : FnOk P w K mg base CX0 4 T.f__law_place T.fd__law_place ["m", "ahead", "again"] (sp__law_place K) := by
  refine T.F__law_place.ok sc__law_place (fun vs H Q E h => ?_) (fun cdv A outer s H vs Q E hr h => ?_)
  · obtain ⟨m, c, n, k, b, rfl, _⟩ := h
    rfl
  · obtain ⟨m, c, n, k, b, rfl, h0, h1, h2, hm, hb, q⟩ := h
    refine ⟨_, (pss_one (ps_ret (pe_call (ok__law_binary T) (hr.mono (by decide)) (by rfl) T.g__law_binary T.F__law_binary.kp T.b__law_binary .nil pass0 (pa_cons (pe_call (ok__law_string T) (hr.mono (by decide)) (by rfl) T.g__law_string T.F__law_string.kp T.b__law_string .nil pass0 (pa_cons (pv 0) (pa_cons (pv 1) pa_nil))) (pa_cons (pe_call (ok__law_string T) (hr.mono (by decide)) (by rfl) T.g__law_string T.F__law_string.kp T.b__law_string .nil pass0 (pa_cons (pv 0) (pa_cons (pv 2) pa_nil))) pa_nil))))), ?_⟩
    rw [show start N__law_place [.ref m, .int n, .int k] = [some (.ref m), some (.int n), some (.int k)] from rfl]
    try dsimp only [cxK]
    walk_at "wp"
    refine ⟨m, c, n, b, rfl, h0, by omega, hm, by omega, fun h H1 l1 dh k1 m1 => ?_⟩
    walk_at "wp"
    refine ⟨m, c, k, _, rfl, by omega, by omega, m1, by omega, fun t H2 l2 dt k2 m2 => ?_⟩
    walk_at "wp"
    refine ⟨h, t, rfl, dh, dt, fun z => ?_, by omega, fun v H3 e3 d3 => ?_⟩
    · rw [z] at l2
      simp at l2
      omega
    · exact q h t v H3 l1 l2 dh dt ((k1.trans k2).trans (Keep.of e3)) ((m2.same e3).mono (by omega)) d3

/-! ### _law_any_place -/
def sp__law_any_place (K : PySem.W.Frag) : Sp := fun vs H Q _ => ∃ (m c : Addr) (n : Int) (b : Nat), vs = [.ref m, .int n] ∧ 1 ≤ n ∧ n ≤ 60 ∧ Mo H m c b ∧ b < 2 ^ 43 ∧ ∀ (h t : List Nat) v H', (h.length : Int) + t.length ≤ n → t ≠ [] → Dg h → Dg t → Keep H H' → Mo H' m c (b + 82) → Dp K H' v (pd (binN h t)) → Q v H'
theorem ok__law_any_place (T : Top K mg) : FnOk P w K mg base CX0 5 T.f__law_any_place T.fd__law_any_place ["m", "limit"] (sp__law_any_place K) := by
  refine T.F__law_any_place.ok sc__law_any_place (fun vs H Q E h => ?_) (fun cdv A outer s H vs Q E hr h => ?_)
  · obtain ⟨m, c, n, b, rfl, _⟩ := h
    rfl
  · obtain ⟨m, c, n, b, rfl, h0, h1, hm, hb, q⟩ := h
    refine ⟨_, (pss_cons (ps_set (i := 2) sc__law_any_place.nd (by rfl) (by first | exact Or.inl rfl | exact Or.inr rfl) (pe_op op_add pe_int (pe_call (ok__law_draw T) (hr.mono (by decide)) (by rfl) T.g__law_draw T.F__law_draw.kp T.b__law_draw .nil pass0 (pa_cons (pv 0) (pa_cons (pv 1) pa_nil)))))
      (pss_one (ps_ret (pe_call (ok__law_place T) (hr.mono (by decide)) (by rfl) T.g__law_place T.F__law_place.kp T.b__law_place .nil pass0 (pa_cons (pv 0) (pa_cons (pe_call (ok__law_draw T) (hr.mono (by decide)) (by rfl) T.g__law_draw T.F__law_draw.kp T.b__law_draw .nil pass0 (pa_cons (pv 0) (pa_cons (pe_op op_add (pe_op op_sub (pv 1) (pv 2)) pe_int) pa_nil))) (pa_cons (pv 2) pa_nil))))))), ?_⟩
    rw [show start N__law_any_place [.ref m, .int n] = [some (.ref m), some (.int n), none] from rfl]
    try dsimp only [cxK]
    walk_at "wp"
    refine ⟨m, c, n, b, rfl, by omega, by omega, hm, by omega, fun r H1 r0 r1 k1 m1 => ?_⟩
    walk_at "wp"
    refine ⟨m, c, _, _, rfl, by omega, by omega, m1, by omega, fun r2 H2 r20 r21 k2 m2 => ?_⟩
    walk_at "wp"
    refine ⟨m, c, r2, 1 + r, _, rfl, by omega, by omega, by omega, m2, by omega, fun h t v H3 l1 l2 dh dt k3 m3 d3 => ?_⟩
    exact q h t v H3 (by omega) (fun z => by rw [z] at l2; simp at l2; omega) dh dt ((k1.trans k2).trans k3) (m3.mono (by omega)) d3

/-! ### law -/
def sp_law (K : PySem.W.Frag) : Sp := fun vs H Q _ => ∃ (a : Addr) (ns : List Int), vs = [.ref a] ∧ SqL K H a (ns.map V.int) ∧ ns.length ≤ 63 ∧ (∀ z ∈ ns, Builtin.Int.intBits z ≤ 1048576) ∧ ∀ H', Q (.bl true) H'
theorem ok_law (T : Top K mg) : FnOk P w K mg base CX0 6 T.f_law T.fd_law ["script"] (sp_law K) := by
  refine T.F_law.ok sc_law (fun vs H Q E h => ?_) (fun cdv A outer s H vs Q E hr h => ?_)
  · obtain ⟨a, ns, rfl, _⟩ := h
    rfl
  · obtain ⟨ad, ns, rfl, hS, hl, hB, q⟩ := h
    refine ⟨_, (pss_cons (ps_for PassesOwn.never (by rfl) (pi_range1 (by rfl) T.z_range (pa_cons (pe_callB (cl_max2 (by rfl)) (by rfl) T.z_max (by decide +kernel) (pa_cons pe_int (pa_cons (pe_callB (cl_min2 (by rfl)) (by rfl) T.z_min (by decide +kernel) (pa_cons (pe_callB (cl_len (K := K)) (by rfl) T.z_len (by decide +kernel) (pa_cons (pv 0) pa_nil)) (pa_cons pe_int pa_nil))) pa_nil))) pa_nil)) (pg_name (i := 1) sc_law.nd (by rfl) (by first | exact Or.inl rfl | exact Or.inr rfl)) (pss_cons (ps_set (i := 2) sc_law.nd (by rfl) (by first | exact Or.inl rfl | exact Or.inr rfl) (pe_call (ok__law_begun T) (hr.mono (by decide)) (by rfl) T.g__law_begun T.F__law_begun.kp T.b__law_begun .nil pass0 (pa_cons (pv 0) (pa_cons (pv 1) pa_nil))))
      (pss_cons (ps_par3 (i := 3) (j := 4) (l := 5) (by rfl) sc_law.nd (by rfl) (by rfl) (by rfl) (by decide) (by decide) (by decide) (by rfl) (by rfl) (by rfl) (pa_cons (pe_call (ok__law_any_place T) (hr.mono (by decide)) (by rfl) T.g__law_any_place T.F__law_any_place.kp T.b__law_any_place .nil pass0 (pa_cons (pv 2) (pa_cons pe_int pa_nil))) (pa_cons (pe_call (ok__law_any_place T) (hr.mono (by decide)) (by rfl) T.g__law_any_place T.F__law_any_place.kp T.b__law_any_place .nil pass0 (pa_cons (pv 2) (pa_cons pe_int pa_nil))) (pa_cons (pe_call (ok__law_any_place T) (hr.mono (by decide)) (by rfl) T.g__law_any_place T.F__law_any_place.kp T.b__law_any_place .nil pass0 (pa_cons (pv 2) (pa_cons pe_int pa_nil))) pa_nil))) (by rfl))
      (pss_cons (ps_set (i := 5) sc_law.nd (by rfl) (by first | exact Or.inl rfl | exact Or.inr rfl) (pe_call (ok__law_of T) (hr.mono (by decide)) (by rfl) T.g__law_of T.F__law_of.kp T.b__law_of .nil pass0 (pa_cons (pv 2) (pa_cons (pe_lst (pa_cons (pv 5) (pa_cons (pv 3) (pa_cons (pv 4) (pa_cons (pe_call (ok__law_double T) (hr.mono (by decide)) (by rfl) T.g__law_double T.F__law_double.kp T.b__law_double .nil pass0 (pa_cons (pv 3) pa_nil)) (pa_cons (pv 5) pa_nil)))))) pa_nil))))
      (pss_cons (ps_for PassesOwn.never (by rfl) (pi_listK (K := K) (pe_lst (pa_cons (pe_tup (pa_cons (pv 3) (pa_cons (pv 4) pa_nil))) (pa_cons (pe_tup (pa_cons (pv 4) (pa_cons (pv 3) pa_nil))) (pa_cons (pe_tup (pa_cons (pv 3) (pa_cons (pv 5) pa_nil))) (pa_cons (pe_tup (pa_cons (pv 5) (pa_cons (pv 4) pa_nil))) (pa_cons (pe_tup (pa_cons (pv 3) (pa_cons (pv 3) pa_nil))) pa_nil))))))) (pg_tupK (K := K) (n := 2) (by rfl) (pgs_cons (pg_name (i := 6) sc_law.nd (by rfl) (by first | exact Or.inl rfl | exact Or.inr rfl)) (pgs_cons (pg_name (i := 7) sc_law.nd (by rfl) (by first | exact Or.inl rfl | exact Or.inr rfl)) pgs_nil))) (pss_cons (ps_set (i := 8) sc_law.nd (by rfl) (by first | exact Or.inl rfl | exact Or.inr rfl) (pe_call (ok_arc T) (hr.mono (by decide)) (by rfl) T.g_arc T.F_arc.kp T.b_arc .nil pass0 (pa_cons (pv 6) (pa_cons (pv 7) pa_nil))))
      (pss_cons (ps_if (PW.pt (pw_or (pt_not (pt_val (pe_callB (cl_isi (K := K)) (by rfl) T.z_isinstance (by decide +kernel) (pa_cons (pv 8) (pa_cons (pe_bltn (v := .ty "tuple") (by rfl) T.z_tuple (by decide +kernel) rfl) pa_nil))))) (pw_or (pt_cmpR (op_neK (K := K) hr.units) (pv 8) (pe_call (ok__law_arc T) (hr.mono (by decide)) (by rfl) T.g__law_arc T.F__law_arc.kp T.b__law_arc .nil pass0 (pa_cons (pv 6) (pa_cons (pv 7) pa_nil))) (nomark _)) (pw_or1 (pt_val (pe_callB (cl_isi (K := K)) (by rfl) T.z_isinstance (by decide +kernel) (pa_cons (pe_ix (ix_tupK (K := K)) (pv 8) pe_int (fun _ _ => rfl)) (pa_cons (pe_bltn (v := .ty "bool") (by rfl) T.z_bool (by decide +kernel) rfl) pa_nil)))))))) (pss_one (ps_ret pe_bl)) pss_nil)
      (pss_cons (ps_if (PW.pt (pw_and (pt_cmpR (op_neK (K := K) hr.units) (pv 6) (pv 7) (nomark _)) (pw_and1 (pt_cmpR (op_neK (K := K) hr.units) (pe_call (ok__law_plus T) (hr.mono (by decide)) (by rfl) T.g__law_plus T.F__law_plus.kp T.b__law_plus .nil pass0 (pa_cons (pv 8) (pa_cons (pe_call (ok_arc T) (hr.mono (by decide)) (by rfl) T.g_arc T.F_arc.kp T.b_arc .nil pass0 (pa_cons (pv 7) (pa_cons (pv 6) pa_nil))) pa_nil))) (pe_tup (pa_cons pe_int (pa_cons pe_int pa_nil))) (nomark _))))) (pss_one (ps_ret pe_bl)) pss_nil)
      (pss_one (ps_if (pt_cmpR (op_neK (K := K) hr.units) (pe_call (ok_arc T) (hr.mono (by decide)) (by rfl) T.g_arc T.F_arc.kp T.b_arc .nil pass0 (pa_cons (pe_call (ok_mirrored T) (hr.mono (by decide)) (by rfl) T.g_mirrored T.F_mirrored.kp T.b_mirrored .nil pass0 (pa_cons (pv 7) pa_nil)) (pa_cons (pe_call (ok_mirrored T) (hr.mono (by decide)) (by rfl) T.g_mirrored T.F_mirrored.kp T.b_mirrored .nil pass0 (pa_cons (pv 6) pa_nil)) pa_nil))) (pv 8) (nomark _)) (pss_one (ps_ret pe_bl)) pss_nil))))))
      (pss_cons (ps_if (pt_cmpR (op_eqK (K := K) hr.units) (pv 3) (pv 4) (nomark _)) (pss_one ps_continue) pss_nil)
      (pss_cons (ps_set (i := 9) sc_law.nd (by rfl) (by first | exact Or.inl rfl | exact Or.inr rfl) (pe_and (pe_cmpR (op_notInDK (K := K) (Room65 hr)) (pv 5) (pe_lst (pa_cons (pv 3) (pa_cons (pv 4) pa_nil))) (by rfl)) (pe_one (pe_call (ok__law_between T) (hr.mono (by decide)) (by rfl) T.g__law_between T.F__law_between.kp T.b__law_between .nil pass0 (pa_cons (pv 3) (pa_cons (pv 5) (pa_cons (pv 4) pa_nil)))))))
      (pss_cons (ps_set (i := 8) sc_law.nd (by rfl) (by first | exact Or.inl rfl | exact Or.inr rfl) (pe_call (ok_is_within T) (hr.mono (by decide)) (by rfl) T.g_is_within T.F_is_within.kp T.b_is_within .nil pass0 (pa_cons (pv 3) (pa_cons (pv 5) (pa_cons (pv 4) pa_nil)))))
      (pss_cons (ps_if (PW.pt (pw_or (pt_not (pt_val (pe_callB (cl_isi (K := K)) (by rfl) T.z_isinstance (by decide +kernel) (pa_cons (pv 8) (pa_cons (pe_bltn (v := .ty "bool") (by rfl) T.z_bool (by decide +kernel) rfl) pa_nil))))) (pw_or (pt_cmpR op_ne (pv 8) (pv 9) (nomark _)) (pw_or (pt_val (pe_call (ok_is_within T) (hr.mono (by decide)) (by rfl) T.g_is_within T.F_is_within.kp T.b_is_within .nil pass0 (pa_cons (pv 3) (pa_cons (pv 3) (pa_cons (pv 4) pa_nil))))) (pw_or1 (pt_val (pe_call (ok_is_within T) (hr.mono (by decide)) (by rfl) T.g_is_within T.F_is_within.kp T.b_is_within .nil pass0 (pa_cons (pv 3) (pa_cons (pv 4) (pa_cons (pv 4) pa_nil)))))))))) (pss_one (ps_ret pe_bl)) pss_nil)
      (pss_one (ps_if (pt_cmpR (op_notInDK (K := K) (Room65 hr)) (pv 5) (pe_lst (pa_cons (pv 3) (pa_cons (pv 4) pa_nil))) (by rfl)) (pss_cons (ps_if (PW.pt (pw_or (pt_cmpR op_eq (pe_call (ok_is_within T) (hr.mono (by decide)) (by rfl) T.g_is_within T.F_is_within.kp T.b_is_within .nil pass0 (pa_cons (pv 4) (pa_cons (pv 5) (pa_cons (pv 3) pa_nil)))) (pv 8) (nomark _)) (pw_or1 (pt_cmpR op_ne (pe_call (ok_is_within T) (hr.mono (by decide)) (by rfl) T.g_is_within T.F_is_within.kp T.b_is_within .nil pass0 (pa_cons (pe_call (ok_mirrored T) (hr.mono (by decide)) (by rfl) T.g_mirrored T.F_mirrored.kp T.b_mirrored .nil pass0 (pa_cons (pv 4) pa_nil)) (pa_cons (pe_call (ok_mirrored T) (hr.mono (by decide)) (by rfl) T.g_mirrored T.F_mirrored.kp T.b_mirrored .nil pass0 (pa_cons (pv 5) pa_nil)) (pa_cons (pe_call (ok_mirrored T) (hr.mono (by decide)) (by rfl) T.g_mirrored T.F_mirrored.kp T.b_mirrored .nil pass0 (pa_cons (pv 3) pa_nil)) pa_nil)))) (pv 8) (nomark _))))) (pss_one (ps_ret pe_bl)) pss_nil)
      (pss_cons (ps_set (i := 10) sc_law.nd (by rfl) (by first | exact Or.inl rfl | exact Or.inr rfl) (pe_call (ok__law_plus T) (hr.mono (by decide)) (by rfl) T.g__law_plus T.F__law_plus.kp T.b__law_plus .nil pass0 (pa_cons (pe_call (ok__law_plus T) (hr.mono (by decide)) (by rfl) T.g__law_plus T.F__law_plus.kp T.b__law_plus .nil pass0 (pa_cons (pe_call (ok_arc T) (hr.mono (by decide)) (by rfl) T.g_arc T.F_arc.kp T.b_arc .nil pass0 (pa_cons (pv 3) (pa_cons (pv 5) pa_nil))) (pa_cons (pe_call (ok_arc T) (hr.mono (by decide)) (by rfl) T.g_arc T.F_arc.kp T.b_arc .nil pass0 (pa_cons (pv 5) (pa_cons (pv 4) pa_nil))) pa_nil))) (pa_cons (pe_call (ok_arc T) (hr.mono (by decide)) (by rfl) T.g_arc T.F_arc.kp T.b_arc .nil pass0 (pa_cons (pv 4) (pa_cons (pv 3) pa_nil))) pa_nil))))
      (pss_one (ps_if (pt_cmpR (op_neK (K := K) hr.units) (pv 10) (pe_ifExp (pt_val (pv 8)) (pe_tup (pa_cons pe_int (pa_cons pe_int pa_nil))) (pe_tup (pa_cons pe_int (pa_cons pe_int pa_nil)))) (nomark _)) (pss_one (ps_ret pe_bl)) pss_nil)))) pss_nil)))))))))))
      (pss_one (ps_ret pe_bl))), ?_⟩
    rw [show start N_law [.ref ad] = [some (.ref ad), none, none, none, none, none, none, none, none, none, none] from rfl]
    try dsimp only [cxK]
    have hBig : ∀ n ∈ ns, Big n := fun n hn => Big.bits (hB n hn)
    have dS : Dp K H (.ref ad) (.list (ns.map PyData.int)) := .lst hS (dpa_ints ns)
    walk_at "wp"
    rename_i r1 er1 r2 er2
    rw [List.length_map] at er1
    refine forR1_by (fun i σ' H' => ∃ (y1 y2 y3 y4 y5 y6 y7 y8 y9 y10 : Option V), σ' = [some (.ref ad), y1, y2, y3, y4, y5, y6, y7, y8, y9, y10] ∧ Keep H H') (by omega) ⟨none, none, none, none, none, none, none, none, none, none, rfl, Keep.refl _⟩ ?_ ?_
    · rintro i σ' H' hi ⟨y1, y2, y3, y4, y5, y6, y7, y8, y9, y10, rfl, k0⟩
      walk_at "wp"
      refine ⟨ad, ns, _, rfl, k0.seqL hS, hl, hBig, by omega, by omega, fun m c H1 e1 n1 m1 => ?_⟩
      walk_at "wp"
      refine ⟨m, c, 24, 0, rfl, by decide, by decide, m1, by decide, fun ha ta va H2 la na dha dta k2 m2 da => ?_⟩
      walk_at "wp"
      refine ⟨m, c, 8, _, rfl, by decide, by decide, m2, by decide, fun hb tb vb H3 lb nb dhb dtb k3 m3 db => ?_⟩
      walk_at "wp"
      refine ⟨m, c, 6, _, rfl, by decide, by decide, m3, by decide, fun hx tx vx H4 lx nx dhx dtx k4 m4 dx => ?_⟩
      have Pa : Plc (binN ha ta) := bin_plc na (by omega)
      have Pb : Plc (binN hb tb) := bin_plc nb (by omega)
      have Px0 : Plc (binN hx tx) := bin_plc nx (by omega)
      replace da := dp_keep k4 (dp_keep k3 da)
      replace db := dp_keep k4 db
      have kk : Keep H H4 := (((k0.trans (Keep.of e1)).trans k2).trans k3).trans k4
      generalize binN ha ta = a at *
      generalize binN hb tb = b at *
      generalize binN hx tx = x0 at *
      walk_at "wp"
      refine ⟨_, a, rfl, da, Pa.lt, by have := Pa.small; omega, fun v5 H5 e5 d5 => ?_⟩
      walk_at "wp"
      refine w_newL (K := K) (len_ok (by simp)) (.cons (dp_same e5 dx) (.cons (dp_same e5 da) (.cons (dp_same e5 db) (.cons d5 (.cons (dp_same e5 dx) .nil))))) fun p6 H6 n6 e6 f6 d6 => ?_
      walk_at "wp"
      refine ⟨m, c, _, _, _, rfl, d6, by simp, by simp, (m4.same e5).same e6, by decide, fun y d H7 hd hy k7 m7 => ?_⟩
      obtain ⟨x, rfl, Px⟩ : ∃ x, d = pd x ∧ Plc x := by
        simp only [List.mem_cons, List.not_mem_nil, or_false] at hd
        rcases hd with rfl | rfl | rfl | rfl | rfl
        · exact ⟨_, rfl, Px0⟩
        · exact ⟨_, rfl, Pa⟩
        · exact ⟨_, rfl, Pb⟩
        · exact ⟨_, rfl, dbl_plc Pa⟩
        · exact ⟨_, rfl, Px0⟩
      have k47 : Keep H4 H7 := ((Keep.of e5).trans (Keep.of e6)).trans k7
      replace da := dp_keep k47 da
      replace db := dp_keep k47 db
      have kk2 : Keep H H7 := kk.trans k47
      walk_at "wt"
      have pairs : ∀ d ∈ [PyData.tuple [pd a, pd b], .tuple [pd b, pd a], .tuple [pd a, pd x], .tuple [pd x, pd b], .tuple [pd a, pd a]], ∃ p q, d = .tuple [pd p, pd q] ∧ Plc p ∧ Plc q := by
        intro d hd
        simp only [List.mem_cons, List.not_mem_nil, or_false] at hd
        rcases hd with rfl | rfl | rfl | rfl | rfl
        · exact ⟨_, _, rfl, Pa, Pb⟩
        · exact ⟨_, _, rfl, Pb, Pa⟩
        · exact ⟨_, _, rfl, Pa, Px⟩
        · exact ⟨_, _, rfl, Px, Pb⟩
        · exact ⟨_, _, rfl, Pa, Pa⟩
      rename_i p13 H13 n13 e13 f13 d13
      have k13 : Keep H H13 := Keep.trans kk2 (Keep.of (by walk_at "same"))
      have da13 : Dp K H13 va (pd a) := by walk_at "dp"
      have db13 : Dp K H13 vb (pd b) := by walk_at "dp"
      have dx13 : Dp K H13 y (pd x) := by walk_at "dp"
      refine forL_by (fun i2 σ' H' => ∃ (z6 z7 z8 : Option V), σ' = [some (.ref ad), some (.int (i : Int)), some (.ref m), some va, some vb, some y, z6, z7, z8, y9, y10] ∧ Same H13 H') d13 ⟨y6, y7, y8, rfl, Same.refl _⟩ ?_ ?_ ?_
      · rintro i2 σ' H' _ ⟨z6, z7, z8, rfl, s1⟩
        exact Keep.of s1
      · rintro i2 d w σ' H' hd hw ⟨z6, z7, z8, rfl, s1⟩
        obtain ⟨p, r, rfl, Pp, Pr⟩ := pairs d (List.mem_of_getElem? hd)
        refine w_gTup2 hw fun v1 v2 d1 d2 => ?_
        walk_at "wt"
        refine ⟨v1, v2, p, r, rfl, d1, Pp, d2, Pr, fun vt H14 e14 dt => ?_⟩
        walk_at "wt"
        refine ⟨v1, v2, p, r, rfl, dp_same e14 d1, Pp, dp_same e14 d2, Pr, fun vt2 H15 e15 dt2 => ?_⟩
        refine w_neP (dp_same e15 dt) dt2 (pd_pln _) (pd_pln _) (fun _ => ?_) (fun h => absurd rfl h)
        walk_at "wi"
        have d1' : Dp K H15 v1 (pd p) := by walk_at "dp"
        have d2' : Dp K H15 v2 (pd r) := by walk_at "dp"
        have dt' : Dp K H15 vt (pd (arcN p r)) := by walk_at "dp"
        have s15 : Same H13 H15 := (s1.trans e14).trans e15
        refine w_meetS (fun σ' H' => ∃ (z6 z7 z8 : Option V), σ' = [some (.ref ad), some (.int (i : Int)), some (.ref m), some va, some vb, some y, some v1, some v2, some vt, y9, y10] ∧ Same H15 H') (fun nx hnx => ?_) ?_
        · walk_at "wt"
          refine w_neP d1' d2' (pd_pln _) (pd_pln _) (fun _ => ?_) (fun h => ?_)
          · walk_at "wt"
            exact hnx _ _ ⟨none, none, none, rfl, Same.refl _⟩
          · have hpr : p ≠ r := fun z => h (by rw [z])
            have b1 := arc_bd Pp Pr
            have b2 := arc_bd Pr Pp
            walk_at "wt"
            refine ⟨v2, v1, r, p, rfl, d2', Pr, d1', Pp, fun v3 H16 e16 d3 => ?_⟩
            walk_at "wt"
            refine ⟨vt, v3, arcN p r, arcN r p, rfl, dp_same e16 dt', d3, by omega, by omega, by omega, by omega, by omega, by omega, fun v4 H17 e17 d4 => ?_⟩
            rw [red_add (x := arcN p r) (y := arcN r p) (n := wu p r) (k := wu r p) rfl rfl, wu_back Pp Pr hpr, red_one] at d4
            walk_at "wp"
            refine w_newT (K := K) (len_ok (by simp)) (.cons (.int _) (.cons (.int _) .nil)) fun t18 H18 n18 e18 d18 => ?_
            refine w_neP (dp_same e18 d4) d18 (pd_pln _) rfl (fun _ => ?_) (fun h => absurd rfl h)
            walk_at "wt"
            exact hnx _ _ ⟨none, none, none, rfl, (e16.trans e17).trans e18⟩
        · rintro σ' H16 ⟨z6, z7, z8, rfl, s16⟩
          walk_at "wt"
          refine ⟨v2, r, rfl, dp_same s16 d2', Pr.lt, fun v5 H17 e17 d5 => ?_⟩
          walk_at "wt"
          refine ⟨v1, p, rfl, dp_same e17 (dp_same s16 d1'), Pp.lt, fun v6 H18 e18 d6 => ?_⟩
          walk_at "wt"
          refine ⟨v5, v6, mirN r, mirN p, rfl, dp_same e18 d5, mir_plc Pr, d6, mir_plc Pp, fun v7 H19 e19 d7 => ?_⟩
          rw [arc_mir Pp Pr] at d7
          walk_at "wt"
          refine w_neP d7 (dp_same e19 (dp_same e18 (dp_same e17 (dp_same s16 dt')))) (pd_pln _) (pd_pln _) (fun _ => ?_) (fun h => absurd rfl h)
          walk_at "wt"
          exact ⟨_, _, _, rfl, (((s15.trans s16).trans e17).trans e18).trans e19⟩
      · rintro σ' H20 ⟨z6, z7, z8, rfl, s20⟩
        have da20 := dp_same s20 da13
        have db20 := dp_same s20 db13
        have dx20 := dp_same s20 dx13
        have k20 : Keep H H20 := k13.trans (Keep.of s20)
        walk_at "wt"
        refine w_eqP da20 db20 (pd_pln _) (pd_pln _) (fun _ => ?_) (fun hab => ?_)
        · walk_at "wt"
          exact ⟨_, _, _, _, _, _, _, _, _, _, rfl, k20⟩
        · have nab : a ≠ b := fun z => hab (by rw [z])
          have pl2 : ∀ z ∈ [pd a, pd b], pln 8 z = true := by
            intro z hz
            simp only [List.mem_cons, List.not_mem_nil, or_false] at hz
            rcases hz with rfl | rfl <;> exact pd_pln _
          have mem : ∀ {w : Nat × Nat}, pd w ∈ [pd a, pd b] ↔ (w = a ∨ w = b) := by
            intro w
            simp only [List.mem_cons, List.not_mem_nil, or_false]
            constructor
            · rintro (h | h)
              · exact .inl (pd_inj h)
              · exact .inr (pd_inj h)
            · rintro (rfl | rfl)
              · exact .inl rfl
              · exact .inr rfl
          have sa := wu_self Pa
          (repeat walk_at "e")
          with_reducible refine w_next ?_
          with_reducible refine w_seq ?_
          with_reducible refine w_asg ?_
          refine w_meet (fun v H' => v = .bl (decide (0 < wu a x ∧ wu a x < wu a b)) ∧ Same H20 H') (fun Q' hQ' => ?_) ?_
          · walk_at "wi"
            rename_i p21 H21 n21 e21 f21 d21
            refine w_notInP (dp_same e21 dx20) d21 (pd_pln _) pl2 (fun hm => ?_) (fun hm => ?_)
            · walk_at "wi"
              refine hQ' _ _ ⟨?_, e21⟩
              rw [decide_eq_false]
              rcases mem.mp hm with rfl | rfl <;> omega
            · walk_at "wi"
              refine ⟨_, _, _, a, x, b, rfl, dp_same e21 da20, Pa, dp_same e21 dx20, Px, dp_same e21 db20, Pb, ?_⟩
              refine hQ' _ _ ⟨?_, e21⟩
              rw [decide_eq_decide.mpr (btw_wu Pa Px Pb (fun z => hm (mem.mpr (.inl z))) (fun z => hm (mem.mpr (.inr z))) nab)]
          · rintro v21 H21 ⟨rfl, e21⟩
            have da21 := dp_same e21 da20
            have db21 := dp_same e21 db20
            have dx21 := dp_same e21 dx20
            walk_at "wt"
            refine ⟨_, _, _, a, x, b, rfl, da21, Pa, dx21, Px, db21, Pb, ?_⟩
            walk_at "wt"
            refine w_iteND (fun h => absurd rfl h) (fun _ => ?_)
            walk_at "wt"
            refine ⟨_, _, _, a, a, b, rfl, da21, Pa, da21, Pa, db21, Pb, ?_⟩
            rw [show decide (0 < wu a a ∧ wu a a < wu a b) = false by rw [decide_eq_false_iff_not]; omega]
            walk_at "wt"
            refine ⟨_, _, _, a, b, b, rfl, da21, Pa, db21, Pb, db21, Pb, ?_⟩
            rw [show decide (0 < wu a b ∧ wu a b < wu a b) = false by rw [decide_eq_false_iff_not]; omega]
            walk_at "wt"
            rename_i p22 H22 n22 e22 f22 d22
            have da22 := dp_same e22 da21
            have db22 := dp_same e22 db21
            have dx22 := dp_same e22 dx21
            refine w_notInP dx22 d22 (pd_pln _) pl2 (fun hm => ?_) (fun hm => ?_)
            · walk_at "wt"
              exact ⟨_, _, _, _, _, _, _, _, _, _, rfl, (k20.trans (Keep.of e21)).trans (Keep.of e22)⟩
            · have nxa : x ≠ a := fun z => hm (mem.mpr (.inl z))
              have nxb : x ≠ b := fun z => hm (mem.mpr (.inr z))
              have za := sz_lt Pa
              have zb := sz_lt Pb
              have zx := sz_lt Px
              have z1 : sz x ≠ sz a := fun z => nxa (sz_inj Px Pa z)
              have z2 : sz x ≠ sz b := fun z => nxb (sz_inj Px Pb z)
              have z3 : sz a ≠ sz b := fun z => nab (sz_inj Pa Pb z)
              have u1 := wu_eq Pa Px
              have u2 := wu_eq Pa Pb
              have u3 := wu_eq Pb Px
              have u4 := wu_eq Pb Pa
              have u5 := wu_eq Px Pb
              walk_at "wt"
              refine ⟨_, _, _, b, x, a, rfl, db22, Pb, dx22, Px, da22, Pa, ?_⟩
              walk_at "wt"
              refine w_iteD (fun h => ?_) (fun _ => ?_)
              · exfalso
                replace h := V.bl.inj h
                rw [decide_eq_decide, u1, u2, u3, u4] at h
                revert h
                (repeat' split) <;> omega
              walk_at "wt"
              refine ⟨_, b, rfl, db22, Pb.lt, fun v23 H23 e23 d23 => ?_⟩
              walk_at "wt"
              refine ⟨_, x, rfl, dp_same e23 dx22, Px.lt, fun v24 H24 e24 d24 => ?_⟩
              walk_at "wt"
              refine ⟨_, a, rfl, dp_same e24 (dp_same e23 da22), Pa.lt, fun v25 H25 e25 d25 => ?_⟩
              walk_at "wt"
              refine ⟨_, _, _, mirN b, mirN x, mirN a, rfl, dp_same e25 (dp_same e24 d23), mir_plc Pb, dp_same e25 d24, mir_plc Px, d25, mir_plc Pa, ?_⟩
              rw [mir_wu Px Pb, mir_wu Pa Pb]
              walk_at "wt"
              refine w_iteND (fun h => ?_) (fun _ => ?_)
              rotate_left
              · have e225 : Same H22 H25 := (e23.trans e24).trans e25
                have da25 := dp_same e225 da22
                have db25 := dp_same e225 db22
                have dx25 := dp_same e225 dx22
                walk_at "wt"
                refine ⟨_, _, a, x, rfl, da25, Pa, dx25, Px, fun v26 H26 e26 d26 => ?_⟩
                walk_at "wt"
                refine ⟨_, _, x, b, rfl, dp_same e26 dx25, Px, dp_same e26 db25, Pb, fun v27 H27 e27 d27 => ?_⟩
                have b1 := arc_bd Pa Px
                have b2 := arc_bd Px Pb
                have b3 := arc_bd Pb Pa
                walk_at "wt"
                refine ⟨_, _, arcN a x, arcN x b, rfl, dp_same e27 d26, d27, by omega, by omega, by omega, by omega, by omega, by omega, fun v28 H28 e28 d28 => ?_⟩
                walk_at "wt"
                refine ⟨_, _, b, a, rfl, dp_same e28 (dp_same e27 (dp_same e26 db25)), Pb, dp_same e28 (dp_same e27 (dp_same e26 da25)), Pa, fun v29 H29 e29 d29 => ?_⟩
                walk_at "wt"
                have b4 := sum_bd Pa Px Pb
                refine ⟨_, _, _, arcN b a, rfl, dp_same e29 d28, d29, b4.1, b4.2.1, b4.2.2, by omega, by omega, by omega, fun v30 H30 e30 d30 => ?_⟩
                rw [red_add (y := arcN b a) (n := wu a x + wu x b) (k := wu b a) (red_add (x := arcN a x) (y := arcN x b) (n := wu a x) (k := wu x b) rfl rfl) rfl] at d30
                have kend : Keep H H30 := ((((((((k20.trans (Keep.of e21)).trans (Keep.of e22)).trans (Keep.of e225)).trans (Keep.of e26)).trans (Keep.of e27)).trans (Keep.of e28)).trans (Keep.of e29)).trans (Keep.of e30))
                walk_at "wt"
                refine w_iteD (fun ht => ?_) (fun ht => ?_)
                · have es : wu a x + wu x b + wu b a = CN := by
                    rw [u1, u2] at ht
                    rw [u1, u5, u4]
                    revert ht
                    (repeat' split) <;> omega
                  rw [es, red_one] at d30
                  walk_at "wp"
                  refine w_newT (K := K) (len_ok (by simp)) (.cons (.int _) (.cons (.int _) .nil)) fun t31 H31 n31 e31 d31 => ?_
                  refine w_neP (dp_same e31 d30) d31 (pd_pln _) rfl (fun _ => ?_) (fun h => absurd rfl h)
                  walk_at "wt"
                  exact ⟨_, _, _, _, _, _, _, _, _, _, rfl, kend.trans (Keep.of e31)⟩
                · have es : wu a x + wu x b + wu b a = 2 * CN := by
                    rw [u1, u2] at ht
                    rw [u1, u5, u4]
                    revert ht
                    (repeat' split) <;> omega
                  rw [es, red_two] at d30
                  walk_at "wp"
                  refine w_newT (K := K) (len_ok (by simp)) (.cons (.int _) (.cons (.int _) .nil)) fun t31 H31 n31 e31 d31 => ?_
                  refine w_neP (dp_same e31 d30) d31 (pd_pln _) rfl (fun _ => ?_) (fun h => absurd rfl h)
                  walk_at "wt"
                  exact ⟨_, _, _, _, _, _, _, _, _, _, rfl, kend.trans (Keep.of e31)⟩
              · exfalso
                apply h
                congr 1
                rw [decide_eq_decide, u1, u2, u5]
                (repeat' split) <;> omega
    · rintro σ' H' ⟨y1, y2, y3, y4, y5, y6, y7, y8, y9, y10, rfl, k0⟩
      walk_at "wp"
      exact q H'

end
end Tw
namespace Tw
open PySem PySem.Spec PyProof.Rows L2
set_option maxHeartbeats 4000000 in
def top_mk {K : PySem.W.Frag} {h : Heap} {mg : Str → Option Value} (X : K.In h) (G : h.Ns mainGlobals mg) {f_reduced f_size f_way_up f_mirrored f_arc f_is_within f__law_begun f__law_draw f__law_of f__law_twos f__law_shared f__law_ratio f__law_less f__law_double f__law_binary f__law_string f__law_place f__law_any_place f__law_between f__law_arc f__law_plus f_law : Addr} {od_reduced an_reduced od_size an_size od_way_up an_way_up od_mirrored an_mirrored od_arc an_arc od_is_within an_is_within od__law_begun an__law_begun od__law_draw an__law_draw od__law_of an__law_of od__law_twos an__law_twos od__law_shared an__law_shared od__law_ratio an__law_ratio od__law_less an__law_less od__law_double an__law_double od__law_binary an__law_binary od__law_string an__law_string od__law_place an__law_place od__law_any_place an__law_any_place od__law_between an__law_between od__law_arc an__law_arc od__law_plus an__law_plus od_law an_law : Option Addr} {oc_reduced kV_reduced dc_reduced pm_reduced cd_reduced ct_reduced oc_size kV_size dc_size pm_size cd_size ct_size oc_way_up kV_way_up dc_way_up pm_way_up cd_way_up ct_way_up oc_mirrored kV_mirrored dc_mirrored pm_mirrored cd_mirrored ct_mirrored oc_arc kV_arc dc_arc pm_arc cd_arc ct_arc oc_is_within kV_is_within dc_is_within pm_is_within cd_is_within ct_is_within oc__law_begun kV__law_begun dc__law_begun pm__law_begun cd__law_begun ct__law_begun oc__law_draw kV__law_draw dc__law_draw pm__law_draw cd__law_draw ct__law_draw oc__law_of kV__law_of dc__law_of pm__law_of cd__law_of ct__law_of oc__law_twos kV__law_twos dc__law_twos pm__law_twos cd__law_twos ct__law_twos oc__law_shared kV__law_shared dc__law_shared pm__law_shared cd__law_shared ct__law_shared oc__law_ratio kV__law_ratio dc__law_ratio pm__law_ratio cd__law_ratio ct__law_ratio oc__law_less kV__law_less dc__law_less pm__law_less cd__law_less ct__law_less oc__law_double kV__law_double dc__law_double pm__law_double cd__law_double ct__law_double oc__law_binary kV__law_binary dc__law_binary pm__law_binary cd__law_binary ct__law_binary oc__law_string kV__law_string dc__law_string pm__law_string cd__law_string ct__law_string oc__law_place kV__law_place dc__law_place pm__law_place cd__law_place ct__law_place oc__law_any_place kV__law_any_place dc__law_any_place pm__law_any_place cd__law_any_place ct__law_any_place oc__law_between kV__law_between dc__law_between pm__law_between cd__law_between ct__law_between oc__law_arc kV__law_arc dc__law_arc pm__law_arc cd__law_arc ct__law_arc oc__law_plus kV__law_plus dc__law_plus pm__law_plus cd__law_plus ct__law_plus oc_law kV_law dc_law pm_law cd_law ct_law : Value} {sl_reduced sl_size sl_way_up sl_mirrored sl_arc sl_is_within sl__law_begun sl__law_draw sl__law_of sl__law_twos sl__law_shared sl__law_ratio sl__law_less sl__law_double sl__law_binary sl__law_string sl__law_place sl__law_any_place sl__law_between sl__law_arc sl__law_plus sl_law : Array (Option Value)}  {t_COMMON : Tok}
    (a_reduced : PySem.W.nsIn K mainGlobals "reduced" = some (some (.ref f_reduced)))
    (l_reduced : K.lookup f_reduced = some ⟨oc_reduced, od_reduced, .func (PySem.W.fnOf "reduced" "reduced" (defArgs s_reduced) (defBody s_reduced) (defScope s_reduced) .none kV_reduced dc_reduced pm_reduced an_reduced cd_reduced ct_reduced), sl_reduced⟩) (c_reduced : PySem.W.codeIn K cd_reduced "reduced" = true) (k_reduced : PySem.W.keepIn K (.ref f_reduced) = true)
    (a_size : PySem.W.nsIn K mainGlobals "size" = some (some (.ref f_size)))
    (l_size : K.lookup f_size = some ⟨oc_size, od_size, .func (PySem.W.fnOf "size" "size" (defArgs s_size) (defBody s_size) (defScope s_size) .none kV_size dc_size pm_size an_size cd_size ct_size), sl_size⟩) (c_size : PySem.W.codeIn K cd_size "size" = true) (k_size : PySem.W.keepIn K (.ref f_size) = true)
    (a_way_up : PySem.W.nsIn K mainGlobals "way_up" = some (some (.ref f_way_up)))
    (l_way_up : K.lookup f_way_up = some ⟨oc_way_up, od_way_up, .func (PySem.W.fnOf "way_up" "way_up" (defArgs s_way_up) (defBody s_way_up) (defScope s_way_up) .none kV_way_up dc_way_up pm_way_up an_way_up cd_way_up ct_way_up), sl_way_up⟩) (c_way_up : PySem.W.codeIn K cd_way_up "way_up" = true) (k_way_up : PySem.W.keepIn K (.ref f_way_up) = true)
    (a_mirrored : PySem.W.nsIn K mainGlobals "mirrored" = some (some (.ref f_mirrored)))
    (l_mirrored : K.lookup f_mirrored = some ⟨oc_mirrored, od_mirrored, .func (PySem.W.fnOf "mirrored" "mirrored" (defArgs s_mirrored) (defBody s_mirrored) (defScope s_mirrored) .none kV_mirrored dc_mirrored pm_mirrored an_mirrored cd_mirrored ct_mirrored), sl_mirrored⟩) (c_mirrored : PySem.W.codeIn K cd_mirrored "mirrored" = true) (k_mirrored : PySem.W.keepIn K (.ref f_mirrored) = true)
    (a_arc : PySem.W.nsIn K mainGlobals "arc" = some (some (.ref f_arc)))
    (l_arc : K.lookup f_arc = some ⟨oc_arc, od_arc, .func (PySem.W.fnOf "arc" "arc" (defArgs s_arc) (defBody s_arc) (defScope s_arc) .none kV_arc dc_arc pm_arc an_arc cd_arc ct_arc), sl_arc⟩) (c_arc : PySem.W.codeIn K cd_arc "arc" = true) (k_arc : PySem.W.keepIn K (.ref f_arc) = true)
    (a_is_within : PySem.W.nsIn K mainGlobals "is_within" = some (some (.ref f_is_within)))
    (l_is_within : K.lookup f_is_within = some ⟨oc_is_within, od_is_within, .func (PySem.W.fnOf "is_within" "is_within" (defArgs s_is_within) (defBody s_is_within) (defScope s_is_within) .none kV_is_within dc_is_within pm_is_within an_is_within cd_is_within ct_is_within), sl_is_within⟩) (c_is_within : PySem.W.codeIn K cd_is_within "is_within" = true) (k_is_within : PySem.W.keepIn K (.ref f_is_within) = true)
    (a__law_begun : PySem.W.nsIn K mainGlobals "_law_begun" = some (some (.ref f__law_begun)))
    (l__law_begun : K.lookup f__law_begun = some ⟨oc__law_begun, od__law_begun, .func (PySem.W.fnOf "_law_begun" "_law_begun" (defArgs s__law_begun) (defBody s__law_begun) (defScope s__law_begun) .none kV__law_begun dc__law_begun pm__law_begun an__law_begun cd__law_begun ct__law_begun), sl__law_begun⟩) (c__law_begun : PySem.W.codeIn K cd__law_begun "_law_begun" = true) (k__law_begun : PySem.W.keepIn K (.ref f__law_begun) = true)
    (a__law_draw : PySem.W.nsIn K mainGlobals "_law_draw" = some (some (.ref f__law_draw)))
    (l__law_draw : K.lookup f__law_draw = some ⟨oc__law_draw, od__law_draw, .func (PySem.W.fnOf "_law_draw" "_law_draw" (defArgs s__law_draw) (defBody s__law_draw) (defScope s__law_draw) .none kV__law_draw dc__law_draw pm__law_draw an__law_draw cd__law_draw ct__law_draw), sl__law_draw⟩) (c__law_draw : PySem.W.codeIn K cd__law_draw "_law_draw" = true) (k__law_draw : PySem.W.keepIn K (.ref f__law_draw) = true)
    (a__law_of : PySem.W.nsIn K mainGlobals "_law_of" = some (some (.ref f__law_of)))
    (l__law_of : K.lookup f__law_of = some ⟨oc__law_of, od__law_of, .func (PySem.W.fnOf "_law_of" "_law_of" (defArgs s__law_of) (defBody s__law_of) (defScope s__law_of) .none kV__law_of dc__law_of pm__law_of an__law_of cd__law_of ct__law_of), sl__law_of⟩) (c__law_of : PySem.W.codeIn K cd__law_of "_law_of" = true) (k__law_of : PySem.W.keepIn K (.ref f__law_of) = true)
    (a__law_twos : PySem.W.nsIn K mainGlobals "_law_twos" = some (some (.ref f__law_twos)))
    (l__law_twos : K.lookup f__law_twos = some ⟨oc__law_twos, od__law_twos, .func (PySem.W.fnOf "_law_twos" "_law_twos" (defArgs s__law_twos) (defBody s__law_twos) (defScope s__law_twos) .none kV__law_twos dc__law_twos pm__law_twos an__law_twos cd__law_twos ct__law_twos), sl__law_twos⟩) (c__law_twos : PySem.W.codeIn K cd__law_twos "_law_twos" = true) (k__law_twos : PySem.W.keepIn K (.ref f__law_twos) = true)
    (a__law_shared : PySem.W.nsIn K mainGlobals "_law_shared" = some (some (.ref f__law_shared)))
    (l__law_shared : K.lookup f__law_shared = some ⟨oc__law_shared, od__law_shared, .func (PySem.W.fnOf "_law_shared" "_law_shared" (defArgs s__law_shared) (defBody s__law_shared) (defScope s__law_shared) .none kV__law_shared dc__law_shared pm__law_shared an__law_shared cd__law_shared ct__law_shared), sl__law_shared⟩) (c__law_shared : PySem.W.codeIn K cd__law_shared "_law_shared" = true) (k__law_shared : PySem.W.keepIn K (.ref f__law_shared) = true)
    (a__law_ratio : PySem.W.nsIn K mainGlobals "_law_ratio" = some (some (.ref f__law_ratio)))
    (l__law_ratio : K.lookup f__law_ratio = some ⟨oc__law_ratio, od__law_ratio, .func (PySem.W.fnOf "_law_ratio" "_law_ratio" (defArgs s__law_ratio) (defBody s__law_ratio) (defScope s__law_ratio) .none kV__law_ratio dc__law_ratio pm__law_ratio an__law_ratio cd__law_ratio ct__law_ratio), sl__law_ratio⟩) (c__law_ratio : PySem.W.codeIn K cd__law_ratio "_law_ratio" = true) (k__law_ratio : PySem.W.keepIn K (.ref f__law_ratio) = true)
    (a__law_less : PySem.W.nsIn K mainGlobals "_law_less" = some (some (.ref f__law_less)))
    (l__law_less : K.lookup f__law_less = some ⟨oc__law_less, od__law_less, .func (PySem.W.fnOf "_law_less" "_law_less" (defArgs s__law_less) (defBody s__law_less) (defScope s__law_less) .none kV__law_less dc__law_less pm__law_less an__law_less cd__law_less ct__law_less), sl__law_less⟩) (c__law_less : PySem.W.codeIn K cd__law_less "_law_less" = true) (k__law_less : PySem.W.keepIn K (.ref f__law_less) = true)
    (a__law_double : PySem.W.nsIn K mainGlobals "_law_double" = some (some (.ref f__law_double)))
    (l__law_double : K.lookup f__law_double = some ⟨oc__law_double, od__law_double, .func (PySem.W.fnOf "_law_double" "_law_double" (defArgs s__law_double) (defBody s__law_double) (defScope s__law_double) .none kV__law_double dc__law_double pm__law_double an__law_double cd__law_double ct__law_double), sl__law_double⟩) (c__law_double : PySem.W.codeIn K cd__law_double "_law_double" = true) (k__law_double : PySem.W.keepIn K (.ref f__law_double) = true)
    (a__law_binary : PySem.W.nsIn K mainGlobals "_law_binary" = some (some (.ref f__law_binary)))
    (l__law_binary : K.lookup f__law_binary = some ⟨oc__law_binary, od__law_binary, .func (PySem.W.fnOf "_law_binary" "_law_binary" (defArgs s__law_binary) (defBody s__law_binary) (defScope s__law_binary) .none kV__law_binary dc__law_binary pm__law_binary an__law_binary cd__law_binary ct__law_binary), sl__law_binary⟩) (c__law_binary : PySem.W.codeIn K cd__law_binary "_law_binary" = true) (k__law_binary : PySem.W.keepIn K (.ref f__law_binary) = true)
    (a__law_string : PySem.W.nsIn K mainGlobals "_law_string" = some (some (.ref f__law_string)))
    (l__law_string : K.lookup f__law_string = some ⟨oc__law_string, od__law_string, .func (PySem.W.fnOf "_law_string" "_law_string" (defArgs s__law_string) (defBody s__law_string) (defScope s__law_string) .none kV__law_string dc__law_string pm__law_string an__law_string cd__law_string ct__law_string), sl__law_string⟩) (c__law_string : PySem.W.codeIn K cd__law_string "_law_string" = true) (k__law_string : PySem.W.keepIn K (.ref f__law_string) = true)
    (a__law_place : PySem.W.nsIn K mainGlobals "_law_place" = some (some (.ref f__law_place)))
    (l__law_place : K.lookup f__law_place = some ⟨oc__law_place, od__law_place, .func (PySem.W.fnOf "_law_place" "_law_place" (defArgs s__law_place) (defBody s__law_place) (defScope s__law_place) .none kV__law_place dc__law_place pm__law_place an__law_place cd__law_place ct__law_place), sl__law_place⟩) (c__law_place : PySem.W.codeIn K cd__law_place "_law_place" = true) (k__law_place : PySem.W.keepIn K (.ref f__law_place) = true)
    (a__law_any_place : PySem.W.nsIn K mainGlobals "_law_any_place" = some (some (.ref f__law_any_place)))
    (l__law_any_place : K.lookup f__law_any_place = some ⟨oc__law_any_place, od__law_any_place, .func (PySem.W.fnOf "_law_any_place" "_law_any_place" (defArgs s__law_any_place) (defBody s__law_any_place) (defScope s__law_any_place) .none kV__law_any_place dc__law_any_place pm__law_any_place an__law_any_place cd__law_any_place ct__law_any_place), sl__law_any_place⟩) (c__law_any_place : PySem.W.codeIn K cd__law_any_place "_law_any_place" = true) (k__law_any_place : PySem.W.keepIn K (.ref f__law_any_place) = true)
    (a__law_between : PySem.W.nsIn K mainGlobals "_law_between" = some (some (.ref f__law_between)))
    (l__law_between : K.lookup f__law_between = some ⟨oc__law_between, od__law_between, .func (PySem.W.fnOf "_law_between" "_law_between" (defArgs s__law_between) (defBody s__law_between) (defScope s__law_between) .none kV__law_between dc__law_between pm__law_between an__law_between cd__law_between ct__law_between), sl__law_between⟩) (c__law_between : PySem.W.codeIn K cd__law_between "_law_between" = true) (k__law_between : PySem.W.keepIn K (.ref f__law_between) = true)
    (a__law_arc : PySem.W.nsIn K mainGlobals "_law_arc" = some (some (.ref f__law_arc)))
    (l__law_arc : K.lookup f__law_arc = some ⟨oc__law_arc, od__law_arc, .func (PySem.W.fnOf "_law_arc" "_law_arc" (defArgs s__law_arc) (defBody s__law_arc) (defScope s__law_arc) .none kV__law_arc dc__law_arc pm__law_arc an__law_arc cd__law_arc ct__law_arc), sl__law_arc⟩) (c__law_arc : PySem.W.codeIn K cd__law_arc "_law_arc" = true) (k__law_arc : PySem.W.keepIn K (.ref f__law_arc) = true)
    (a__law_plus : PySem.W.nsIn K mainGlobals "_law_plus" = some (some (.ref f__law_plus)))
    (l__law_plus : K.lookup f__law_plus = some ⟨oc__law_plus, od__law_plus, .func (PySem.W.fnOf "_law_plus" "_law_plus" (defArgs s__law_plus) (defBody s__law_plus) (defScope s__law_plus) .none kV__law_plus dc__law_plus pm__law_plus an__law_plus cd__law_plus ct__law_plus), sl__law_plus⟩) (c__law_plus : PySem.W.codeIn K cd__law_plus "_law_plus" = true) (k__law_plus : PySem.W.keepIn K (.ref f__law_plus) = true)
    (a_law : PySem.W.nsIn K mainGlobals "law" = some (some (.ref f_law)))
    (l_law : K.lookup f_law = some ⟨oc_law, od_law, .func (PySem.W.fnOf "law" "law" (defArgs s_law) (defBody s_law) (defScope s_law) .none kV_law dc_law pm_law an_law cd_law ct_law), sl_law⟩) (c_law : PySem.W.codeIn K cd_law "law" = true) (k_law : PySem.W.keepIn K (.ref f_law) = true)
    (z_abs : PySem.W.nsIn K mainGlobals "abs" = some none)
    (z_bool : PySem.W.nsIn K mainGlobals "bool" = some none)
    (z_int : PySem.W.nsIn K mainGlobals "int" = some none)
    (z_isinstance : PySem.W.nsIn K mainGlobals "isinstance" = some none)
    (z_len : PySem.W.nsIn K mainGlobals "len" = some none)
    (z_max : PySem.W.nsIn K mainGlobals "max" = some none)
    (z_min : PySem.W.nsIn K mainGlobals "min" = some none)
    (z_range : PySem.W.nsIn K mainGlobals "range" = some none)
    (z_str : PySem.W.nsIn K mainGlobals "str" = some none)
    (z_tuple : PySem.W.nsIn K mainGlobals "tuple" = some none)
    (i_gcd : PySem.W.nsIn K mainGlobals "gcd" = some (some (.builtin "math.gcd")))
    (c_COMMON : PySem.W.nsIn K mainGlobals "COMMON" = some (some (.int 56525307072677432455503587098948920087821904549333509463754043204567040000 t_COMMON))) : Top K mg :=
  { g_reduced := PySem.W.mg_of X G a_reduced,
    f_reduced := f_reduced, fd_reduced := PySem.W.fnOf "reduced" "reduced" (defArgs s_reduced) (defBody s_reduced) (defScope s_reduced) .none kV_reduced dc_reduced pm_reduced an_reduced cd_reduced ct_reduced, F_reduced := fun_mk (st := s_reduced) l_reduced c_reduced k_reduced, b_reduced := (fun_mk (st := s_reduced) l_reduced c_reduced k_reduced).binds (ps := ["top", "bottom"]) fun _ _ _ _ _ _ us hl => match us, hl with | [_, _], _ => rfl,
    g_size := PySem.W.mg_of X G a_size,
    f_size := f_size, fd_size := PySem.W.fnOf "size" "size" (defArgs s_size) (defBody s_size) (defScope s_size) .none kV_size dc_size pm_size an_size cd_size ct_size, F_size := fun_mk (st := s_size) l_size c_size k_size, b_size := (fun_mk (st := s_size) l_size c_size k_size).binds (ps := ["x"]) fun _ _ _ _ _ _ us hl => match us, hl with | [_], _ => rfl,
    g_way_up := PySem.W.mg_of X G a_way_up,
    f_way_up := f_way_up, fd_way_up := PySem.W.fnOf "way_up" "way_up" (defArgs s_way_up) (defBody s_way_up) (defScope s_way_up) .none kV_way_up dc_way_up pm_way_up an_way_up cd_way_up ct_way_up, F_way_up := fun_mk (st := s_way_up) l_way_up c_way_up k_way_up, b_way_up := (fun_mk (st := s_way_up) l_way_up c_way_up k_way_up).binds (ps := ["a", "b"]) fun _ _ _ _ _ _ us hl => match us, hl with | [_, _], _ => rfl,
    g_mirrored := PySem.W.mg_of X G a_mirrored,
    f_mirrored := f_mirrored, fd_mirrored := PySem.W.fnOf "mirrored" "mirrored" (defArgs s_mirrored) (defBody s_mirrored) (defScope s_mirrored) .none kV_mirrored dc_mirrored pm_mirrored an_mirrored cd_mirrored ct_mirrored, F_mirrored := fun_mk (st := s_mirrored) l_mirrored c_mirrored k_mirrored, b_mirrored := (fun_mk (st := s_mirrored) l_mirrored c_mirrored k_mirrored).binds (ps := ["x"]) fun _ _ _ _ _ _ us hl => match us, hl with | [_], _ => rfl,
    g_arc := PySem.W.mg_of X G a_arc,
    f_arc := f_arc, fd_arc := PySem.W.fnOf "arc" "arc" (defArgs s_arc) (defBody s_arc) (defScope s_arc) .none kV_arc dc_arc pm_arc an_arc cd_arc ct_arc, F_arc := fun_mk (st := s_arc) l_arc c_arc k_arc, b_arc := (fun_mk (st := s_arc) l_arc c_arc k_arc).binds (ps := ["a", "b"]) fun _ _ _ _ _ _ us hl => match us, hl with | [_, _], _ => rfl,
    g_is_within := PySem.W.mg_of X G a_is_within,
    f_is_within := f_is_within, fd_is_within := PySem.W.fnOf "is_within" "is_within" (defArgs s_is_within) (defBody s_is_within) (defScope s_is_within) .none kV_is_within dc_is_within pm_is_within an_is_within cd_is_within ct_is_within, F_is_within := fun_mk (st := s_is_within) l_is_within c_is_within k_is_within, b_is_within := (fun_mk (st := s_is_within) l_is_within c_is_within k_is_within).binds (ps := ["a", "x", "b"]) fun _ _ _ _ _ _ us hl => match us, hl with | [_, _, _], _ => rfl,
    g__law_begun := PySem.W.mg_of X G a__law_begun,
    f__law_begun := f__law_begun, fd__law_begun := PySem.W.fnOf "_law_begun" "_law_begun" (defArgs s__law_begun) (defBody s__law_begun) (defScope s__law_begun) .none kV__law_begun dc__law_begun pm__law_begun an__law_begun cd__law_begun ct__law_begun, F__law_begun := fun_mk (st := s__law_begun) l__law_begun c__law_begun k__law_begun, b__law_begun := (fun_mk (st := s__law_begun) l__law_begun c__law_begun k__law_begun).binds (ps := ["script", "k"]) fun _ _ _ _ _ _ us hl => match us, hl with | [_, _], _ => rfl,
    g__law_draw := PySem.W.mg_of X G a__law_draw,
    f__law_draw := f__law_draw, fd__law_draw := PySem.W.fnOf "_law_draw" "_law_draw" (defArgs s__law_draw) (defBody s__law_draw) (defScope s__law_draw) .none kV__law_draw dc__law_draw pm__law_draw an__law_draw cd__law_draw ct__law_draw, F__law_draw := fun_mk (st := s__law_draw) l__law_draw c__law_draw k__law_draw, b__law_draw := (fun_mk (st := s__law_draw) l__law_draw c__law_draw k__law_draw).binds (ps := ["m", "below"]) fun _ _ _ _ _ _ us hl => match us, hl with | [_, _], _ => rfl,
    g__law_of := PySem.W.mg_of X G a__law_of,
    f__law_of := f__law_of, fd__law_of := PySem.W.fnOf "_law_of" "_law_of" (defArgs s__law_of) (defBody s__law_of) (defScope s__law_of) .none kV__law_of dc__law_of pm__law_of an__law_of cd__law_of ct__law_of, F__law_of := fun_mk (st := s__law_of) l__law_of c__law_of k__law_of, b__law_of := (fun_mk (st := s__law_of) l__law_of c__law_of k__law_of).binds (ps := ["m", "some"]) fun _ _ _ _ _ _ us hl => match us, hl with | [_, _], _ => rfl,
    g__law_twos := PySem.W.mg_of X G a__law_twos,
    f__law_twos := f__law_twos, fd__law_twos := PySem.W.fnOf "_law_twos" "_law_twos" (defArgs s__law_twos) (defBody s__law_twos) (defScope s__law_twos) .none kV__law_twos dc__law_twos pm__law_twos an__law_twos cd__law_twos ct__law_twos, F__law_twos := fun_mk (st := s__law_twos) l__law_twos c__law_twos k__law_twos, b__law_twos := (fun_mk (st := s__law_twos) l__law_twos c__law_twos k__law_twos).binds (ps := ["count"]) fun _ _ _ _ _ _ us hl => match us, hl with | [_], _ => rfl,
    g__law_shared := PySem.W.mg_of X G a__law_shared,
    f__law_shared := f__law_shared, fd__law_shared := PySem.W.fnOf "_law_shared" "_law_shared" (defArgs s__law_shared) (defBody s__law_shared) (defScope s__law_shared) .none kV__law_shared dc__law_shared pm__law_shared an__law_shared cd__law_shared ct__law_shared, F__law_shared := fun_mk (st := s__law_shared) l__law_shared c__law_shared k__law_shared, b__law_shared := (fun_mk (st := s__law_shared) l__law_shared c__law_shared k__law_shared).binds (ps := ["a", "b"]) fun _ _ _ _ _ _ us hl => match us, hl with | [_, _], _ => rfl,
    g__law_ratio := PySem.W.mg_of X G a__law_ratio,
    f__law_ratio := f__law_ratio, fd__law_ratio := PySem.W.fnOf "_law_ratio" "_law_ratio" (defArgs s__law_ratio) (defBody s__law_ratio) (defScope s__law_ratio) .none kV__law_ratio dc__law_ratio pm__law_ratio an__law_ratio cd__law_ratio ct__law_ratio, F__law_ratio := fun_mk (st := s__law_ratio) l__law_ratio c__law_ratio k__law_ratio, b__law_ratio := (fun_mk (st := s__law_ratio) l__law_ratio c__law_ratio k__law_ratio).binds (ps := ["a", "b"]) fun _ _ _ _ _ _ us hl => match us, hl with | [_, _], _ => rfl,
    g__law_less := PySem.W.mg_of X G a__law_less,
    f__law_less := f__law_less, fd__law_less := PySem.W.fnOf "_law_less" "_law_less" (defArgs s__law_less) (defBody s__law_less) (defScope s__law_less) .none kV__law_less dc__law_less pm__law_less an__law_less cd__law_less ct__law_less, F__law_less := fun_mk (st := s__law_less) l__law_less c__law_less k__law_less, b__law_less := (fun_mk (st := s__law_less) l__law_less c__law_less k__law_less).binds (ps := ["x", "y"]) fun _ _ _ _ _ _ us hl => match us, hl with | [_, _], _ => rfl,
    g__law_double := PySem.W.mg_of X G a__law_double,
    f__law_double := f__law_double, fd__law_double := PySem.W.fnOf "_law_double" "_law_double" (defArgs s__law_double) (defBody s__law_double) (defScope s__law_double) .none kV__law_double dc__law_double pm__law_double an__law_double cd__law_double ct__law_double, F__law_double := fun_mk (st := s__law_double) l__law_double c__law_double k__law_double, b__law_double := (fun_mk (st := s__law_double) l__law_double c__law_double k__law_double).binds (ps := ["x"]) fun _ _ _ _ _ _ us hl => match us, hl with | [_], _ => rfl,
    g__law_binary := PySem.W.mg_of X G a__law_binary,
    f__law_binary := f__law_binary, fd__law_binary := PySem.W.fnOf "_law_binary" "_law_binary" (defArgs s__law_binary) (defBody s__law_binary) (defScope s__law_binary) .none kV__law_binary dc__law_binary pm__law_binary an__law_binary cd__law_binary ct__law_binary, F__law_binary := fun_mk (st := s__law_binary) l__law_binary c__law_binary k__law_binary, b__law_binary := (fun_mk (st := s__law_binary) l__law_binary c__law_binary k__law_binary).binds (ps := ["head", "cycle"]) fun _ _ _ _ _ _ us hl => match us, hl with | [_, _], _ => rfl,
    g__law_string := PySem.W.mg_of X G a__law_string,
    f__law_string := f__law_string, fd__law_string := PySem.W.fnOf "_law_string" "_law_string" (defArgs s__law_string) (defBody s__law_string) (defScope s__law_string) .none kV__law_string dc__law_string pm__law_string an__law_string cd__law_string ct__law_string, F__law_string := fun_mk (st := s__law_string) l__law_string c__law_string k__law_string, b__law_string := (fun_mk (st := s__law_string) l__law_string c__law_string k__law_string).binds (ps := ["m", "size_v"]) fun _ _ _ _ _ _ us hl => match us, hl with | [_, _], _ => rfl,
    g__law_place := PySem.W.mg_of X G a__law_place,
    f__law_place := f__law_place, fd__law_place := PySem.W.fnOf "_law_place" "_law_place" (defArgs s__law_place) (defBody s__law_place) (defScope s__law_place) .none kV__law_place dc__law_place pm__law_place an__law_place cd__law_place ct__law_place, F__law_place := fun_mk (st := s__law_place) l__law_place c__law_place k__law_place, b__law_place := (fun_mk (st := s__law_place) l__law_place c__law_place k__law_place).binds (ps := ["m", "ahead", "again"]) fun _ _ _ _ _ _ us hl => match us, hl with | [_, _, _], _ => rfl,
    g__law_any_place := PySem.W.mg_of X G a__law_any_place,
    f__law_any_place := f__law_any_place, fd__law_any_place := PySem.W.fnOf "_law_any_place" "_law_any_place" (defArgs s__law_any_place) (defBody s__law_any_place) (defScope s__law_any_place) .none kV__law_any_place dc__law_any_place pm__law_any_place an__law_any_place cd__law_any_place ct__law_any_place, F__law_any_place := fun_mk (st := s__law_any_place) l__law_any_place c__law_any_place k__law_any_place, b__law_any_place := (fun_mk (st := s__law_any_place) l__law_any_place c__law_any_place k__law_any_place).binds (ps := ["m", "limit"]) fun _ _ _ _ _ _ us hl => match us, hl with | [_, _], _ => rfl,
    g__law_between := PySem.W.mg_of X G a__law_between,
    f__law_between := f__law_between, fd__law_between := PySem.W.fnOf "_law_between" "_law_between" (defArgs s__law_between) (defBody s__law_between) (defScope s__law_between) .none kV__law_between dc__law_between pm__law_between an__law_between cd__law_between ct__law_between, F__law_between := fun_mk (st := s__law_between) l__law_between c__law_between k__law_between, b__law_between := (fun_mk (st := s__law_between) l__law_between c__law_between k__law_between).binds (ps := ["a", "x", "b"]) fun _ _ _ _ _ _ us hl => match us, hl with | [_, _, _], _ => rfl,
    g__law_arc := PySem.W.mg_of X G a__law_arc,
    f__law_arc := f__law_arc, fd__law_arc := PySem.W.fnOf "_law_arc" "_law_arc" (defArgs s__law_arc) (defBody s__law_arc) (defScope s__law_arc) .none kV__law_arc dc__law_arc pm__law_arc an__law_arc cd__law_arc ct__law_arc, F__law_arc := fun_mk (st := s__law_arc) l__law_arc c__law_arc k__law_arc, b__law_arc := (fun_mk (st := s__law_arc) l__law_arc c__law_arc k__law_arc).binds (ps := ["a", "b"]) fun _ _ _ _ _ _ us hl => match us, hl with | [_, _], _ => rfl,
    g__law_plus := PySem.W.mg_of X G a__law_plus,
    f__law_plus := f__law_plus, fd__law_plus := PySem.W.fnOf "_law_plus" "_law_plus" (defArgs s__law_plus) (defBody s__law_plus) (defScope s__law_plus) .none kV__law_plus dc__law_plus pm__law_plus an__law_plus cd__law_plus ct__law_plus, F__law_plus := fun_mk (st := s__law_plus) l__law_plus c__law_plus k__law_plus, b__law_plus := (fun_mk (st := s__law_plus) l__law_plus c__law_plus k__law_plus).binds (ps := ["x", "y"]) fun _ _ _ _ _ _ us hl => match us, hl with | [_, _], _ => rfl,
    g_law := PySem.W.mg_of X G a_law,
    f_law := f_law, fd_law := PySem.W.fnOf "law" "law" (defArgs s_law) (defBody s_law) (defScope s_law) .none kV_law dc_law pm_law an_law cd_law ct_law, F_law := fun_mk (st := s_law) l_law c_law k_law, b_law := (fun_mk (st := s_law) l_law c_law k_law).binds (ps := ["script"]) fun _ _ _ _ _ _ us hl => match us, hl with | [_], _ => rfl,
    z_abs := PySem.W.mg_none_of X G z_abs,
    z_bool := PySem.W.mg_none_of X G z_bool,
    z_int := PySem.W.mg_none_of X G z_int,
    z_isinstance := PySem.W.mg_none_of X G z_isinstance,
    z_len := PySem.W.mg_none_of X G z_len,
    z_max := PySem.W.mg_none_of X G z_max,
    z_min := PySem.W.mg_none_of X G z_min,
    z_range := PySem.W.mg_none_of X G z_range,
    z_str := PySem.W.mg_none_of X G z_str,
    z_tuple := PySem.W.mg_none_of X G z_tuple,
    i_gcd := PySem.W.mg_of X G i_gcd,
    t_COMMON := t_COMMON, c_COMMON := PySem.W.mg_of X G c_COMMON }
theorem all_mk {l : PySem.W.OpenLaw} {w : World} {K : PySem.W.Frag} {h : Heap} {mg : Str → Option Value} {fa : Addr} (X : K.In h) (G : h.Ns mainGlobals mg) (hfa : mg "law" = some (.ref fa)) {f_reduced f_size f_way_up f_mirrored f_arc f_is_within f__law_begun f__law_draw f__law_of f__law_twos f__law_shared f__law_ratio f__law_less f__law_double f__law_binary f__law_string f__law_place f__law_any_place f__law_between f__law_arc f__law_plus f_law : Addr} {od_reduced an_reduced od_size an_size od_way_up an_way_up od_mirrored an_mirrored od_arc an_arc od_is_within an_is_within od__law_begun an__law_begun od__law_draw an__law_draw od__law_of an__law_of od__law_twos an__law_twos od__law_shared an__law_shared od__law_ratio an__law_ratio od__law_less an__law_less od__law_double an__law_double od__law_binary an__law_binary od__law_string an__law_string od__law_place an__law_place od__law_any_place an__law_any_place od__law_between an__law_between od__law_arc an__law_arc od__law_plus an__law_plus od_law an_law : Option Addr} {oc_reduced kV_reduced dc_reduced pm_reduced cd_reduced ct_reduced oc_size kV_size dc_size pm_size cd_size ct_size oc_way_up kV_way_up dc_way_up pm_way_up cd_way_up ct_way_up oc_mirrored kV_mirrored dc_mirrored pm_mirrored cd_mirrored ct_mirrored oc_arc kV_arc dc_arc pm_arc cd_arc ct_arc oc_is_within kV_is_within dc_is_within pm_is_within cd_is_within ct_is_within oc__law_begun kV__law_begun dc__law_begun pm__law_begun cd__law_begun ct__law_begun oc__law_draw kV__law_draw dc__law_draw pm__law_draw cd__law_draw ct__law_draw oc__law_of kV__law_of dc__law_of pm__law_of cd__law_of ct__law_of oc__law_twos kV__law_twos dc__law_twos pm__law_twos cd__law_twos ct__law_twos oc__law_shared kV__law_shared dc__law_shared pm__law_shared cd__law_shared ct__law_shared oc__law_ratio kV__law_ratio dc__law_ratio pm__law_ratio cd__law_ratio ct__law_ratio oc__law_less kV__law_less dc__law_less pm__law_less cd__law_less ct__law_less oc__law_double kV__law_double dc__law_double pm__law_double cd__law_double ct__law_double oc__law_binary kV__law_binary dc__law_binary pm__law_binary cd__law_binary ct__law_binary oc__law_string kV__law_string dc__law_string pm__law_string cd__law_string ct__law_string oc__law_place kV__law_place dc__law_place pm__law_place cd__law_place ct__law_place oc__law_any_place kV__law_any_place dc__law_any_place pm__law_any_place cd__law_any_place ct__law_any_place oc__law_between kV__law_between dc__law_between pm__law_between cd__law_between ct__law_between oc__law_arc kV__law_arc dc__law_arc pm__law_arc cd__law_arc ct__law_arc oc__law_plus kV__law_plus dc__law_plus pm__law_plus cd__law_plus ct__law_plus oc_law kV_law dc_law pm_law cd_law ct_law : Value} {sl_reduced sl_size sl_way_up sl_mirrored sl_arc sl_is_within sl__law_begun sl__law_draw sl__law_of sl__law_twos sl__law_shared sl__law_ratio sl__law_less sl__law_double sl__law_binary sl__law_string sl__law_place sl__law_any_place sl__law_between sl__law_arc sl__law_plus sl_law : Array (Option Value)}  {t_COMMON : Tok}
    (a_reduced : PySem.W.nsIn K mainGlobals "reduced" = some (some (.ref f_reduced)))
    (l_reduced : K.lookup f_reduced = some ⟨oc_reduced, od_reduced, .func (PySem.W.fnOf "reduced" "reduced" (defArgs s_reduced) (defBody s_reduced) (defScope s_reduced) .none kV_reduced dc_reduced pm_reduced an_reduced cd_reduced ct_reduced), sl_reduced⟩) (c_reduced : PySem.W.codeIn K cd_reduced "reduced" = true) (k_reduced : PySem.W.keepIn K (.ref f_reduced) = true)
    (a_size : PySem.W.nsIn K mainGlobals "size" = some (some (.ref f_size)))
    (l_size : K.lookup f_size = some ⟨oc_size, od_size, .func (PySem.W.fnOf "size" "size" (defArgs s_size) (defBody s_size) (defScope s_size) .none kV_size dc_size pm_size an_size cd_size ct_size), sl_size⟩) (c_size : PySem.W.codeIn K cd_size "size" = true) (k_size : PySem.W.keepIn K (.ref f_size) = true)
    (a_way_up : PySem.W.nsIn K mainGlobals "way_up" = some (some (.ref f_way_up)))
    (l_way_up : K.lookup f_way_up = some ⟨oc_way_up, od_way_up, .func (PySem.W.fnOf "way_up" "way_up" (defArgs s_way_up) (defBody s_way_up) (defScope s_way_up) .none kV_way_up dc_way_up pm_way_up an_way_up cd_way_up ct_way_up), sl_way_up⟩) (c_way_up : PySem.W.codeIn K cd_way_up "way_up" = true) (k_way_up : PySem.W.keepIn K (.ref f_way_up) = true)
    (a_mirrored : PySem.W.nsIn K mainGlobals "mirrored" = some (some (.ref f_mirrored)))
    (l_mirrored : K.lookup f_mirrored = some ⟨oc_mirrored, od_mirrored, .func (PySem.W.fnOf "mirrored" "mirrored" (defArgs s_mirrored) (defBody s_mirrored) (defScope s_mirrored) .none kV_mirrored dc_mirrored pm_mirrored an_mirrored cd_mirrored ct_mirrored), sl_mirrored⟩) (c_mirrored : PySem.W.codeIn K cd_mirrored "mirrored" = true) (k_mirrored : PySem.W.keepIn K (.ref f_mirrored) = true)
    (a_arc : PySem.W.nsIn K mainGlobals "arc" = some (some (.ref f_arc)))
    (l_arc : K.lookup f_arc = some ⟨oc_arc, od_arc, .func (PySem.W.fnOf "arc" "arc" (defArgs s_arc) (defBody s_arc) (defScope s_arc) .none kV_arc dc_arc pm_arc an_arc cd_arc ct_arc), sl_arc⟩) (c_arc : PySem.W.codeIn K cd_arc "arc" = true) (k_arc : PySem.W.keepIn K (.ref f_arc) = true)
    (a_is_within : PySem.W.nsIn K mainGlobals "is_within" = some (some (.ref f_is_within)))
    (l_is_within : K.lookup f_is_within = some ⟨oc_is_within, od_is_within, .func (PySem.W.fnOf "is_within" "is_within" (defArgs s_is_within) (defBody s_is_within) (defScope s_is_within) .none kV_is_within dc_is_within pm_is_within an_is_within cd_is_within ct_is_within), sl_is_within⟩) (c_is_within : PySem.W.codeIn K cd_is_within "is_within" = true) (k_is_within : PySem.W.keepIn K (.ref f_is_within) = true)
    (a__law_begun : PySem.W.nsIn K mainGlobals "_law_begun" = some (some (.ref f__law_begun)))
    (l__law_begun : K.lookup f__law_begun = some ⟨oc__law_begun, od__law_begun, .func (PySem.W.fnOf "_law_begun" "_law_begun" (defArgs s__law_begun) (defBody s__law_begun) (defScope s__law_begun) .none kV__law_begun dc__law_begun pm__law_begun an__law_begun cd__law_begun ct__law_begun), sl__law_begun⟩) (c__law_begun : PySem.W.codeIn K cd__law_begun "_law_begun" = true) (k__law_begun : PySem.W.keepIn K (.ref f__law_begun) = true)
    (a__law_draw : PySem.W.nsIn K mainGlobals "_law_draw" = some (some (.ref f__law_draw)))
    (l__law_draw : K.lookup f__law_draw = some ⟨oc__law_draw, od__law_draw, .func (PySem.W.fnOf "_law_draw" "_law_draw" (defArgs s__law_draw) (defBody s__law_draw) (defScope s__law_draw) .none kV__law_draw dc__law_draw pm__law_draw an__law_draw cd__law_draw ct__law_draw), sl__law_draw⟩) (c__law_draw : PySem.W.codeIn K cd__law_draw "_law_draw" = true) (k__law_draw : PySem.W.keepIn K (.ref f__law_draw) = true)
    (a__law_of : PySem.W.nsIn K mainGlobals "_law_of" = some (some (.ref f__law_of)))
    (l__law_of : K.lookup f__law_of = some ⟨oc__law_of, od__law_of, .func (PySem.W.fnOf "_law_of" "_law_of" (defArgs s__law_of) (defBody s__law_of) (defScope s__law_of) .none kV__law_of dc__law_of pm__law_of an__law_of cd__law_of ct__law_of), sl__law_of⟩) (c__law_of : PySem.W.codeIn K cd__law_of "_law_of" = true) (k__law_of : PySem.W.keepIn K (.ref f__law_of) = true)
    (a__law_twos : PySem.W.nsIn K mainGlobals "_law_twos" = some (some (.ref f__law_twos)))
    (l__law_twos : K.lookup f__law_twos = some ⟨oc__law_twos, od__law_twos, .func (PySem.W.fnOf "_law_twos" "_law_twos" (defArgs s__law_twos) (defBody s__law_twos) (defScope s__law_twos) .none kV__law_twos dc__law_twos pm__law_twos an__law_twos cd__law_twos ct__law_twos), sl__law_twos⟩) (c__law_twos : PySem.W.codeIn K cd__law_twos "_law_twos" = true) (k__law_twos : PySem.W.keepIn K (.ref f__law_twos) = true)
    (a__law_shared : PySem.W.nsIn K mainGlobals "_law_shared" = some (some (.ref f__law_shared)))
    (l__law_shared : K.lookup f__law_shared = some ⟨oc__law_shared, od__law_shared, .func (PySem.W.fnOf "_law_shared" "_law_shared" (defArgs s__law_shared) (defBody s__law_shared) (defScope s__law_shared) .none kV__law_shared dc__law_shared pm__law_shared an__law_shared cd__law_shared ct__law_shared), sl__law_shared⟩) (c__law_shared : PySem.W.codeIn K cd__law_shared "_law_shared" = true) (k__law_shared : PySem.W.keepIn K (.ref f__law_shared) = true)
    (a__law_ratio : PySem.W.nsIn K mainGlobals "_law_ratio" = some (some (.ref f__law_ratio)))
    (l__law_ratio : K.lookup f__law_ratio = some ⟨oc__law_ratio, od__law_ratio, .func (PySem.W.fnOf "_law_ratio" "_law_ratio" (defArgs s__law_ratio) (defBody s__law_ratio) (defScope s__law_ratio) .none kV__law_ratio dc__law_ratio pm__law_ratio an__law_ratio cd__law_ratio ct__law_ratio), sl__law_ratio⟩) (c__law_ratio : PySem.W.codeIn K cd__law_ratio "_law_ratio" = true) (k__law_ratio : PySem.W.keepIn K (.ref f__law_ratio) = true)
    (a__law_less : PySem.W.nsIn K mainGlobals "_law_less" = some (some (.ref f__law_less)))
    (l__law_less : K.lookup f__law_less = some ⟨oc__law_less, od__law_less, .func (PySem.W.fnOf "_law_less" "_law_less" (defArgs s__law_less) (defBody s__law_less) (defScope s__law_less) .none kV__law_less dc__law_less pm__law_less an__law_less cd__law_less ct__law_less), sl__law_less⟩) (c__law_less : PySem.W.codeIn K cd__law_less "_law_less" = true) (k__law_less : PySem.W.keepIn K (.ref f__law_less) = true)
    (a__law_double : PySem.W.nsIn K mainGlobals "_law_double" = some (some (.ref f__law_double)))
    (l__law_double : K.lookup f__law_double = some ⟨oc__law_double, od__law_double, .func (PySem.W.fnOf "_law_double" "_law_double" (defArgs s__law_double) (defBody s__law_double) (defScope s__law_double) .none kV__law_double dc__law_double pm__law_double an__law_double cd__law_double ct__law_double), sl__law_double⟩) (c__law_double : PySem.W.codeIn K cd__law_double "_law_double" = true) (k__law_double : PySem.W.keepIn K (.ref f__law_double) = true)
    (a__law_binary : PySem.W.nsIn K mainGlobals "_law_binary" = some (some (.ref f__law_binary)))
    (l__law_binary : K.lookup f__law_binary = some ⟨oc__law_binary, od__law_binary, .func (PySem.W.fnOf "_law_binary" "_law_binary" (defArgs s__law_binary) (defBody s__law_binary) (defScope s__law_binary) .none kV__law_binary dc__law_binary pm__law_binary an__law_binary cd__law_binary ct__law_binary), sl__law_binary⟩) (c__law_binary : PySem.W.codeIn K cd__law_binary "_law_binary" = true) (k__law_binary : PySem.W.keepIn K (.ref f__law_binary) = true)
    (a__law_string : PySem.W.nsIn K mainGlobals "_law_string" = some (some (.ref f__law_string)))
    (l__law_string : K.lookup f__law_string = some ⟨oc__law_string, od__law_string, .func (PySem.W.fnOf "_law_string" "_law_string" (defArgs s__law_string) (defBody s__law_string) (defScope s__law_string) .none kV__law_string dc__law_string pm__law_string an__law_string cd__law_string ct__law_string), sl__law_string⟩) (c__law_string : PySem.W.codeIn K cd__law_string "_law_string" = true) (k__law_string : PySem.W.keepIn K (.ref f__law_string) = true)
    (a__law_place : PySem.W.nsIn K mainGlobals "_law_place" = some (some (.ref f__law_place)))
    (l__law_place : K.lookup f__law_place = some ⟨oc__law_place, od__law_place, .func (PySem.W.fnOf "_law_place" "_law_place" (defArgs s__law_place) (defBody s__law_place) (defScope s__law_place) .none kV__law_place dc__law_place pm__law_place an__law_place cd__law_place ct__law_place), sl__law_place⟩) (c__law_place : PySem.W.codeIn K cd__law_place "_law_place" = true) (k__law_place : PySem.W.keepIn K (.ref f__law_place) = true)
    (a__law_any_place : PySem.W.nsIn K mainGlobals "_law_any_place" = some (some (.ref f__law_any_place)))
    (l__law_any_place : K.lookup f__law_any_place = some ⟨oc__law_any_place, od__law_any_place, .func (PySem.W.fnOf "_law_any_place" "_law_any_place" (defArgs s__law_any_place) (defBody s__law_any_place) (defScope s__law_any_place) .none kV__law_any_place dc__law_any_place pm__law_any_place an__law_any_place cd__law_any_place ct__law_any_place), sl__law_any_place⟩) (c__law_any_place : PySem.W.codeIn K cd__law_any_place "_law_any_place" = true) (k__law_any_place : PySem.W.keepIn K (.ref f__law_any_place) = true)
    (a__law_between : PySem.W.nsIn K mainGlobals "_law_between" = some (some (.ref f__law_between)))
    (l__law_between : K.lookup f__law_between = some ⟨oc__law_between, od__law_between, .func (PySem.W.fnOf "_law_between" "_law_between" (defArgs s__law_between) (defBody s__law_between) (defScope s__law_between) .none kV__law_between dc__law_between pm__law_between an__law_between cd__law_between ct__law_between), sl__law_between⟩) (c__law_between : PySem.W.codeIn K cd__law_between "_law_between" = true) (k__law_between : PySem.W.keepIn K (.ref f__law_between) = true)
    (a__law_arc : PySem.W.nsIn K mainGlobals "_law_arc" = some (some (.ref f__law_arc)))
    (l__law_arc : K.lookup f__law_arc = some ⟨oc__law_arc, od__law_arc, .func (PySem.W.fnOf "_law_arc" "_law_arc" (defArgs s__law_arc) (defBody s__law_arc) (defScope s__law_arc) .none kV__law_arc dc__law_arc pm__law_arc an__law_arc cd__law_arc ct__law_arc), sl__law_arc⟩) (c__law_arc : PySem.W.codeIn K cd__law_arc "_law_arc" = true) (k__law_arc : PySem.W.keepIn K (.ref f__law_arc) = true)
    (a__law_plus : PySem.W.nsIn K mainGlobals "_law_plus" = some (some (.ref f__law_plus)))
    (l__law_plus : K.lookup f__law_plus = some ⟨oc__law_plus, od__law_plus, .func (PySem.W.fnOf "_law_plus" "_law_plus" (defArgs s__law_plus) (defBody s__law_plus) (defScope s__law_plus) .none kV__law_plus dc__law_plus pm__law_plus an__law_plus cd__law_plus ct__law_plus), sl__law_plus⟩) (c__law_plus : PySem.W.codeIn K cd__law_plus "_law_plus" = true) (k__law_plus : PySem.W.keepIn K (.ref f__law_plus) = true)
    (a_law : PySem.W.nsIn K mainGlobals "law" = some (some (.ref f_law)))
    (l_law : K.lookup f_law = some ⟨oc_law, od_law, .func (PySem.W.fnOf "law" "law" (defArgs s_law) (defBody s_law) (defScope s_law) .none kV_law dc_law pm_law an_law cd_law ct_law), sl_law⟩) (c_law : PySem.W.codeIn K cd_law "law" = true) (k_law : PySem.W.keepIn K (.ref f_law) = true)
    (z_abs : PySem.W.nsIn K mainGlobals "abs" = some none)
    (z_bool : PySem.W.nsIn K mainGlobals "bool" = some none)
    (z_int : PySem.W.nsIn K mainGlobals "int" = some none)
    (z_isinstance : PySem.W.nsIn K mainGlobals "isinstance" = some none)
    (z_len : PySem.W.nsIn K mainGlobals "len" = some none)
    (z_max : PySem.W.nsIn K mainGlobals "max" = some none)
    (z_min : PySem.W.nsIn K mainGlobals "min" = some none)
    (z_range : PySem.W.nsIn K mainGlobals "range" = some none)
    (z_str : PySem.W.nsIn K mainGlobals "str" = some none)
    (z_tuple : PySem.W.nsIn K mainGlobals "tuple" = some none)
    (i_gcd : PySem.W.nsIn K mainGlobals "gcd" = some (some (.builtin "math.gcd")))
    (c_COMMON : PySem.W.nsIn K mainGlobals "COMMON" = some (some (.int 56525307072677432455503587098948920087821904549333509463754043204567040000 t_COMMON))) :
    ∃ fd : FuncData, (∀ (s : Shared) (v : Value), BindsTo s fd ⟨[v], []⟩ [("script", v)]) ∧ ∀ base : Heap, K.In base → base.Ns mainGlobals mg → FnOk l.prog w K mg base CX0 6 fa fd ["script"] (sp_law K) := by
  have e := hfa.symm.trans (PySem.W.mg_of X G a_law)
  cases e
  exact ⟨_, fun s v => .of_eq rfl, fun base _ _ => ok_law (top_mk X G a_reduced l_reduced c_reduced k_reduced a_size l_size c_size k_size a_way_up l_way_up c_way_up k_way_up a_mirrored l_mirrored c_mirrored k_mirrored a_arc l_arc c_arc k_arc a_is_within l_is_within c_is_within k_is_within a__law_begun l__law_begun c__law_begun k__law_begun a__law_draw l__law_draw c__law_draw k__law_draw a__law_of l__law_of c__law_of k__law_of a__law_twos l__law_twos c__law_twos k__law_twos a__law_shared l__law_shared c__law_shared k__law_shared a__law_ratio l__law_ratio c__law_ratio k__law_ratio a__law_less l__law_less c__law_less k__law_less a__law_double l__law_double c__law_double k__law_double a__law_binary l__law_binary c__law_binary k__law_binary a__law_string l__law_string c__law_string k__law_string a__law_place l__law_place c__law_place k__law_place a__law_any_place l__law_any_place c__law_any_place k__law_any_place a__law_between l__law_between c__law_between k__law_between a__law_arc l__law_arc c__law_arc k__law_arc a__law_plus l__law_plus c__law_plus k__law_plus a_law l_law c_law k_law z_abs z_bool z_int z_isinstance z_len z_max z_min z_range z_str z_tuple i_gcd c_COMMON)⟩
end Tw
open PySem PySem.W PyProof.Rows
set_option maxHeartbeats 0 in
theorem PySem.Challenge.cw_twicedial_k06_arcs_holds : PySem.Challenge.rw_twicedial_k06_arcs.Holds := by
  w_on; o_law; k_head; (case hw => w_witness2)
  k_fill
  refine L2.walk_ofB (l := PySem.Challenge.rw_twicedial_k06_arcs) (n := 63) (k := 6) (x := "script") (CX := fun _ => L2.CX0) (sp := fun w => Tw.sp_law _) rfl (by decide) rfl ⟨rfl, by decide, by decide⟩ (fun w h Y => PySem.W.kIn_of Y) ?F (fun _ _ a ns hl hb _ hS => ⟨a, ns, rfl, hS, hl, hb, fun _ => rfl⟩) (fun _ _ _ _ _ h => h)
  case F =>
    intro w mg fa h KX G hmg
    refine' Tw.all_mk KX G hmg ?a_reduced ?l_reduced ?c_reduced ?k_reduced ?a_size ?l_size ?c_size ?k_size ?a_way_up ?l_way_up ?c_way_up ?k_way_up ?a_mirrored ?l_mirrored ?c_mirrored ?k_mirrored ?a_arc ?l_arc ?c_arc ?k_arc ?a_is_within ?l_is_within ?c_is_within ?k_is_within ?a__law_begun ?l__law_begun ?c__law_begun ?k__law_begun ?a__law_draw ?l__law_draw ?c__law_draw ?k__law_draw ?a__law_of ?l__law_of ?c__law_of ?k__law_of ?a__law_twos ?l__law_twos ?c__law_twos ?k__law_twos ?a__law_shared ?l__law_shared ?c__law_shared ?k__law_shared ?a__law_ratio ?l__law_ratio ?c__law_ratio ?k__law_ratio ?a__law_less ?l__law_less ?c__law_less ?k__law_less ?a__law_double ?l__law_double ?c__law_double ?k__law_double ?a__law_binary ?l__law_binary ?c__law_binary ?k__law_binary ?a__law_string ?l__law_string ?c__law_string ?k__law_string ?a__law_place ?l__law_place ?c__law_place ?k__law_place ?a__law_any_place ?l__law_any_place ?c__law_any_place ?k__law_any_place ?a__law_between ?l__law_between ?c__law_between ?k__law_between ?a__law_arc ?l__law_arc ?c__law_arc ?k__law_arc ?a__law_plus ?l__law_plus ?c__law_plus ?k__law_plus ?a_law ?l_law ?c_law ?k_law ?z_abs ?z_bool ?z_int ?z_isinstance ?z_len ?z_max ?z_min ?z_range ?z_str ?z_tuple ?i_gcd ?c_COMMON
    (case a_reduced => k_is); (case l_reduced => k_is); (case c_reduced => k_is); (case k_reduced => k_is); (case a_size => k_is); (case l_size => k_is); (case c_size => k_is); (case k_size => k_is); (case a_way_up => k_is); (case l_way_up => k_is); (case c_way_up => k_is); (case k_way_up => k_is); (case a_mirrored => k_is); (case l_mirrored => k_is); (case c_mirrored => k_is); (case k_mirrored => k_is); (case a_arc => k_is); (case l_arc => k_is); (case c_arc => k_is); (case k_arc => k_is); (case a_is_within => k_is); (case l_is_within => k_is); (case c_is_within => k_is); (case k_is_within => k_is); (case a__law_begun => k_is); (case l__law_begun => k_is); (case c__law_begun => k_is); (case k__law_begun => k_is); (case a__law_draw => k_is); (case l__law_draw => k_is); (case c__law_draw => k_is); (case k__law_draw => k_is); (case a__law_of => k_is); (case l__law_of => k_is); (case c__law_of => k_is); (case k__law_of => k_is); (case a__law_twos => k_is); (case l__law_twos => k_is); (case c__law_twos => k_is); (case k__law_twos => k_is); (case a__law_shared => k_is); (case l__law_shared => k_is); (case c__law_shared => k_is); (case k__law_shared => k_is); (case a__law_ratio => k_is); (case l__law_ratio => k_is); (case c__law_ratio => k_is); (case k__law_ratio => k_is); (case a__law_less => k_is); (case l__law_less => k_is); (case c__law_less => k_is); (case k__law_less => k_is); (case a__law_double => k_is); (case l__law_double => k_is); (case c__law_double => k_is); (case k__law_double => k_is); (case a__law_binary => k_is); (case l__law_binary => k_is); (case c__law_binary => k_is); (case k__law_binary => k_is); (case a__law_string => k_is); (case l__law_string => k_is); (case c__law_string => k_is); (case k__law_string => k_is); (case a__law_place => k_is); (case l__law_place => k_is); (case c__law_place => k_is); (case k__law_place => k_is); (case a__law_any_place => k_is); (case l__law_any_place => k_is); (case c__law_any_place => k_is); (case k__law_any_place => k_is); (case a__law_between => k_is); (case l__law_between => k_is); (case c__law_between => k_is); (case k__law_between => k_is); (case a__law_arc => k_is); (case l__law_arc => k_is); (case c__law_arc => k_is); (case k__law_arc => k_is); (case a__law_plus => k_is); (case l__law_plus => k_is); (case c__law_plus => k_is); (case k__law_plus => k_is); (case a_law => k_is); (case l_law => k_is); (case c_law => k_is); (case k_law => k_is); (case z_abs => k_is); (case z_bool => k_is); (case z_int => k_is); (case z_isinstance => k_is); (case z_len => k_is); (case z_max => k_is); (case z_min => k_is); (case z_range => k_is); (case z_str => k_is); (case z_tuple => k_is); (case i_gcd => k_is); (case c_COMMON => k_is)
