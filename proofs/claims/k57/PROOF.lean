import PyProof.Rows.All
import Wide.All
import OpenK.AllK
import Wide.FinOn
import HandS.ForMost
import HandS.Wide
import HandS.WideBits
import HandS.Gcd
import HandS.EndBits
import HandS.Steps
import HandS.Style
import HandS.IsInst
import PySem.Challenge.RW_twicedial_k57_unlike_marks_and_addresses
set_option Elab.async false
set_option linter.all false
set_option maxRecDepth 100000
set_option maxHeartbeats 8000000
namespace Tw
open PySem PySem.Spec PyProof.Rows L2
/-! ### heaps: what stays -/
/-- all tracked objects but dicts stay -/
def Keep (H H' : Hp) : Prop := ∀ b o, (∀ kvs, o ≠ .dK kvs) → H b = some o → H' b = some o
theorem Keep.refl (H : Hp) : Keep H H := fun _ _ _ h => h
theorem Keep.of {H H' : Hp} (e : Same H H') : Keep H H' := fun b o _ h => e b o h
theorem Keep.trans {H H1 H2 : Hp} (a : Keep H H1) (b : Keep H1 H2) : Keep H H2 := fun c o n h => b c o n (a c o n h)
theorem Keep.rd {H H' : Hp} {a : Addr} {u : HO} (e : Keep H H') (n : ∀ kvs, u ≠ .dK kvs) (h : Rd H a u) : Rd H' a u := by
  rcases h with h | ⟨o, h⟩
  · exact .inl (e a _ n h)
  · exact .inr ⟨o, e a _ (fun kvs z => nomatch z) h⟩
theorem Keep.seqL {K : PySem.W.Frag} {H H' : Hp} {a : Addr} {xs : List V} (e : Keep H H') (h : SqL K H a xs) : SqL K H' a xs := by
  rcases h with h | h
  · exact .inl (e.rd (fun _ z => nomatch z) h)
  · exact .inr h
theorem Keep.seqT {K : PySem.W.Frag} {H H' : Hp} {a : Addr} {xs : List V} (e : Keep H H') (h : SqT K H a xs) : SqT K H' a xs := by
  rcases h with h | h
  · exact .inl (e.rd (fun _ z => nomatch z) h)
  · exact .inr h
theorem Keep.l {H H' : Hp} {a : Addr} {xs : List V} (e : Keep H H') (h : H a = some (.lst xs)) : H' a = some (.lst xs) := e a _ (fun _ z => nomatch z) h
theorem Keep.t {H H' : Hp} {a : Addr} {xs : List V} (e : Keep H H') (h : H a = some (.tup xs)) : H' a = some (.tup xs) := e a _ (fun _ z => nomatch z) h
theorem len_ok {n : Nat} (h : n ≤ 1000) : n ≤ sizeLine := Nat.le_trans h (by decide)
theorem len_lt {n : Nat} (h : n ≤ 1000) : n < sizeLine := Nat.lt_of_le_of_lt h (by decide)
theorem same_new {H : Hp} {p : Addr} {o : HO} (h : H p = none) : Same H (upd H p o) := fun b x e => by
  rw [upd_ne (ne_of_none e h)]; exact e
/-- an object that H does not know may change -/
theorem same_mut {H H' : Hp} {p : Addr} {o : HO} (e : Same H H') (h : H p = none) : Same H (upd H' p o) := fun a u ha => by
  rw [upd_ne (ne_of_none ha h)]; exact e a u ha
theorem keep_mut {H H' : Hp} {p : Addr} {o : HO} (e : Keep H H') (h : H p = none) : Keep H (upd H' p o) := fun a u n ha => by
  rw [upd_ne (ne_of_none ha h)]; exact e a u n ha
theorem keep_dict {H : Hp} {m : Addr} {kvs : List (Key × V)} {o : HO} (h : H m = some (.dK kvs)) : Keep H (upd H m o) := fun b u n e => by
  rw [upd_ne]
  · exact e
  · intro z; subst z; rw [h] at e; exact n kvs (Option.some.inj e).symm
theorem keep_free {H H' : Hp} (e : Same H H') {l : Addr} (h : H' l = none) : H l = none := e.free h

/-! ### data -/
abbrev Dt := PyData
mutual
theorem Dpk {K : PySem.W.Frag} {H H' : Hp} (e : Keep H H') : ∀ (d : PyData) (v : V), Dp K H v d → Dp K H' v d
  | .none, _, h => by cases h; exact .non
  | .bool b, _, h => by cases h; exact .bl b
  | .int i, _, h => by cases h; exact .int i
  | .str x, _, h => by cases h; exact .str x
  | .list ds, _, h => by
    cases h with
    | lst hs ha => exact .lst (e.seqL hs) (DpkAll e ds _ ha)
  | .tuple ds, _, h => by
    cases h with
    | tup hs ha => exact .tup (e.seqT hs) (DpkAll e ds _ ha)
  | .dict _, _, h => by cases h
theorem DpkAll {K : PySem.W.Frag} {H H' : Hp} (e : Keep H H') : ∀ (ds : List PyData) (vs : List V), DpAll K H vs ds → DpAll K H' vs ds
  | [], _, h => by cases h; exact .nil
  | d :: ds, _, h => by
    cases h with
    | cons h1 h2 => exact .cons (Dpk e d _ h1) (DpkAll e ds _ h2)
end
section
variable {K : PySem.W.Frag} {H H' : Hp} {v : V} {d : PyData} {vs : List V} {ds : List PyData} {a p : Addr} {xs : List V}
theorem dp_keep (e : Keep H H') (h : Dp K H v d) : Dp K H' v d := Dpk e d v h
theorem dp_same (e : Same H H') (h : Dp K H v d) : Dp K H' v d := Dpk (Keep.of e) d v h
theorem dpa_keep (e : Keep H H') (h : DpAll K H vs ds) : DpAll K H' vs ds := DpkAll e ds vs h
theorem dpa_same (e : Same H H') (h : DpAll K H vs ds) : DpAll K H' vs ds := DpkAll (Keep.of e) ds vs h
theorem dp_int {i : Int} (h : Dp K H v (.int i)) : v = .int i := by cases h; rfl
theorem dp_str {i : Str} (h : Dp K H v (.str i)) : v = .str i := by cases h; rfl
theorem dp_bl {i : Bool} (h : Dp K H v (.bool i)) : v = .bl i := by cases h; rfl
theorem dp_non (h : Dp K H v .none) : v = .non := by cases h; rfl
theorem dp_tup (h : Dp K H v (.tuple ds)) : ∃ a xs, v = .ref a ∧ SqT K H a xs ∧ DpAll K H xs ds := by
  cases h with
  | tup hs ha => exact ⟨_, _, rfl, hs, ha⟩
theorem dp_lst (h : Dp K H v (.list ds)) : ∃ a xs, v = .ref a ∧ SqL K H a xs ∧ DpAll K H xs ds := by
  cases h with
  | lst hs ha => exact ⟨_, _, rfl, hs, ha⟩
theorem dpa_len : ∀ {vs : List V} {ds : List PyData}, DpAll K H vs ds → vs.length = ds.length
  | _, [], h => by cases h; rfl
  | _, d :: ds, h => by
    cases h with
    | cons h1 h2 => simp [dpa_len h2]
theorem dpa_get : ∀ {vs : List V} {ds : List PyData} {i : Nat} {d : PyData}, DpAll K H vs ds → ds[i]? = some d → ∃ v, vs[i]? = some v ∧ Dp K H v d
  | _, [], i, d, h, e => by simp at e
  | _, d0 :: ds, 0, d, h, e => by
    cases h with
    | cons h1 h2 => simp at e; subst e; exact ⟨_, rfl, h1⟩
  | _, d0 :: ds, i + 1, d, h, e => by
    cases h with
    | cons h1 h2 =>
      obtain ⟨v, e1, e2⟩ := dpa_get (i := i) h2 (by simpa using e)
      exact ⟨v, by simpa using e1, e2⟩
theorem dpa_get2 : ∀ {vs : List V} {ds : List PyData} {i : Nat} {v : V}, DpAll K H vs ds → vs[i]? = some v → ∃ d, ds[i]? = some d ∧ Dp K H v d := fun {vs ds i v} h e => by
  have hi : i < ds.length := by
    rw [← dpa_len h]; exact (List.getElem?_eq_some_iff.mp e).1
  obtain ⟨v', e1, e2⟩ := dpa_get h (List.getElem?_eq_getElem hi)
  rw [e] at e1
  cases e1
  exact ⟨_, List.getElem?_eq_getElem hi, e2⟩
theorem dpa_app : ∀ {vs : List V} {ds : List PyData} {ws : List V} {es : List PyData}, DpAll K H vs ds → DpAll K H ws es → DpAll K H (vs ++ ws) (ds ++ es)
  | _, [], _, _, h, g => by cases h; exact g
  | _, d :: ds, _, _, h, g => by
    cases h with
    | cons h1 h2 => exact .cons h1 (dpa_app h2 g)
theorem dpa_one (h : Dp K H v d) : DpAll K H [v] [d] := .cons h .nil
theorem dpa_take : ∀ {vs : List V} {ds : List PyData} (n : Nat), DpAll K H vs ds → DpAll K H (vs.take n) (ds.take n)
  | _, _, 0, h => by simp; exact .nil
  | _, [], n + 1, h => by cases h; exact .nil
  | _, d :: ds, n + 1, h => by
    cases h with
    | cons h1 h2 => exact .cons h1 (dpa_take n h2)
theorem dpa_drop : ∀ {vs : List V} {ds : List PyData} (n : Nat), DpAll K H vs ds → DpAll K H (vs.drop n) (ds.drop n)
  | _, _, 0, h => h
  | _, [], n + 1, h => by cases h; exact .nil
  | _, d :: ds, n + 1, h => by
    cases h with
    | cons h1 h2 => exact dpa_drop n h2
theorem dpa_ints : ∀ (ns : List Int), DpAll K H (ns.map V.int) (ns.map PyData.int)
  | [] => .nil
  | n :: ns => .cons (.int n) (dpa_ints ns)
theorem dpa_ints_inv : ∀ {vs : List V} {ns : List Int}, DpAll K H vs (ns.map PyData.int) → vs = ns.map V.int
  | _, [], h => by cases h; rfl
  | _, n :: ns, h => by
    cases h with
    | cons h1 h2 => cases h1; rw [dpa_ints_inv h2]; rfl
theorem dpa_strs : ∀ (ns : List Str), DpAll K H (ns.map V.str) (ns.map PyData.str)
  | [] => .nil
  | n :: ns => .cons (.str n) (dpa_strs ns)
theorem dpa_strs_inv : ∀ {vs : List V} {ns : List Str}, DpAll K H vs (ns.map PyData.str) → vs = ns.map V.str
  | _, [], h => by cases h; rfl
  | _, n :: ns, h => by
    cases h with
    | cons h1 h2 => cases h1; rw [dpa_strs_inv h2]; rfl
theorem dp_newL (h : H a = some (.lst xs)) (g : DpAll K H xs ds) : Dp K H (.ref a) (.list ds) := .lst (.of h) g
theorem dp_newT (h : H a = some (.tup xs)) (g : DpAll K H xs ds) : Dp K H (.ref a) (.tuple ds) := .tup (.of h) g
end

/-! ### readings, step by step -/
def rB (x : V) (H : Hp) (Q : Bool → Hp → Prop) : Prop := ∃ k, x = .bl k ∧ Q k H
def rBV (x : V) (A : Bool → Prop) : Prop := ∃ c, x = .bl c ∧ A c
def rDG (x y : V) (H : Hp) (Q : VK) : Prop := ∃ a v, x = .ref a ∧ DGet H a y (some v) ∧ Q v H
def rDP (x y v : V) (H : Hp) (Q : Hp → Prop) : Prop := ∃ a H4, x = .ref a ∧ DPut H a y v H4 ∧ Q H4
def r2V (vs : List V) (A : V → V → Prop) : Prop := ∃ v w, vs = [v, w] ∧ A v w
def rNewT (xs : List V) (H : Hp) (Q : VK) : Prop := xs.length ≤ sizeLine ∧ ∀ p, H p = none → Q (.ref p) (upd H p (.tup xs))
def rNewL (xs : List V) (H : Hp) (Q : VK) : Prop := xs.length ≤ sizeLine ∧ ∀ p, H p = none → Q (.ref p) (upd H p (.lst xs))
def rPI (x : V) (A : Option Int → Prop) : Prop := ∃ i, x = .int i ∧ A (some i)
section
variable {K : PySem.W.Frag} {σ : L2.St} {H : Hp} {Q : VK} {D : Ends} {v x y z : V} {i : Nat} {ta tb tc te : TE} {t u : TS} {c : TT} {g : TG} {tn : TA} {r : R2}
theorem w_seq (h : t { D with nx := u D } σ H) : tSeq t u D σ H := h
theorem w_next (h : D.nx σ H) : tNext D σ H := h
theorem w_asg (h : te σ H fun x H1 => D.nx (σ.set i (some x)) H1) : tAsg te (gName i) D σ H := h
theorem w_asgG (h : te σ H fun x H1 => g x σ H1 D.nx) : tAsg te g D σ H := h
theorem w_drop (h : te σ H fun _ H1 => D.nx σ H1) : tDrop te D σ H := h
theorem w_ret (h : te σ H D.rt) : tRet te D σ H := h
theorem w_retN (h : D.rt .non H) : tRetN D σ H := h
theorem w_brk (h : D.bk σ H) : tBreak D σ H := h
theorem w_cont (h : D.ct σ H) : tCont D σ H := h
theorem w_ifS (h : c σ H fun b H1 => if b = true then t D σ H1 else u D σ H1) : tIfS c t u D σ H := h
theorem w_var (h : σ[i]? = some (some v)) (q : Q v H) : tVar i σ H Q := ⟨v, h, q⟩
theorem w_c (q : Q v H) : tC v σ H Q := q
theorem w_op (h : ta σ H fun x H1 => tb σ H1 fun y H2 => r x y H2 Q) : tOp r ta tb σ H Q := h
theorem w_un {r : V → Hp → VK → Prop} (h : ta σ H fun x H1 => r x H1 Q) : tUn r ta σ H Q := h
theorem w_rI0 {g : Int → Int → V} {i j : Int} (q : Q (g i j) H) : rI0 g (.int i) (.int j) H Q := ⟨i, j, rfl, rfl, q⟩
theorem w_rI {C : Int → Int → Prop} {g : Int → Int → V} {i j : Int} (hc : C i j) (q : Q (g i j) H) : rI C g (.int i) (.int j) H Q := ⟨i, j, rfl, rfl, hc, q⟩
theorem w_rU {g : Int → V} {i : Int} (q : Q (g i) H) : rU g (.int i) H Q := ⟨i, rfl, q⟩
theorem w_eqI {i j : Int} (q : Q (.bl (decide (i = j))) H) : rEq (.int i) (.int j) H Q := ⟨rfl, by
  rw [dec_int, show (i == j) = decide (i = j) from rfl]; exact q⟩
theorem w_neI {i j : Int} (q : Q (.bl (!decide (i = j))) H) : rNe (.int i) (.int j) H Q := ⟨rfl, by
  rw [dec_int, show (i == j) = decide (i = j) from rfl]; exact q⟩
theorem w_rEq (hs : scal x y = true) (q : Q (.bl (decide (x = y))) H) : rEq x y H Q := ⟨hs, q⟩
theorem w_rNe (hs : scal x y = true) (q : Q (.bl (!decide (x = y))) H) : rNe x y H Q := ⟨hs, q⟩
theorem w_tI (h : c σ H fun b H1 => if b = true then ta σ H1 Q else tb σ H1 Q) : tIf c ta tb σ H Q := h
theorem w_tTest {Q : Bool → Hp → Prop} (h : te σ H fun x H' => rB x H' Q) : tTest te σ H Q := h
theorem w_tB {Q : Bool → Hp → Prop} (h : te σ H fun x H' => rB x H' Q) : tB te σ H Q := h
theorem w_bl {b : Bool} {Q : Bool → Hp → Prop} (h : Q b H) : rB (.bl b) H Q := ⟨b, rfl, h⟩
theorem w_blV {b : Bool} {A : Bool → Prop} (h : A b) : rBV (.bl b) A := ⟨b, rfl, h⟩
theorem w_and {t u : TT} {Q : Bool → Hp → Prop} (h : t σ H fun c H1 => if c = true then u σ H1 Q else Q false H1) : tAnd t u σ H Q := h
theorem w_or {t u : TT} {Q : Bool → Hp → Prop} (h : t σ H fun c H1 => if c = true then Q true H1 else u σ H1 Q) : tOr t u σ H Q := h
theorem w_not {t : TT} {Q : Bool → Hp → Prop} (h : t σ H fun c H1 => Q (!c) H1) : tNot t σ H Q := h
theorem w_andV (h : ta σ H fun x H1 => rBV x fun c => if c = true then tb σ H1 Q else Q (.bl false) H1) : tAndV ta tb σ H Q := h
theorem w_orV (h : ta σ H fun x H1 => rBV x fun c => if c = true then Q (.bl true) H1 else tb σ H1 Q) : tOrV ta tb σ H Q := h
theorem w_notV (h : ta σ H fun x H1 => rBV x fun c => Q (.bl (!c)) H1) : tNotV ta σ H Q := h
theorem w_chain {r r' : R2} (h : ta σ H fun x H1 => tb σ H1 fun y H2 => r x y H2 fun z H3 => rBV z fun k => if k = true then tc σ H3 fun w' H4 => r' y w' H4 Q else Q (.bl false) H3) : tChain r r' ta tb tc σ H Q := h
theorem w_nil {Q : List V → Hp → Prop} (q : Q [] H) : tNil σ H Q := q
theorem w_cons {Q : List V → Hp → Prop} (h : ta σ H fun x H1 => tn σ H1 fun xs H2 => Q (x :: xs) H2) : tCons ta tn σ H Q := h
theorem w_call {sp : Sp} {dvs : List V} {E : XK} (h : tn σ H fun vs H1 => sp (vs ++ dvs) H1 Q E) : tCall sp dvs E tn σ H Q := h
theorem w_cb {r : List V → Hp → VK → Prop} (h : tn σ H fun vs H1 => r vs H1 Q) : tCB r tn σ H Q := h
theorem w_tup (h : tn σ H fun xs H1 => rNewT xs H1 Q) : tTup tn σ H Q := h
theorem w_lst (h : tn σ H fun xs H1 => rNewL xs H1 Q) : tLst tn σ H Q := h
theorem w_newT {xs : List V} {ds : List PyData} (hl : xs.length ≤ sizeLine) (hd : DpAll K H xs ds) (q : ∀ p H', H p = none → Same H H' → Dp K H' (.ref p) (.tuple ds) → Q (.ref p) H') :
    rNewT xs H Q :=
  ⟨hl, fun p hp => q p _ hp (same_new hp) (dp_newT upd_same (dpa_same (same_new hp) hd))⟩
theorem w_newL {xs : List V} {ds : List PyData} (hl : xs.length ≤ sizeLine) (hd : DpAll K H xs ds) (q : ∀ p H', H p = none → Same H H' → H' p = some (.lst xs) → Dp K H' (.ref p) (.list ds) → Q (.ref p) H') :
    rNewL xs H Q :=
  ⟨hl, fun p hp => q p _ hp (same_new hp) upd_same (dp_newL upd_same (dpa_same (same_new hp) hd))⟩
theorem w_ite {b : Bool} {A B : Prop} (h1 : b = true → A) (h2 : b = false → B) : if b = true then A else B := by
  cases b with
  | true => rw [if_pos rfl]; exact h1 rfl
  | false => rw [if_neg Bool.false_ne_true]; exact h2 rfl
theorem w_iteD {P : Prop} [Decidable P] {A B : Prop} (h1 : P → A) (h2 : ¬ P → B) : if decide P = true then A else B := by
  by_cases h : P
  · rw [if_pos (decide_eq_true h)]; exact h1 h
  · rw [if_neg (by simpa using h)]; exact h2 h
theorem w_iteND {P : Prop} [Decidable P] {A B : Prop} (h1 : ¬ P → A) (h2 : P → B) : if (!decide P) = true then A else B := by
  by_cases h : P
  · rw [decide_eq_true h]; simpa using h2 h
  · rw [decide_eq_false h]; simpa using h1 h
theorem w_iteT {A B : Prop} (h : A) : if true = true then A else B := by rw [if_pos rfl]; exact h
theorem w_iteNT {A B : Prop} (h : B) : if (!true) = true then A else B := by rw [Bool.not_true, if_neg Bool.false_ne_true]; exact h
theorem w_iteNF {A B : Prop} (h : A) : if (!false) = true then A else B := by rw [Bool.not_false, if_pos rfl]; exact h
theorem w_iteF {A B : Prop} (h : B) : if false = true then A else B := by rw [if_neg Bool.false_ne_true]; exact h
end
end Tw
namespace Tw
open PySem PySem.Spec PyProof.Rows L2
/-! ### rules by data -/
section
variable {X : Cx}
def rLen (K : PySem.W.Frag) : List V → Hp → VK → Prop := fun xs H Q => ∃ x n, xs = [x] ∧ LenV K x H n ∧ Q (.int n) H
theorem cl_len {K : PySem.W.Frag} (h : X.K = K := by rfl) : CallR X (.builtin "len") (rLen K) := h ▸ call_len
def rInt : List V → Hp → VK → Prop := fun xs H Q => (∃ i, xs = [.int i] ∧ Q (.int i) H) ∨ ∃ k, xs = [.bl k] ∧ Q (.int (if k then 1 else 0)) H
theorem cl_int : CallR X (.type "int") rInt := call_int1
def rStrI : List V → Hp → VK → Prop := fun xs H Q => ∃ i, xs = [.int i] ∧ i.natAbs.log2 < 1920 ∧ Q (.str (toString i)) H
theorem cl_strI : CallR X (.type "str") rStrI := call_str_int
def rTupOf (K : PySem.W.Frag) : List V → Hp → VK → Prop := fun xs H Q => ∃ p ys, xs = [.ref p] ∧ ((SqL K H p ys ∧ ∀ l, H l = none → Q (.ref l) (upd H l (.tup ys))) ∨ (SqT K H p ys ∧ Q (.ref p) H))
def rMax2 : List V → Hp → VK → Prop := fun xs H Q => ∃ i j, xs = [.int i, .int j] ∧ Q (.int (if j > i then j else i)) H
theorem cl_max2 (hc : X.calm = true) : CallR X (.builtin "max") rMax2 := call_max2 hc
def rMin2 : List V → Hp → VK → Prop := fun xs H Q => ∃ i j, xs = [.int i, .int j] ∧ Q (.int (if j < i then j else i)) H
theorem cl_min2 (hc : X.calm = true) : CallR X (.builtin "min") rMin2 := call_min2 hc
theorem pe_cint {x : Str} {pos : Pos} {i : Int} {t : Tok} (hg : Gl X x) (hm : X.mg x = some (.int i t)) (hd : (x == ("__debug__" : Str)) = false := by decide) : PE X (.Name x pos) (tC (.int i)) := pe_glob hg hm (show RelV (.int i) _ from ⟨t, rfl⟩) hd
theorem cl_tup {K : PySem.W.Frag} (h : X.K = K := by rfl) : CallR X (.type "tuple") (rTupOf K) := h ▸ call_tuple_of
def rLstOf (K : PySem.W.Frag) : List V → Hp → VK → Prop := fun xs H Q => ∃ p ys, xs = [.ref p] ∧ (SqL K H p ys ∨ SqT K H p ys) ∧ ∀ l, H l = none → Q (.ref l) (upd H l (.lst ys))
theorem cl_lst {K : PySem.W.Frag} (h : X.K = K := by rfl) : CallR X (.type "list") (rLstOf K) := h ▸ call_list_of
theorem ix_listK {K : PySem.W.Frag} (h : X.K = K := by rfl) : IxR X (rIxL K) := h ▸ ix_list
theorem ix_tupK {K : PySem.W.Frag} (h : X.K = K := by rfl) : IxR X (rIxT K) := h ▸ ix_tup
theorem op_eqK {K : PySem.W.Frag} (hu : X.A.units + 64 < cLine) (h : X.K = K := by rfl) : OpR X (compareOp .Eq) (rEqD K) := h ▸ op_eqD hu
theorem op_neK {K : PySem.W.Frag} (hu : X.A.units + 64 < cLine) (h : X.K = K := by rfl) : OpR X (compareOp .NotEq) (rNeD K) := h ▸ op_neD hu
theorem sl_listK {K : PySem.W.Frag} (h : X.K = K := by rfl) : SlR X (rSlL K) := h ▸ sl_list
theorem pi_listK {K : PySem.W.Frag} {tg l : Expr} {tl : TE} (hl : PE X l tl) (h : X.K = K := by rfl) : PI X tg l (iList K tl) := h ▸ pi_list hl
theorem pi_tupK {K : PySem.W.Frag} {tg l : Expr} {tl : TE} (hl : PE X l tl) (h : X.K = K := by rfl) : PI X tg l (iTup K tl) := h ▸ pi_tup hl
def rAddStr : R2 := fun x y H Q => ∃ i j, x = .str i ∧ y = .str j ∧ i.length + j.length ≤ sizeLine ∧ Q (.str (i ++ j)) H
theorem op_addS : OpR X (binaryOp .Add) rAddStr := op_add_str
theorem op_catL : OpR X (binaryOp .Add) rCat := op_cat
def rJoin (K : PySem.W.Frag) : V → List V → Hp → VK → Prop := fun x xs H Q => ∃ a p, ∃ ys : List Str, x = .str a ∧ xs = [.ref p] ∧ (SqL K H p (ys.map V.str) ∨ SqT K H p (ys.map V.str)) ∧ (ys.map (·.length)).sum + ys.length * a.length ≤ 16777216 ∧ Q (.str (Txt.join a ys)) H
def tTru (K : PySem.W.Frag) (ta : TE) : TT := fun σ H Q => ta σ H fun x H' => ∃ k, TruV K x H' k ∧ Q k H'
theorem pt_tru {K : PySem.W.Frag} {a : Expr} {ta : TE} (ha : PE X a ta) (he : ∀ whole, isTrue a X.env whole = (do let v ← whole; standAt a.pos; holding [v] (truthy v))) (h : X.K = K := by rfl) : PT X a (tTru K ta) := h ▸ pt_truth ha he
end
end Tw

namespace Tw
open PySem PySem.Spec PyProof.Rows L2
section
variable {X : Cx}
theorem pe_joinD {K : PySem.W.Frag} {o e : Expr} {to te : TE} {apos pos : Pos} (ho : PE X o to) (he : PE X e te) (h : X.K = K := by rfl) (hs : starEach [e] X.env = [(false, eval e X.env)] := by rfl) (hbase : attributeBase o "join" X.env (eval o X.env) = eval o X.env := by rfl) (hline : (apos.endLine == pos.line) = true := by rfl) :
    PE X (.Call (.Attribute o "join" apos) [e] [] pos) (tM1 (rJoin K) to te) := h ▸ pe_join ho he hs hbase hline
end
section
variable {K : PySem.W.Frag} {σ : L2.St} {H : Hp} {Q : VK} {D : Ends} {v x y z : V} {d e : PyData} {ds es : List PyData} {i : Nat} {to ta tb tc te : TE} {t u : TS} {tn : TA}
theorem w_lenL (h : Dp K H v (.list ds)) (q : Q (.int (ds.length : Int)) H) : rLen K [v] H Q := by
  obtain ⟨a, xs, rfl, hs, ha⟩ := dp_lst h
  exact ⟨.ref a, ds.length, rfl, .inl ⟨xs, hs, (dpa_len ha).symm⟩, q⟩
theorem w_lenT (h : Dp K H v (.tuple ds)) (q : Q (.int (ds.length : Int)) H) : rLen K [v] H Q := by
  obtain ⟨a, xs, rfl, hs, ha⟩ := dp_tup h
  exact ⟨.ref a, ds.length, rfl, .inr ⟨xs, hs, (dpa_len ha).symm⟩, q⟩
theorem w_lenS {x : Str} (h : x.length ≤ sizeLine) (q : Q (.int (x.length : Int)) H) : rLen K [.str x] H Q := ⟨.str x, x.length, rfl, ⟨h, rfl⟩, q⟩
theorem w_int {n : Int} (q : Q (.int n) H) : rInt [.int n] H Q := .inl ⟨n, rfl, q⟩
theorem w_strI {n : Int} (h : n.natAbs.log2 < 1920) (q : Q (.str (toString n)) H) : rStrI [.int n] H Q := ⟨n, rfl, h, q⟩
theorem w_max2 {i j : Int} (q : ∀ r, r = max i j → Q (.int r) H) : rMax2 [.int i, .int j] H Q := ⟨i, j, rfl, q _ (by split <;> omega)⟩
theorem w_min2 {i j : Int} (q : ∀ r, r = min i j → Q (.int r) H) : rMin2 [.int i, .int j] H Q := ⟨i, j, rfl, q _ (by split <;> omega)⟩
theorem w_tupOf (h : Dp K H v (.list ds)) (q : ∀ p H', H p = none → Same H H' → Dp K H' (.ref p) (.tuple ds) → Q (.ref p) H') : rTupOf K [v] H Q := by
  obtain ⟨a, xs, rfl, hs, ha⟩ := dp_lst h
  exact ⟨a, xs, rfl, .inl ⟨hs, fun l hl => q l _ hl (same_new hl) (dp_newT upd_same (dpa_same (same_new hl) ha))⟩⟩
theorem w_tupOfT (h : Dp K H v (.tuple ds)) (q : ∀ v, Dp K H v (.tuple ds) → Q v H) : rTupOf K [v] H Q := by
  obtain ⟨a, xs, rfl, hs, ha⟩ := dp_tup h
  exact ⟨a, xs, rfl, .inr ⟨hs, q _ h⟩⟩
theorem w_lstOfT (h : Dp K H v (.tuple ds)) (q : ∀ p H' xs, H p = none → Same H H' → H' p = some (.lst xs) → Dp K H' (.ref p) (.list ds) → Q (.ref p) H') : rLstOf K [v] H Q := by
  obtain ⟨a, xs, rfl, hs, ha⟩ := dp_tup h
  exact ⟨a, xs, rfl, .inr hs, fun l hl => q l _ xs hl (same_new hl) upd_same (dp_newL upd_same (dpa_same (same_new hl) ha))⟩
theorem w_lstOfL (h : Dp K H v (.list ds)) (q : ∀ p H' xs, H p = none → Same H H' → H' p = some (.lst xs) → Dp K H' (.ref p) (.list ds) → Q (.ref p) H') : rLstOf K [v] H Q := by
  obtain ⟨a, xs, rfl, hs, ha⟩ := dp_lst h
  exact ⟨a, xs, rfl, .inl hs, fun l hl => q l _ xs hl (same_new hl) upd_same (dp_newL upd_same (dpa_same (same_new hl) ha))⟩
theorem w_addS {x y : Str} (h : x.length + y.length ≤ sizeLine) (q : Q (.str (x ++ y)) H) : rAddStr (.str x) (.str y) H Q := ⟨x, y, rfl, rfl, h, q⟩
/-- an item by a place that is known to be a number -/
theorem w_ixL {n : Int} {j : Nat} (h : Dp K H v (.list ds)) (hn : n = (j : Int)) (hd : ds[j]? = some d) (q : ∀ v', Dp K H v' d → Q v' H) : rIxL K v (.int n) H Q := by
  obtain ⟨a, xs, rfl, hs, ha⟩ := dp_lst h
  obtain ⟨v', e1, e2⟩ := dpa_get ha hd
  exact ⟨a, xs, n, v', rfl, rfl, hs, at_of hn e1, q v' e2⟩
theorem w_ixT {n : Int} {j : Nat} (h : Dp K H v (.tuple ds)) (hn : n = (j : Int)) (hd : ds[j]? = some d) (q : ∀ v', Dp K H v' d → Q v' H) : rIxT K v (.int n) H Q := by
  obtain ⟨a, xs, rfl, hs, ha⟩ := dp_tup h
  obtain ⟨v', e1, e2⟩ := dpa_get ha hd
  exact ⟨a, xs, n, v', rfl, rfl, hs, at_of hn e1, q v' e2⟩
theorem w_ixLI {n : Int} {ns : List Int} (h : Dp K H v (.list (ns.map PyData.int))) (h0 : 0 ≤ n) (h1 : n < (ns.length : Int)) (q : ∀ z, ns[n.toNat]? = some z → Q (.int z) H) : rIxL K v (.int n) H Q := by
  have hl : n.toNat < ns.length := by omega
  refine w_ixL (j := n.toNat) (d := .int ns[n.toNat]) h (by omega) (by simp [hl]) fun v' hv => ?_
  cases hv
  exact q _ (List.getElem?_eq_getElem hl)
theorem w_ixTI {n : Int} {ns : List Int} (h : Dp K H v (.tuple (ns.map PyData.int))) (h0 : 0 ≤ n) (h1 : n < (ns.length : Int)) (q : ∀ z, ns[n.toNat]? = some z → Q (.int z) H) : rIxT K v (.int n) H Q := by
  have hl : n.toNat < ns.length := by omega
  refine w_ixT (j := n.toNat) (d := .int ns[n.toNat]) h (by omega) (by simp [hl]) fun v' hv => ?_
  cases hv
  exact q _ (List.getElem?_eq_getElem hl)
theorem w_ixLast (h : Dp K H v (.list ds)) (hd : ds.getLast? = some d) (q : ∀ v', Dp K H v' d → Q v' H) : rIxL K v (.int (-1)) H Q := by
  obtain ⟨a, xs, rfl, hs, ha⟩ := dp_lst h
  rw [List.getLast?_eq_getElem?] at hd
  obtain ⟨v', e1, e2⟩ := dpa_get ha hd
  have hne : xs ≠ [] := fun z => by subst z; simp at e1
  have hx : xs = xs.dropLast ++ [xs.getLast hne] := (List.dropLast_concat_getLast hne).symm
  have e3 : v' = xs.getLast hne := by
    rw [← dpa_len ha, ← List.getLast?_eq_getElem?, List.getLast?_eq_getLast hne] at e1
    exact (Option.some.inj e1).symm
  refine ⟨a, xs, -1, v', rfl, rfl, hs, ?_, q v' e2⟩
  rw [hx, e3]; exact atI_last _ _
theorem w_ixLastT (h : Dp K H v (.tuple ds)) (hd : ds.getLast? = some d) (q : ∀ v', Dp K H v' d → Q v' H) : rIxT K v (.int (-1)) H Q := by
  obtain ⟨a, xs, rfl, hs, ha⟩ := dp_tup h
  rw [List.getLast?_eq_getElem?] at hd
  obtain ⟨v', e1, e2⟩ := dpa_get ha hd
  have hne : xs ≠ [] := fun z => by subst z; simp at e1
  have hx : xs = xs.dropLast ++ [xs.getLast hne] := (List.dropLast_concat_getLast hne).symm
  have e3 : v' = xs.getLast hne := by
    rw [← dpa_len ha, ← List.getLast?_eq_getElem?, List.getLast?_eq_getLast hne] at e1
    exact (Option.some.inj e1).symm
  refine ⟨a, xs, -1, v', rfl, rfl, hs, ?_, q v' e2⟩
  rw [hx, e3]; exact atI_last _ _
theorem w_ixS {s : Str} {n : Int} {j c : Nat} (hz : s.length ≤ sizeLine) (hn : n = (j : Int)) (hd : s.cps.toList[j]? = some c) (q : Q (.str ⟨#[c]⟩) H) : rIxS (.str s) (.int n) H Q :=
  ⟨s, n, c, rfl, rfl, hz, by rw [hn]; exact atI_nat hd, q⟩
theorem w_tIsN (q : Q (.bl (decide (x = .non))) H) : rIsN x .non H Q := ⟨rfl, q⟩
theorem w_tNotN (q : Q (.bl (!decide (x = .non))) H) : rNotN x .non H Q := ⟨rfl, q⟩
theorem w_bm {T : String} {r : V → List V → Hp → VK → Prop} (h : to σ H fun x H1 => tyV K T x H1 ∧ tn σ H1 fun xs H2 => r x xs H2 Q) : tBM K T r to tn σ H Q := h
theorem w_bm0 {T : String} {r : V → List V → Hp → VK → Prop} (h : to σ H fun x H1 => tyV K T x H1 ∧ r x [] H1 Q) : tBM0 K T r to σ H Q := h
theorem w_m1 {r : V → List V → Hp → VK → Prop} (h : to σ H fun x H1 => (∃ a, x = .str a) ∧ te σ H1 fun y H2 => r x [y] H2 Q) : tM1 r to te σ H Q := h
theorem w_isStr {s : Str} {A : Prop} (h : A) : (∃ a, V.str s = .str a) ∧ A := ⟨⟨s, rfl⟩, h⟩
theorem w_append {l : Addr} {xs : List V} (h : H l = some (.lst xs)) (hz : xs.length < sizeLine) (q : Q .non (upd H l (.lst (xs ++ [y])))) : rAppend (.ref l) [y] H Q := ⟨l, xs, y, rfl, rfl, h, hz, q⟩
theorem w_tyL {a : Addr} {xs : List V} {A : Prop} (h : H a = some (.lst xs)) (q : A) : tyV K "list" (.ref a) H ∧ A := ⟨.inl ⟨rfl, xs, .of h⟩, q⟩
theorem w_tyS {s : Str} {A : Prop} (q : A) : tyV K "str" (.str s) H ∧ A := ⟨rfl, q⟩
theorem w_join {s : Str} {ys : List Str} (h : Dp K H v (.list (ys.map PyData.str))) (hz : (ys.map (·.length)).sum + ys.length * s.length ≤ 16777216) (q : Q (.str (Txt.join s ys)) H) : rJoin K (.str s) [v] H Q := by
  obtain ⟨a, xs, rfl, hs, ha⟩ := dp_lst h
  rw [dpa_strs_inv ha] at hs
  exact ⟨s, a, ys, rfl, rfl, .inl hs, hz, q⟩
/-- a new list out of two -/
theorem w_catL {a b : Addr} {xs zs : List V} (h : H a = some (.lst xs)) (h' : H b = some (.lst zs)) (hz : xs.length + zs.length ≤ sizeLine) (q : ∀ p H', H p = none → Same H H' → H' p = some (.lst (xs ++ zs)) → Q (.ref p) H') : rCat (.ref a) (.ref b) H Q :=
  ⟨a, b, xs, zs, rfl, rfl, h, h', hz, fun p hp => q p _ hp (same_new hp) upd_same⟩
theorem w_dget {td ty : TE} (h : td σ H fun x H1 => ty σ H1 fun y H2 => rDG x y H2 Q) : tDGet td ty σ H Q := h
theorem w_dgS {k : Str} {kvs : List (Key × V)} {m : Addr} (h : H m = some (.dK kvs)) (e : valV kvs (.inr k) = some v) (q : Q v H) : rDG (.ref m) (.str k) H Q :=
  ⟨m, v, rfl, by rw [← e]; exact DGet.k (k := .inr k) h, q⟩
theorem w_dpS {k : Str} {kvs kvs' : List (Key × V)} {m : Addr} (h : H m = some (.dK kvs)) (e : putK kvs (.inr k) v = kvs') (hl : kvs.length < sizeLine) {Q : Hp → Prop} (q : ∀ H', Keep H H' → H' m = some (.dK kvs') → Q H') : rDP (.ref m) (.str k) v H Q := by
  subst e
  exact ⟨m, _, rfl, DPut.k (k := .inr k) h hl, q _ (keep_dict h) upd_same⟩
theorem w_dput {td ty tv : TE} (h : tv σ H fun v H1 => td σ H1 fun x H2 => ty σ H2 fun y H3 => rDP x y v H3 (D.nx σ)) : sDPut td ty tv D σ H := h
theorem w_par {a b : Nat} {ta : TA} (h : ta σ H fun vs H1 => r2V vs fun v w => D.nx ((σ.set a (some v)).set b (some w)) H1) : tPar a b ta D σ H := h
theorem w_par2 {v w : V} {A : V → V → Prop} (h : A v w) : r2V [v, w] A := ⟨v, w, rfl, h⟩
def r3V (vs : List V) (A : V → V → V → Prop) : Prop := ∃ u v w, vs = [u, v, w] ∧ A u v w
theorem w_par3 {a b c : Nat} {ta : TA} (h : ta σ H fun vs H1 => r3V vs fun u v w => D.nx (((σ.set a (some u)).set b (some v)).set c (some w)) H1) : tPar3 a b c ta D σ H := h
theorem w_par33 {u v w : V} {A : V → V → V → Prop} (h : A u v w) : r3V [u, v, w] A := ⟨u, v, w, rfl, h⟩
theorem w_eqB {a b : Bool} (q1 : a = b → Q (.bl true) H) (q2 : a ≠ b → Q (.bl false) H) : rEq (.bl a) (.bl b) H Q := ⟨rfl, by
  by_cases h : a = b
  · subst h; rw [decide_eq_true rfl]; exact q1 rfl
  · rw [decide_eq_false (fun z => h (V.bl.inj z))]; exact q2 h⟩
theorem w_neB {a b : Bool} (q1 : a = b → Q (.bl false) H) (q2 : a ≠ b → Q (.bl true) H) : rNe (.bl a) (.bl b) H Q := ⟨rfl, by
  by_cases h : a = b
  · subst h; rw [decide_eq_true rfl]; exact q1 rfl
  · rw [decide_eq_false (fun z => h (V.bl.inj z))]; exact q2 h⟩
theorem w_aug {te : TE} {ti : TIp} (h : σ[i]? = some (some x)) (q : te σ H fun y H1 => ti x y H1 fun z H2 => D.nx (σ.set i (some z)) H2) : tAug i te ti D σ H := ⟨x, h, q⟩
theorem w_gTup {n : Nat} {tg : TGs} {Q : L2.St → Hp → Prop} {a : Addr} {xs : List V} (hs : SqT K H a xs) (hn : xs.length = n) (q : tg xs σ H Q) : gTup K n tg (.ref a) σ H Q := ⟨a, xs, rfl, hs, hn, q⟩
theorem w_gTup2 {i j : Nat} {Q : L2.St → Hp → Prop} {d e : PyData} (h : Dp K H v (.tuple [d, e])) (q : ∀ v1 v2, Dp K H v1 d → Dp K H v2 e → Q ((σ.set i (some v1)).set j (some v2)) H) : gTup K 2 (gCons (gName i) (gCons (gName j) gNil)) v σ H Q := by
  obtain ⟨a, xs, rfl, hs, ha⟩ := dp_tup h
  cases ha with
  | cons h1 h2 => cases h2 with
    | cons h3 h4 => cases h4; exact ⟨a, _, rfl, hs, rfl, _, _, rfl, _, _, rfl, rfl, q _ _ h1 h3⟩
theorem w_slice {r : V → Option Int → Option Int → Hp → VK → Prop} {tl th : TO} (h : te σ H fun x H1 => tl σ H1 fun l H2 => th σ H2 fun u H3 => r x l u H3 Q) : tSl r te tl th σ H Q := h
theorem w_noPart {Q : Option Int → Hp → Prop} (h : Q none H) : tNoPart σ H Q := h
theorem w_part {Q : Option Int → Hp → Prop} (h : te σ H fun x H1 => rPI x fun o => Q o H1) : tPart te σ H Q := h
theorem w_pint {n : Int} {A : Option Int → Prop} (h : A (some n)) : rPI (.int n) A := ⟨n, rfl, h⟩
theorem w_slL {lo hi : Option Int} {ds' : List PyData} (h : Dp K H v (.list ds)) (hc : ∀ xs, xs.length = ds.length → DpAll K H xs ds → DpAll K H (cutV xs lo hi) ds') (q : ∀ p H' xs, H p = none → Same H H' → H' p = some (.lst xs) → Dp K H' (.ref p) (.list ds') → Q (.ref p) H') : rSlL K v lo hi H Q := by
  obtain ⟨a, xs, rfl, hs, ha⟩ := dp_lst h
  exact ⟨a, xs, rfl, hs, fun p hp => q p _ _ hp (same_new hp) upd_same (dp_newL upd_same (dpa_same (same_new hp) (hc xs (dpa_len ha) ha)))⟩
end
/-- a text's signs, a text of signs -/
theorem wideX {i j : Int} {a b : Nat} (ha : i.natAbs < 2 ^ a) (hb : j.natAbs < 2 ^ b) (h : a + b ≤ 134217728) : CMulX i j := mulx_ok ha hb h
theorem mulS {i j : Int} (ha : -(2 ^ 250) < i ∧ i < 2 ^ 250) (hb : -(2 ^ 250) < j ∧ j < 2 ^ 250) : CMulX i j := mulx_ok (a := 250) (b := 250) (by omega) (by omega) (by decide)
theorem divS {i j : Int} (h : 0 < j ∧ j < 2 ^ 250) : CDivW i j := wide_div (b := 250) h.1 (by omega) (by decide) (by decide)
end Tw
namespace Tw
open PySem PySem.Spec PyProof.Rows L2
def rMod : R2 := rI (fun _ j => 0 < j) fun i j => .int (i % j)
theorem op_modD {X : Cx} : OpR X (binaryOp .Mod) rMod := op_mod
theorem w_rMod {H : Hp} {Q : VK} {i j : Int} (hc : 0 < j) (q : Q (.int (i % j)) H) : rMod (.int i) (.int j) H Q := ⟨i, j, rfl, rfl, hc, q⟩
/-- the rest as a letter -/
theorem w_rModA {H : Hp} {Q : VK} {i j : Int} (hc : 0 < j) (q : ∀ r, r = i % j → 0 ≤ r → r < j → Q (.int r) H) : rMod (.int i) (.int j) H Q :=
  ⟨i, j, rfl, rfl, hc, q _ rfl (Int.emod_nonneg _ (by omega)) (Int.emod_lt_of_pos _ hc)⟩
theorem w_rModB {H : Hp} {Q : VK} {i j : Int} (hc : 0 < j) (q : ∀ r, 0 ≤ r → r < j → Q (.int r) H) : rMod (.int i) (.int j) H Q :=
  w_rModA hc fun r _ => q r
def rWB (W : Nat → L2.St → Hp → Prop) (m : Nat) (tb : TS) (D : Ends) (σ : L2.St) (H1 : Hp) : Prop := ∃ N : L2.St → Hp → Prop, (∀ σ' H', N σ' H' → ∃ m', m' < m ∧ W m' σ' H') ∧ tb { D with nx := N, ct := N, bk := D.nx } σ H1
theorem w_wb {W : Nat → L2.St → Hp → Prop} {m : Nat} {tb : TS} {D : Ends} {σ : L2.St} {H1 : Hp} (h : tb { D with nx := fun σ' H' => ∃ m', m' < m ∧ W m' σ' H', ct := fun σ' H' => ∃ m', m' < m ∧ W m' σ' H', bk := D.nx } σ H1) : rWB W m tb D σ H1 :=
  ⟨_, fun _ _ h => h, h⟩
theorem whl_by {c : TT} {tb : TS} {D : Ends} {σ : L2.St} {H : Hp} (W : Nat → L2.St → Hp → Prop) (m0 : Nat) (h0 : W m0 σ H) (hs : ∀ m σ H, W m σ H → c σ H fun b H1 => if b = true then rWB W m tb D σ H1 else D.nx σ H1) : tWhile c tb D σ H :=
  ⟨W, ⟨m0, h0⟩, hs⟩
/-- two ways of an expression meet behind it -/
theorem w_meet {t : TE} {σ : L2.St} {H : Hp} {Q : VK} (Pm : V → Hp → Prop) (h : ∀ Q' : VK, (∀ v H', Pm v H' → Q' v H') → t σ H Q') (k : ∀ v H', Pm v H' → Q v H') : t σ H Q := h Q k
/-- .. of a statement -/
theorem w_meetS {t : TS} {D : Ends} {σ : L2.St} {H : Hp} (Pm : L2.St → Hp → Prop) (h : ∀ nx' : L2.St → Hp → Prop, (∀ σ' H', Pm σ' H' → nx' σ' H') → t { D with nx := nx' } σ H) (k : ∀ σ' H', Pm σ' H' → D.nx σ' H') : t D σ H := h D.nx k
theorem cxK {CX : CXT} {P : Program} {w : World} {K : PySem.W.Frag} {mg : Str → Option Value} {base : Heap} {N : List Str} {qual : Str} {scope : Scope} {f : Addr} {cd : Value} {A : Around} {outer : List Env} {s : Shared} {H : Hp} {E : XK} :
    (cxOf CX P w K mg base N qual scope f cd A outer s H E).nox.K = K := rfl
end Tw
namespace Tw
open PySem PySem.Spec PyProof.Rows L2
/-! ### slices, for -/
def cutD {α : Type} (ds : List α) (lo hi : Option Int) : List α := (ds.drop (HT.sIx ds.length 0 lo)).take (HT.sIx ds.length ds.length hi - HT.sIx ds.length 0 lo)
theorem cutD_len {α : Type} (ds : List α) (lo hi : Option Int) : (cutD ds lo hi).length ≤ ds.length := by
  unfold cutD; rw [List.length_take, List.length_drop]; omega
theorem cutD_map {α β : Type} (f : α → β) (ds : List α) (lo hi : Option Int) : cutD (ds.map f) lo hi = (cutD ds lo hi).map f := by
  unfold cutD; rw [List.length_map, List.map_take, List.map_drop]
theorem cutD_from {α : Type} (ds : List α) {k : Int} (h : 0 ≤ k) : cutD ds (some k) none = ds.drop k.toNat := by
  obtain ⟨n, rfl⟩ := Int.eq_ofNat_of_zero_le h
  unfold cutD
  rw [show HT.sIx ds.length 0 (some (n : Int)) = min n ds.length from HT.sIx_nat _ _ _, HT.sIx_none, Int.toNat_natCast]
  by_cases hn : n ≤ ds.length
  · rw [Nat.min_eq_left hn, List.take_of_length_le (by rw [List.length_drop]; omega)]
  · rw [Nat.min_eq_right (by omega), List.drop_eq_nil_of_le (Nat.le_refl _), List.drop_eq_nil_of_le (by omega)]
    simp
theorem cutD_to {α : Type} (ds : List α) {k : Int} (h : 0 ≤ k) : cutD ds none (some k) = ds.take k.toNat := by
  obtain ⟨n, rfl⟩ := Int.eq_ofNat_of_zero_le h
  unfold cutD
  rw [show HT.sIx ds.length ds.length (some (n : Int)) = min n ds.length from HT.sIx_nat _ _ _, HT.sIx_none, Int.toNat_natCast, Nat.sub_zero, List.drop_zero]
  by_cases hn : n ≤ ds.length
  · rw [Nat.min_eq_left hn]
  · rw [Nat.min_eq_right (by omega), List.take_length, List.take_of_length_le (by omega)]
theorem cutD_both {α : Type} (ds : List α) {a b : Int} (h : 0 ≤ a) (h2 : 0 ≤ b) : cutD ds (some a) (some b) = (ds.take b.toNat).drop a.toNat := by
  obtain ⟨n, rfl⟩ := Int.eq_ofNat_of_zero_le h
  obtain ⟨k, rfl⟩ := Int.eq_ofNat_of_zero_le h2
  unfold cutD
  rw [show HT.sIx ds.length 0 (some (n : Int)) = min n ds.length from HT.sIx_nat _ _ _, show HT.sIx ds.length ds.length (some (k : Int)) = min k ds.length from HT.sIx_nat _ _ _, Int.toNat_natCast, Int.toNat_natCast, ← List.drop_take]
  have e1 : List.take (min k ds.length) ds = List.take k ds := by
    by_cases hk : k ≤ ds.length
    · rw [Nat.min_eq_left hk]
    · rw [Nat.min_eq_right (show ds.length ≤ k by omega), List.take_length, List.take_of_length_le (show ds.length ≤ k by omega)]
  rw [e1]
  by_cases hn : n ≤ ds.length
  · rw [Nat.min_eq_left hn]
  · rw [Nat.min_eq_right (show ds.length ≤ n by omega), List.drop_eq_nil_of_le (by rw [List.length_take]; omega), List.drop_eq_nil_of_le (by rw [List.length_take]; omega)]
theorem cutD_butlast {α : Type} (ds : List α) : cutD ds none (some (-1)) = ds.dropLast := by
  unfold cutD
  rw [HT.sIx_none]
  show (List.drop 0 ds).take ((if (-1 : Int) < 0 then ((-1 : Int) + (ds.length : Int)).toNat else min (-1 : Int).toNat ds.length) - 0) = _
  rw [if_pos (by decide), List.drop_zero, List.dropLast_eq_take]
  congr 1
  omega
theorem cutV_D (xs : List V) (lo hi : Option Int) : cutV xs lo hi = cutD xs lo hi := rfl
section
variable {K : PySem.W.Frag} {σ : L2.St} {H : Hp} {Q : VK} {D : Ends} {v x y z : V} {d e : PyData} {ds es : List PyData} {tl te : TE} {ta : TA} {tb : TS} {g : TG} {lo hi : Option Int}
theorem dpa_cut {vs : List V} (h : DpAll K H vs ds) : DpAll K H (cutD vs lo hi) (cutD ds lo hi) := by
  unfold cutD
  rw [dpa_len h]
  exact dpa_take _ (dpa_drop _ h)
theorem w_slD (h : Dp K H v (.list ds)) (q : ∀ p H' xs, H p = none → Same H H' → H' p = some (.lst xs) → Dp K H' (.ref p) (.list (cutD ds lo hi)) → Q (.ref p) H') : rSlL K v lo hi H Q := by
  obtain ⟨a, xs, rfl, hs, ha⟩ := dp_lst h
  exact ⟨a, xs, rfl, hs, fun p hp => q p _ _ hp (same_new hp) upd_same (dp_newL upd_same (dpa_same (same_new hp) (dpa_cut ha)))⟩
theorem w_slV {a : Addr} {xs : List V} (h : SqL K H a xs) (q : ∀ p H', H p = none → Same H H' → H' p = some (.lst (cutD xs lo hi)) → Q (.ref p) H') : rSlL K (.ref a) lo hi H Q :=
  ⟨a, xs, rfl, h, fun p hp => q p _ hp (same_new hp) upd_same⟩
theorem w_slT (h : Dp K H v (.tuple ds)) (q : ∀ p H', Same H H' → Dp K H' (.ref p) (.tuple (cutD ds lo hi)) → Q (.ref p) H') (hne : ¬ (HT.sIx ds.length 0 lo = 0 ∧ HT.sIx ds.length ds.length hi = ds.length)) : ∃ a xs, v = .ref a ∧ SqT K H a xs := by
  obtain ⟨a, xs, rfl, hs, ha⟩ := dp_tup h
  exact ⟨a, xs, rfl, hs⟩
/-- strings -/
theorem w_slS {s : Str} (hz : s.length ≤ sizeLine) (q : Q (.str ⟨(cutD s.cps.toList lo hi).toArray⟩) H) : rSlS (.str s) lo hi H Q := ⟨s, rfl, hz, q⟩
def rForL (K : PySem.W.Frag) (g : TG) (tb : TS) (D : Ends) (σ : L2.St) (x : V) (H1 : Hp) : Prop := ∃ a, x = .ref a ∧ (∃ xs, SqL K H1 a xs) ∧ ∃ W : Nat → Nat → L2.St → Hp → Prop, (∃ m, W 0 m σ H1) ∧ ∀ i m σ H, W i m σ H →
  ((Itl K a).stop i H ∧ D.nx σ H) ∨ ((Itl K a).go i H ∧ ∃ N : L2.St → Hp → Prop, (∀ σ' H', N σ' H' → ∃ m', m' < m ∧ W (i + 1) m' σ' H') ∧ ∀ x H', (Itl K a).yld i H x H' → g x σ H' fun σ2 H2 => tb { D with nx := N, ct := N, bk := D.nx } σ2 H2)
theorem w_forL (h : tl σ H fun x H1 => rForL K g tb D σ x H1) : tFor (iList K tl) g tb D σ H := h
def rForT (K : PySem.W.Frag) (g : TG) (tb : TS) (D : Ends) (σ : L2.St) (x : V) (H1 : Hp) : Prop := ∃ a, x = .ref a ∧ (∃ xs, SqT K H1 a xs) ∧ ∃ W : Nat → Nat → L2.St → Hp → Prop, (∃ m, W 0 m σ H1) ∧ ∀ i m σ H, W i m σ H →
  ((Itt K a).stop i H ∧ D.nx σ H) ∨ ((Itt K a).go i H ∧ ∃ N : L2.St → Hp → Prop, (∀ σ' H', N σ' H' → ∃ m', m' < m ∧ W (i + 1) m' σ' H') ∧ ∀ x H', (Itt K a).yld i H x H' → g x σ H' fun σ2 H2 => tb { D with nx := N, ct := N, bk := D.nx } σ2 H2)
theorem w_forT (h : tl σ H fun x H1 => rForT K g tb D σ x H1) : tFor (iTup K tl) g tb D σ H := h
def rForR (g : TG) (tb : TS) (D : Ends) (σ : L2.St) (lo : Int) (n : Nat) (H1 : Hp) : Prop := ∃ W : Nat → Nat → L2.St → Hp → Prop, (∃ m, W 0 m σ H1) ∧ ∀ i m σ H, W i m σ H →
  ((Itr lo n).stop i H ∧ D.nx σ H) ∨ ((Itr lo n).go i H ∧ ∃ N : L2.St → Hp → Prop, (∀ σ' H', N σ' H' → ∃ m', m' < m ∧ W (i + 1) m' σ' H') ∧ ∀ x H', (Itr lo n).yld i H x H' → g x σ H' fun σ2 H2 => tb { D with nx := N, ct := N, bk := D.nx } σ2 H2)
def rForR1 (g : TG) (tb : TS) (D : Ends) (σ : L2.St) (vs : List V) (H1 : Hp) : Prop := ∃ j : Int, vs = [.int j] ∧ -(2 ^ 62) ≤ j ∧ j < 2 ^ 62 ∧ rForR g tb D σ 0 j.toNat H1
def rForR2 (g : TG) (tb : TS) (D : Ends) (σ : L2.St) (vs : List V) (H1 : Hp) : Prop := ∃ i j : Int, vs = [.int i, .int j] ∧ (-(2 ^ 62) ≤ i ∧ i < 2 ^ 62 ∧ -(2 ^ 62) ≤ j ∧ j < 2 ^ 62) ∧ rForR g tb D σ i (j - i).toNat H1
theorem w_forR1 (h : ta σ H fun vs H1 => rForR1 g tb D σ vs H1) : tFor (iRng1 ta) g tb D σ H := h
theorem w_forR2 (h : ta σ H fun vs H1 => rForR2 g tb D σ vs H1) : tFor (iRng2 ta) g tb D σ H := h
def rForS (g : TG) (tb : TS) (D : Ends) (σ : L2.St) (v : V) (H1 : Hp) : Prop := ∃ x, v = .str x ∧ ∃ W : Nat → Nat → L2.St → Hp → Prop, (∃ m, W 0 m σ H1) ∧ ∀ i m σ H, W i m σ H →
  ((Its x).stop i H ∧ D.nx σ H) ∨ ((Its x).go i H ∧ ∃ N : L2.St → Hp → Prop, (∀ σ' H', N σ' H' → ∃ m', m' < m ∧ W (i + 1) m' σ' H') ∧ ∀ x' H', (Its x).yld i H x' H' → g x' σ H' fun σ2 H2 => tb { D with nx := N, ct := N, bk := D.nx } σ2 H2)
theorem w_forS (h : te σ H fun v H1 => rForS g tb D σ v H1) : tFor (iStr te) g tb D σ H := h
/-- a list walked: at each turn an item by its data -/
theorem forL_by (Pv : Nat → L2.St → Hp → Prop) (src : Dp K H x (.list ds)) (h0 : Pv 0 σ H) (hk : ∀ i σ' H', i ≤ ds.length → Pv i σ' H' → Keep H H')
    (hs : ∀ i d y σ' H', ds[i]? = some d → Dp K H' y d → Pv i σ' H' → g y σ' H' fun σ2 H2 => tb { D with nx := Pv (i + 1), ct := Pv (i + 1), bk := D.nx } σ2 H2) (hd : ∀ σ' H', Pv ds.length σ' H' → D.nx σ' H') : rForL K g tb D σ x H := by
  obtain ⟨a, xs, rfl, hq, ha⟩ := dp_lst src
  have hl := dpa_len ha
  refine ⟨a, rfl, ⟨xs, hq⟩, for_list (xs := xs) Pv h0 (fun i σ' H' hi p => (hk i σ' H' (by omega) p).seqL hq) (fun i y σ' H' hi p => ?_) (fun σ' H' p => hd σ' H' (by rw [← hl]; exact p))⟩
  obtain ⟨d, e1, e2⟩ := dpa_get2 ha hi
  exact hs i d y σ' H' e1 (dp_keep (hk i σ' H' (by have := (List.getElem?_eq_some_iff.mp e1).1; omega) p) e2) p
theorem forT_by (Pv : Nat → L2.St → Hp → Prop) (src : Dp K H x (.tuple ds)) (h0 : Pv 0 σ H) (hk : ∀ i σ' H', i ≤ ds.length → Pv i σ' H' → Keep H H')
    (hs : ∀ i d y σ' H', ds[i]? = some d → Dp K H' y d → Pv i σ' H' → g y σ' H' fun σ2 H2 => tb { D with nx := Pv (i + 1), ct := Pv (i + 1), bk := D.nx } σ2 H2) (hd : ∀ σ' H', Pv ds.length σ' H' → D.nx σ' H') : rForT K g tb D σ x H := by
  obtain ⟨a, xs, rfl, hq, ha⟩ := dp_tup src
  have hl := dpa_len ha
  refine ⟨a, rfl, ⟨xs, hq⟩, for_tup (xs := xs) Pv h0 (fun i σ' H' hi p => (hk i σ' H' (by omega) p).seqT hq) (fun i y σ' H' hi p => ?_) (fun σ' H' p => hd σ' H' (by rw [← hl]; exact p))⟩
  obtain ⟨d, e1, e2⟩ := dpa_get2 ha hi
  exact hs i d y σ' H' e1 (dp_keep (hk i σ' H' (by have := (List.getElem?_eq_some_iff.mp e1).1; omega) p) e2) p
theorem forR1_by {k : Int} (Pv : Nat → L2.St → Hp → Prop) (hz : -(2 ^ 62) ≤ k ∧ k < 2 ^ 62) (h0 : Pv 0 σ H)
    (hs : ∀ (i : Nat) σ' H', (i : Int) < k → Pv i σ' H' → g (.int (i : Int)) σ' H' fun σ2 H2 => tb { D with nx := Pv (i + 1), ct := Pv (i + 1), bk := D.nx } σ2 H2) (hd : ∀ σ' H', Pv k.toNat σ' H' → D.nx σ' H') : rForR1 g tb D σ [.int k] H :=
  ⟨k, rfl, hz.1, hz.2, for_range (lo := 0) (n := k.toNat) Pv h0 (fun i σ' H' hi p => by rw [Int.zero_add]; exact hs i σ' H' (by omega) p) hd⟩
theorem forR2_by {lo k : Int} (Pv : Nat → L2.St → Hp → Prop) (hz : -(2 ^ 62) ≤ lo ∧ lo < 2 ^ 62 ∧ -(2 ^ 62) ≤ k ∧ k < 2 ^ 62) (h0 : Pv 0 σ H)
    (hs : ∀ (i : Nat) σ' H', lo + (i : Int) < k → Pv i σ' H' → g (.int (lo + (i : Int))) σ' H' fun σ2 H2 => tb { D with nx := Pv (i + 1), ct := Pv (i + 1), bk := D.nx } σ2 H2) (hd : ∀ σ' H', Pv (k - lo).toNat σ' H' → D.nx σ' H') : rForR2 g tb D σ [.int lo, .int k] H :=
  ⟨lo, k, rfl, hz, for_range (lo := lo) (n := (k - lo).toNat) Pv h0 (fun i σ' H' hi p => hs i σ' H' (by omega) p) hd⟩
theorem forS_by {s : Str} (Pv : Nat → L2.St → Hp → Prop) (h0 : Pv 0 σ H)
    (hs : ∀ (i : Nat) c σ' H', s.cps.toList[i]? = some c → Pv i σ' H' → g (.str ⟨#[c]⟩) σ' H' fun σ2 H2 => tb { D with nx := Pv (i + 1), ct := Pv (i + 1), bk := D.nx } σ2 H2) (hd : ∀ σ' H', Pv s.length σ' H' → D.nx σ' H') : rForS g tb D σ (.str s) H := by
  refine ⟨s, rfl, fun i m σ H => m = s.length - i ∧ i ≤ s.length ∧ Pv i σ H, ⟨s.length, by simp, Nat.zero_le _, h0⟩, ?_⟩
  rintro i m σ H ⟨rfl, hi, p⟩
  by_cases hlt : i < s.length
  · refine .inr ⟨hlt, Pv (i + 1), fun σ' H' p' => ⟨s.length - (i + 1), by omega, rfl, hlt, p'⟩, fun x H' y => ?_⟩
    obtain ⟨e, c, hc, rfl⟩ := y
    subst e
    exact hs i c σ _ (by simpa using hc) p
  · have e : i = s.length := by omega
    subst e
    exact .inl ⟨Nat.le_refl _, hd σ H p⟩
theorem w_gName {j : Nat} {Q : L2.St → Hp → Prop} (q : Q (σ.set j (some v)) H) : gName j v σ H Q := q
theorem w_pw {P : Prop} (h : P) : P := h
end
end Tw
namespace Tw
open PySem PySem.Spec PyProof.Rows L2
/-! ### data without bools and dicts: == is equality -/
def pln : Nat → PyData → Bool
  | _, .none => true
  | _, .int _ => true
  | _, .str x => PyData.strOk x
  | k + 1, .list ds => ds.all (pln k)
  | k + 1, .tuple ds => ds.all (pln k)
  | _, _ => false
theorem pln_shape : ∀ (k : Nat) (d : PyData), pln k d = true → d.canLay0 = true ∧ d.depth ≤ k := by
  intro k
  induction k with
  | zero =>
    intro d h
    cases d <;> simp [pln] at h <;> simp [PyData.canLay0, PyData.depth, h]
  | succ k ih =>
    have all : ∀ ds : List PyData, ds.all (pln k) = true → PyData.canLayAll0 ds = true ∧ PyData.depthAll ds ≤ k := by
      intro ds
      induction ds with
      | nil => intro _; exact ⟨rfl, Nat.zero_le _⟩
      | cons d ds ihd =>
        intro h
        rw [List.all_cons, Bool.and_eq_true] at h
        obtain ⟨a, b⟩ := ih d h.1
        obtain ⟨a', b'⟩ := ihd h.2
        exact ⟨by simp [PyData.canLayAll0, a, a'], by simp only [PyData.depthAll]; omega⟩
    intro d h
    cases d with
    | list ds =>
      obtain ⟨a, b⟩ := all ds (by simpa [pln] using h)
      exact ⟨by simpa [PyData.canLay0] using a, by simp only [PyData.depth]; omega⟩
    | tuple ds =>
      obtain ⟨a, b⟩ := all ds (by simpa [pln] using h)
      exact ⟨by simpa [PyData.canLay0] using a, by simp only [PyData.depth]; omega⟩
    | none => simp [PyData.canLay0, PyData.depth]
    | int i => simp [PyData.canLay0, PyData.depth]
    | str x => simp [pln] at h; simp [PyData.canLay0, PyData.depth, h]
    | bool b => simp [pln] at h
    | dict kvs => simp [pln] at h
theorem pln_shaped {k : Nat} {d : PyData} (h : pln k d = true) (hk : k ≤ 64) : SeqAt.shaped d = true := by
  obtain ⟨a, b⟩ := pln_shape k d h
  unfold SeqAt.shaped
  rw [a, Bool.true_and, decide_eq_true]
  omega
theorem pln_eqv : ∀ (k l : Nat) (d e : PyData), pln k d = true → pln l e = true → (PyData.eqv d e = true ↔ d = e) := by
  intro k
  induction k with
  | zero =>
    intro l d e h1 h2
    cases d <;> simp [pln] at h1 <;> cases e <;> simp [PyData.eqv] <;> cases l <;> simp [pln] at h2
  | succ k ih =>
    have all : ∀ (l : Nat) (ds es : List PyData), ds.all (pln k) = true → es.all (pln l) = true → (PyData.eqvAll ds es = true ↔ ds = es) := by
      intro l ds
      induction ds with
      | nil => intro es _ _; cases es <;> simp [PyData.eqvAll]
      | cons d ds ihd =>
        intro es h1 h2
        cases es with
        | nil => simp [PyData.eqvAll]
        | cons e es =>
          rw [List.all_cons, Bool.and_eq_true] at h1 h2
          simp only [PyData.eqvAll, Bool.and_eq_true, List.cons.injEq]
          rw [ih l d e h1.1 h2.1, ihd es h1.2 h2.2]
    intro l d e h1 h2
    cases d with
    | list ds =>
      cases e with
      | list es =>
        cases l with
        | zero => simp [pln] at h2
        | succ l =>
          have := all l ds es (by simpa [pln] using h1) (by simpa [pln] using h2)
          simpa [PyData.eqv] using this
      | _ => simp [PyData.eqv]
    | tuple ds =>
      cases e with
      | tuple es =>
        cases l with
        | zero => simp [pln] at h2
        | succ l =>
          have := all l ds es (by simpa [pln] using h1) (by simpa [pln] using h2)
          simpa [PyData.eqv] using this
      | _ => simp [PyData.eqv]
    | none => cases e <;> simp [PyData.eqv]
    | int i => cases e <;> simp [PyData.eqv] <;> (cases l <;> simp [pln] at h2)
    | str x => cases e <;> simp [PyData.eqv]
    | bool b => simp [pln] at h1
    | dict kvs => simp [pln] at h1
theorem pln_ints {k : Nat} (ns : List Int) : pln (k + 1) (.list (ns.map PyData.int)) = true := by
  cases k <;> simp [pln, List.all_eq_true]
theorem pln_intsT {k : Nat} (ns : List Int) : pln (k + 1) (.tuple (ns.map PyData.int)) = true := by
  cases k <;> simp [pln, List.all_eq_true]
section
variable {K : PySem.W.Frag} {H : Hp} {Q : VK} {x y : V} {d e : PyData}
theorem w_eqP (h1 : Dp K H x d) (h2 : Dp K H y e) (p1 : pln 9 d = true) (p2 : pln 9 e = true) (q1 : d = e → Q (.bl true) H) (q2 : d ≠ e → Q (.bl false) H) : rEqD K x y H Q := by
  refine ⟨d, e, h1, h2, pln_shaped p1 (by decide), pln_shaped p2 (by decide), ?_⟩
  have r := pln_eqv _ _ d e p1 p2
  cases he : PyData.eqv d e with
  | true => exact q1 (r.mp he)
  | false => exact q2 (fun z => by rw [r.mpr z] at he; cases he)
theorem w_neP (h1 : Dp K H x d) (h2 : Dp K H y e) (p1 : pln 9 d = true) (p2 : pln 9 e = true) (q1 : d = e → Q (.bl false) H) (q2 : d ≠ e → Q (.bl true) H) : rNeD K x y H Q := by
  refine ⟨d, e, h1, h2, pln_shaped p1 (by decide), pln_shaped p2 (by decide), ?_⟩
  have r := pln_eqv _ _ d e p1 p2
  cases he : PyData.eqv d e with
  | true => exact q1 (r.mp he)
  | false => exact q2 (fun z => by rw [r.mpr z] at he; cases he)
end
/-! ### a dict written out -/
def rDisp (p : Addr) (ps : List (V × V)) (H2 : Hp) (Q : VK) : Prop := H2 p = some (.dK []) ∧ ∃ kvs : List (Key × V), ps = kvs.map (fun kv => (kV kv.1, kv.2)) ∧ kvs.length ≤ 15 ∧ Q (.ref p) (upd H2 p (.dK (mergeK [] kvs)))
theorem w_disp {σ : L2.St} {H : Hp} {Q : VK} {trs : List (TE × TE)} (h : ∀ p H0, H p = none → Same H H0 → H0 p = some (.dK []) → tPairs trs σ H0 fun ps H2 => rDisp p ps H2 Q) : tDisp trs σ H Q := fun p hp => h p _ hp (same_new hp) upd_same
theorem w_pp {σ : L2.St} {H : Hp} {Q : List (V × V) → Hp → Prop} {tk tv : TE} {r : List (TE × TE)} (h : tk σ H fun x H1 => tv σ H1 fun y H2 => tPairs r σ H2 fun ps H3 => Q ((x, y) :: ps) H3) : tPairs ((tk, tv) :: r) σ H Q := h
theorem w_pp0 {σ : L2.St} {H : Hp} {Q : List (V × V) → Hp → Prop} (h : Q [] H) : tPairs [] σ H Q := h
theorem pg_tupK {X : Cx} {K : PySem.W.Frag} {es : List Expr} {k : Nat} {t : TGs} {n : Nat} {pos : Pos} (hc : X.calm = true) (hh : PGs X es t) (h : X.K = K := by rfl)
    (hn : (assignEach es X.env).length = n := by rfl) (hst : (assignEach es X.env).findIdx? (·.1) = none := by rfl) : PG X (.Tuple es k pos) (gTup K n t) := h ▸ pg_tup hc hh hn hst
end Tw
namespace Tw
open PySem PySem.Spec PyProof.Rows L2
/-! ### the law's own drawing: its dict -/
def moKvs (left seed : Int) (c : Addr) (spot : Int) : List (Key × V) := [(.inr "left", .int left), (.inr "seed", .int seed), (.inr "cells", .ref c), (.inr "spot", .int spot)]
theorem mo_len {l s : Int} {c : Addr} {p : Int} : (moKvs l s c p).length < sizeLine := by show 4 < sizeLine; decide
/-- a number of the script, or a little more -/
structure Big (n : Int) : Prop where
  lt : n.natAbs < 2 ^ 1048600
theorem Big.mul {i j : Int} (h : Big i) (hb : -(2 ^ 250) < j ∧ j < 2 ^ 250) : CMulX i j := mulx_ok (a := 1048600) (b := 250) h.lt (by omega) (by decide)
theorem Big.bits {n : Int} (h : Builtin.Int.intBits n ≤ 1048576) : Big n := by
  have h1 : n.natAbs < 2 ^ Builtin.Int.intBits n := by
    by_cases h0 : n = 0
    · subst h0; decide
    · unfold Builtin.Int.intBits
      rw [if_neg (by simpa using h0)]
      exact Nat.lt_log2_self
  exact ⟨Nat.lt_of_lt_of_le h1 (Nat.pow_le_pow_right (by decide) (by omega))⟩
theorem Big.small {n : Int} (h : -(2 ^ 250) < n ∧ n < 2 ^ 250) : Big n := by
  exact ⟨Nat.lt_of_lt_of_le (show n.natAbs < 2 ^ 250 by omega) (Nat.pow_le_pow_right (by decide) (by decide))⟩
/-- the dict of the law's draws, at most b of which were made; its cells at c -/
def Mo (H : Hp) (m c : Addr) (b : Nat) : Prop := ∃ (left seed spot : Int) (ns : List Int),
  H m = some (.dK (moKvs left seed c spot)) ∧ H c = some (.lst (ns.map V.int)) ∧ 0 < ns.length ∧ ns.length ≤ 100 ∧ (∀ n ∈ ns, Big n) ∧ 0 ≤ seed ∧ seed < 2147483647 ∧ 0 ≤ spot ∧ spot ≤ b
theorem k_left_seed : ¬ Str.ofString "left" = Str.ofString "seed" := by decide +kernel
theorem k_left_cells : ¬ Str.ofString "left" = Str.ofString "cells" := by decide +kernel
theorem k_left_spot : ¬ Str.ofString "left" = Str.ofString "spot" := by decide +kernel
theorem k_seed_cells : ¬ Str.ofString "seed" = Str.ofString "cells" := by decide +kernel
theorem k_seed_spot : ¬ Str.ofString "seed" = Str.ofString "spot" := by decide +kernel
theorem k_cells_spot : ¬ Str.ofString "cells" = Str.ofString "spot" := by decide +kernel
theorem mo_left {l s : Int} {c : Addr} {p : Int} : valV (moKvs l s c p) (.inr "left") = some (.int l) := by simp [valV, moKvs]
theorem mo_seed {l s : Int} {c : Addr} {p : Int} : valV (moKvs l s c p) (.inr "seed") = some (.int s) := by simp [valV, moKvs, k_left_seed]
theorem mo_cells {l s : Int} {c : Addr} {p : Int} : valV (moKvs l s c p) (.inr "cells") = some (.ref c) := by simp [valV, moKvs, k_left_cells, k_seed_cells]
theorem mo_spot {l s : Int} {c : Addr} {p : Int} : valV (moKvs l s c p) (.inr "spot") = some (.int p) := by simp [valV, moKvs, k_left_spot, k_seed_spot, k_cells_spot]
theorem mo_put_left {l s : Int} {c : Addr} {p z : Int} : putK (moKvs l s c p) (.inr "left") (.int z) = moKvs z s c p := by
  simp [putK, moKvs, k_left_seed, k_left_cells, k_left_spot, Ne.symm k_left_seed, Ne.symm k_left_cells, Ne.symm k_left_spot]
theorem mo_put_spot {l s : Int} {c : Addr} {p z : Int} : putK (moKvs l s c p) (.inr "spot") (.int z) = moKvs l s c z := by
  simp [putK, moKvs, k_left_spot, k_seed_spot, k_cells_spot]
theorem Mo.mono {H : Hp} {m c : Addr} {a b : Nat} (h : Mo H m c a) (l : a ≤ b) : Mo H m c b := by
  obtain ⟨left, seed, spot, ns, h1, h2, h3, h4, h5, h6, h7, h8, h9⟩ := h
  exact ⟨left, seed, spot, ns, h1, h2, h3, h4, h5, h6, h7, h8, by omega⟩
theorem Mo.same {H H' : Hp} {m c : Addr} {a : Nat} (e : Same H H') (h : Mo H m c a) : Mo H' m c a := by
  obtain ⟨left, seed, spot, ns, h1, h2, h⟩ := h
  exact ⟨left, seed, spot, ns, e _ _ h1, e _ _ h2, h⟩
theorem Mo.ne {H : Hp} {m c : Addr} {a : Nat} {D : Addr} (h : Mo H m c a) (hD : H D = none) : c ≠ D := by
  obtain ⟨left, seed, spot, ns, h1, h2, h⟩ := h
  exact ne_of_none h2 hD
theorem Mo.upd {H : Hp} {m c : Addr} {a : Nat} {D : Addr} {o : HO} {xs : List V} (h : Mo H m c a) (hD : H D = some (.lst xs)) (n : c ≠ D) : Mo (upd H D o) m c a := by
  obtain ⟨left, seed, spot, ns, h1, h2, h⟩ := h
  refine ⟨left, seed, spot, ns, ?_, ?_, h⟩
  · rw [upd_ne (ne_of h1 hD (fun z => nomatch z))]; exact h1
  · rw [upd_ne n]; exact h2
theorem Mo.new {H : Hp} {m c : Addr} {a : Nat} {D : Addr} {o : HO} (h : Mo H m c a) (hD : H D = none) : Mo (L2.upd H D o) m c a := h.same (same_new hD)
/-! ### data without lists -/
mutual
def noL : PyData → Bool
  | .list _ => false
  | .dict _ => false
  | .tuple ds => noLs ds
  | .none => true
  | .bool _ => true
  | .int _ => true
  | .str _ => true
def noLs : List PyData → Bool
  | [] => true
  | d :: ds => noL d && noLs ds
end
mutual
theorem dp_upd {K : PySem.W.Frag} {H : Hp} {D : Addr} {o : HO} {xs0 : List V} (hD : H D = some (.lst xs0)) : ∀ (d : PyData) (v : V), noL d = true → Dp K H v d → Dp K (upd H D o) v d
  | .none, _, _, h => by cases h; exact .non
  | .bool b, _, _, h => by cases h; exact .bl b
  | .int i, _, _, h => by cases h; exact .int i
  | .str x, _, _, h => by cases h; exact .str x
  | .list ds, _, n, h => by simp [noL] at n
  | .tuple ds, _, n, h => by
    cases h with
    | tup hs ha =>
      refine .tup ?_ (dpa_upd hD ds _ (by simpa [noL] using n) ha)
      rcases hs with (hs | ⟨ob, hs⟩) | hs
      · exact .inl (.inl (by rw [upd_ne (ne_of hs hD (fun z => nomatch z))]; exact hs))
      · exact .inl (.inr ⟨ob, by rw [upd_ne (ne_of hs hD (fun z => nomatch z))]; exact hs⟩)
      · exact .inr hs
  | .dict _, _, n, h => by cases h
theorem dpa_upd {K : PySem.W.Frag} {H : Hp} {D : Addr} {o : HO} {xs0 : List V} (hD : H D = some (.lst xs0)) : ∀ (ds : List PyData) (vs : List V), noLs ds = true → DpAll K H vs ds → DpAll K (upd H D o) vs ds
  | [], _, _, h => by cases h; exact .nil
  | d :: ds, _, n, h => by
    simp only [noLs, Bool.and_eq_true] at n
    cases h with
    | cons h1 h2 => exact .cons (dp_upd hD d _ n.1 h1) (dpa_upd hD ds _ n.2 h2)
end
theorem noLs_app : ∀ {ds es : List PyData}, noLs ds = true → noLs es = true → noLs (ds ++ es) = true
  | [], _, _, h => h
  | d :: ds, es, n, h => by
    simp only [noLs, Bool.and_eq_true] at n
    simp only [List.cons_append, noLs, Bool.and_eq_true]
    exact ⟨n.1, noLs_app n.2 h⟩
theorem noLs_one {d : PyData} (h : noL d = true) : noLs [d] = true := by simp [noLs, h]

/-! ### comprehensions -/
section
variable {K : PySem.W.Frag} {σ : L2.St} {H H1 : Hp} {Q : VK} {x : V} {ds : List PyData} {j : Nat} {vs : List Nat} {tt : TT} {te tl : TE} {ta : TA}
/-- what holds between two turns of a comprehension: i turns, the data made so far, the heap -/
structure LcJ (H1 : Hp) (J : Nat → List PyData → Hp → Prop) : Prop where
  start : ∀ D, H1 D = none → J 0 [] (L2.upd H1 D (.lst []))
  keep : ∀ i es H', J i es H' → Keep H1 H'
  upd : ∀ i es H' D xs o, H1 D = none → H' D = some (.lst xs) → J i es H' → J i es (L2.upd H' D o)
def LcP (K : PySem.W.Frag) (J : Nat → List PyData → Hp → Prop) (D : Addr) (i : Nat) (H' : Hp) : Prop :=
  ∃ vs es, H' D = some (.lst vs) ∧ DpAll K H' vs es ∧ noLs es = true ∧ es.length ≤ i ∧ J i es H'
def LcTurn (K : PySem.W.Frag) (J : Nat → List PyData → Hp → Prop) (tt : TT) (te : TE) (σx : L2.St) (i : Nat) (es : List PyData) (H' : Hp) : Prop :=
  ∀ (Yes : VK) (No : Hp → Prop), (∀ z H4 e, Keep H' H4 → noL e = true → Dp K H4 z e → J (i + 1) (es ++ [e]) H4 → Yes z H4) → (∀ H3, Keep H' H3 → J (i + 1) es H3 → No H3) →
    tt σx H' fun b H3 => if b = true then te σx H3 Yes else No H3
theorem lc_turn {J : Nat → List PyData → Hp → Prop} (lj : LcJ H1 J) {D : Addr} (hD : H1 D = none) {i : Nat} (hi : i < 1000000) {H' : Hp} {σx : L2.St} (p : LcP K J D i H') (turn : ∀ es, J i es H' → LcTurn K J tt te σx i es H') :
    tt σx H' fun b H3 => if b = true then te σx H3 fun y H4 => ∃ acc, H4 D = some (.lst acc) ∧ acc.length < sizeLine ∧ LcP K J D (i + 1) (L2.upd H4 D (.lst (acc ++ [y]))) else LcP K J D (i + 1) H3 := by
  obtain ⟨vs, es, p1, p2, p3, p4, p5⟩ := p
  have hs : sizeLine = 16777216 := sizeLine_eq
  refine turn es p5 _ _ (fun z H4 e k n dz j => ?_) (fun H3 k j => ?_)
  · have l := dpa_len p2
    refine ⟨vs, k.l p1, by omega, _, es ++ [e], upd_same, ?_, noLs_app p3 (noLs_one n), by simp; omega, lj.upd _ _ _ _ vs _ hD (k.l p1) j⟩
    exact dpa_app (dpa_upd (k.l p1) _ _ p3 (dpa_keep k p2)) (dpa_one (dp_upd (k.l p1) _ _ n dz))
  · exact ⟨vs, es, k.l p1, dpa_keep k p2, p3, by omega, j⟩
def rLcL (K : PySem.W.Frag) (j : Nat) (tt : TT) (te : TE) (vs : List Nat) (σ : L2.St) (x : V) (H1 : Hp) (Q : VK) : Prop := ∃ a, x = .ref a ∧ (∃ xs, SqL K H1 a xs) ∧ ∀ D, H1 D = none → ∃ W : Nat → Nat → Hp → Prop, (∃ m, W 0 m (L2.upd H1 D (.lst []))) ∧ ∀ i m H, W i m H →
  ((Itl K a).stop i H ∧ Q (.ref D) H) ∨ ((Itl K a).go i H ∧ ∃ Nx : Hp → Prop, (∀ H', Nx H' → ∃ m', m' < m ∧ W (i + 1) m' H') ∧ ∀ x H', (Itl K a).yld i H x H' → gName j x (wipe σ vs) H' fun σ2 H2 => wipe σ2 vs = wipe σ vs ∧ tt σ2 H2 fun b H3 =>
    if b = true then te σ2 H3 fun y H4 => ∃ acc, H4 D = some (.lst acc) ∧ acc.length < sizeLine ∧ Nx (L2.upd H4 D (.lst (acc ++ [y]))) else Nx H3)
theorem w_lcL (h : tl σ H fun x H1 => rLcL K j tt te vs σ x H1 Q) : tLc (iList K tl) (gName j) tt te vs σ H Q := h
theorem lc_list_by (J : Nat → List PyData → Hp → Prop) (lj : LcJ H1 J) (src : Dp K H1 x (.list ds)) (hz : ds.length ≤ 1000000) (hw : ∀ x, wipe ((wipe σ vs).set j (some x)) vs = wipe σ vs)
    (turn : ∀ i d y H' es, ds[i]? = some d → Dp K H' y d → J i es H' → LcTurn K J tt te ((wipe σ vs).set j (some y)) i es H')
    (done : ∀ p H' vs es, H1 p = none → Keep H1 H' → H' p = some (.lst vs) → Dp K H' (.ref p) (.list es) → J ds.length es H' → Q (.ref p) H') : rLcL K j tt te vs σ x H1 Q := by
  obtain ⟨a, xs, rfl, hs, ha⟩ := dp_lst src
  have hl := dpa_len ha
  refine ⟨a, rfl, ⟨xs, hs⟩, fun D hD => lc_list (xs := xs) (LcP K J D) ⟨[], [], upd_same, .nil, rfl, Nat.le_refl _, lj.start D hD⟩ (fun i H' _ p => ?_) (fun i y H' hi p => ⟨hw y, lc_turn lj hD ?_ p fun es q => ?_⟩) fun H' p => ?_⟩
  · obtain ⟨vs, es, p1, p2, p3, p4, p5⟩ := p
    exact (lj.keep _ _ _ p5).seqL hs
  · have := (List.getElem?_eq_some_iff.mp hi).1; omega
  · obtain ⟨d, e1, e2⟩ := dpa_get2 ha hi
    exact turn i d y H' es e1 (dp_keep (lj.keep _ _ _ q) e2) q
  · obtain ⟨vs, es, p1, p2, p3, p4, p5⟩ := p
    rw [hl] at p5
    exact done D H' vs es hD (lj.keep _ _ _ p5) p1 (dp_newL p1 p2) p5
def rLcT (K : PySem.W.Frag) (j : Nat) (tt : TT) (te : TE) (vs : List Nat) (σ : L2.St) (x : V) (H1 : Hp) (Q : VK) : Prop := ∃ a, x = .ref a ∧ (∃ xs, SqT K H1 a xs) ∧ ∀ D, H1 D = none → ∃ W : Nat → Nat → Hp → Prop, (∃ m, W 0 m (L2.upd H1 D (.lst []))) ∧ ∀ i m H, W i m H →
  ((Itt K a).stop i H ∧ Q (.ref D) H) ∨ ((Itt K a).go i H ∧ ∃ Nx : Hp → Prop, (∀ H', Nx H' → ∃ m', m' < m ∧ W (i + 1) m' H') ∧ ∀ x H', (Itt K a).yld i H x H' → gName j x (wipe σ vs) H' fun σ2 H2 => wipe σ2 vs = wipe σ vs ∧ tt σ2 H2 fun b H3 =>
    if b = true then te σ2 H3 fun y H4 => ∃ acc, H4 D = some (.lst acc) ∧ acc.length < sizeLine ∧ Nx (L2.upd H4 D (.lst (acc ++ [y]))) else Nx H3)
theorem w_lcT (h : tl σ H fun x H1 => rLcT K j tt te vs σ x H1 Q) : tLc (iTup K tl) (gName j) tt te vs σ H Q := h
theorem lc_tup_by (J : Nat → List PyData → Hp → Prop) (lj : LcJ H1 J) (src : Dp K H1 x (.tuple ds)) (hz : ds.length ≤ 1000000) (hw : ∀ x, wipe ((wipe σ vs).set j (some x)) vs = wipe σ vs)
    (turn : ∀ i d y H' es, ds[i]? = some d → Dp K H' y d → J i es H' → LcTurn K J tt te ((wipe σ vs).set j (some y)) i es H')
    (done : ∀ p H' vs es, H1 p = none → Keep H1 H' → H' p = some (.lst vs) → Dp K H' (.ref p) (.list es) → J ds.length es H' → Q (.ref p) H') : rLcT K j tt te vs σ x H1 Q := by
  obtain ⟨a, xs, rfl, hs, ha⟩ := dp_tup src
  have hl := dpa_len ha
  refine ⟨a, rfl, ⟨xs, hs⟩, fun D hD => lc_tup (xs := xs) (LcP K J D) ⟨[], [], upd_same, .nil, rfl, Nat.le_refl _, lj.start D hD⟩ (fun i H' _ p => ?_) (fun i y H' hi p => ⟨hw y, lc_turn lj hD ?_ p fun es q => ?_⟩) fun H' p => ?_⟩
  · obtain ⟨vs, es, p1, p2, p3, p4, p5⟩ := p
    exact (lj.keep _ _ _ p5).seqT hs
  · have := (List.getElem?_eq_some_iff.mp hi).1; omega
  · obtain ⟨d, e1, e2⟩ := dpa_get2 ha hi
    exact turn i d y H' es e1 (dp_keep (lj.keep _ _ _ q) e2) q
  · obtain ⟨vs, es, p1, p2, p3, p4, p5⟩ := p
    rw [hl] at p5
    exact done D H' vs es hD (lj.keep _ _ _ p5) p1 (dp_newL p1 p2) p5
def rLcR (j : Nat) (tt : TT) (te : TE) (us : List Nat) (σ : L2.St) (lo : Int) (n : Nat) (H1 : Hp) (Q : VK) : Prop := ∀ D, H1 D = none → ∃ W : Nat → Nat → Hp → Prop, (∃ m, W 0 m (L2.upd H1 D (.lst []))) ∧ ∀ i m H, W i m H →
  ((Itr lo n).stop i H ∧ Q (.ref D) H) ∨ ((Itr lo n).go i H ∧ ∃ Nx : Hp → Prop, (∀ H', Nx H' → ∃ m', m' < m ∧ W (i + 1) m' H') ∧ ∀ x H', (Itr lo n).yld i H x H' → gName j x (wipe σ us) H' fun σ2 H2 => wipe σ2 us = wipe σ us ∧ tt σ2 H2 fun b H3 =>
    if b = true then te σ2 H3 fun y H4 => ∃ acc, H4 D = some (.lst acc) ∧ acc.length < sizeLine ∧ Nx (L2.upd H4 D (.lst (acc ++ [y]))) else Nx H3)
def rLcR1 (j : Nat) (tt : TT) (te : TE) (us : List Nat) (σ : L2.St) (vs : List V) (H1 : Hp) (Q : VK) : Prop := ∃ k : Int, vs = [.int k] ∧ -(2 ^ 62) ≤ k ∧ k < 2 ^ 62 ∧ rLcR j tt te us σ 0 k.toNat H1 Q
def rLcR2 (j : Nat) (tt : TT) (te : TE) (us : List Nat) (σ : L2.St) (vs : List V) (H1 : Hp) (Q : VK) : Prop := ∃ i k : Int, vs = [.int i, .int k] ∧ (-(2 ^ 62) ≤ i ∧ i < 2 ^ 62 ∧ -(2 ^ 62) ≤ k ∧ k < 2 ^ 62) ∧ rLcR j tt te us σ i (k - i).toNat H1 Q
theorem w_lcR1 (h : ta σ H fun ws H1 => rLcR1 j tt te vs σ ws H1 Q) : tLc (iRng1 ta) (gName j) tt te vs σ H Q := h
theorem w_lcR2 (h : ta σ H fun ws H1 => rLcR2 j tt te vs σ ws H1 Q) : tLc (iRng2 ta) (gName j) tt te vs σ H Q := h
theorem lc_rng_by {lo : Int} {n : Nat} (J : Nat → List PyData → Hp → Prop) (lj : LcJ H1 J) (hz : n ≤ 1000000) (hw : ∀ x, wipe ((wipe σ vs).set j (some x)) vs = wipe σ vs)
    (turn : ∀ (i : Nat) H' es, i < n → J i es H' → LcTurn K J tt te ((wipe σ vs).set j (some (.int (lo + (i : Int))))) i es H')
    (done : ∀ p H' vs es, H1 p = none → Keep H1 H' → H' p = some (.lst vs) → Dp K H' (.ref p) (.list es) → J n es H' → Q (.ref p) H') : rLcR j tt te vs σ lo n H1 Q := by
  refine fun D hD => lc_range (lo := lo) (n := n) (LcP K J D) ⟨[], [], upd_same, .nil, rfl, Nat.le_refl _, lj.start D hD⟩ (fun i H' hi p => ⟨hw _, lc_turn lj hD (by omega) p fun es q => turn i H' es hi q⟩) fun H' p => ?_
  obtain ⟨vs, es, p1, p2, p3, p4, p5⟩ := p
  exact done D H' vs es hD (lj.keep _ _ _ p5) p1 (dp_newL p1 p2) p5
theorem lc_rng1_by {k : Int} (J : Nat → List PyData → Hp → Prop) (lj : LcJ H1 J) (hz : 0 ≤ k ∧ k ≤ 1000000) (hw : ∀ x, wipe ((wipe σ vs).set j (some x)) vs = wipe σ vs)
    (turn : ∀ (i : Nat) H' es, (i : Int) < k → J i es H' → LcTurn K J tt te ((wipe σ vs).set j (some (.int (i : Int)))) i es H')
    (done : ∀ p H' vs es, H1 p = none → Keep H1 H' → H' p = some (.lst vs) → Dp K H' (.ref p) (.list es) → J k.toNat es H' → Q (.ref p) H') : rLcR1 j tt te vs σ [.int k] H1 Q := by
  refine ⟨k, rfl, by omega, by omega, lc_rng_by (K := K) J lj (by omega) hw (fun i H' es hi q => ?_) done⟩
  rw [Int.zero_add]
  exact turn i H' es (by omega) q
theorem lc_rng2_by {lo k : Int} (J : Nat → List PyData → Hp → Prop) (lj : LcJ H1 J) (hz : -1000000 ≤ lo ∧ lo ≤ 1000000 ∧ -1000000 ≤ k ∧ k ≤ 1000000 ∧ k - lo ≤ 1000000) (hw : ∀ x, wipe ((wipe σ vs).set j (some x)) vs = wipe σ vs)
    (turn : ∀ (i : Nat) H' es, lo + (i : Int) < k → J i es H' → LcTurn K J tt te ((wipe σ vs).set j (some (.int (lo + (i : Int))))) i es H')
    (done : ∀ p H' vs es, H1 p = none → Keep H1 H' → H' p = some (.lst vs) → Dp K H' (.ref p) (.list es) → J (k - lo).toNat es H' → Q (.ref p) H') : rLcR2 j tt te vs σ [.int lo, .int k] H1 Q :=
  ⟨lo, k, rfl, by omega, lc_rng_by (K := K) J lj (by omega) hw (fun i H' es hi q => turn i H' es (by omega) q) done⟩
theorem w_tYes {Q : Bool → Hp → Prop} (q : Q true H) : tYes σ H Q := q
/-- nothing but new objects: a word about the turns and the data -/
def JP (H1 : Hp) (R : Nat → List PyData → Prop) (i : Nat) (es : List PyData) (H' : Hp) : Prop := Same H1 H' ∧ R i es
theorem JP.ok {R : Nat → List PyData → Prop} (r0 : R 0 []) : LcJ H1 (JP H1 R) where
  start := fun D hD => ⟨same_new hD, r0⟩
  keep := fun _ _ _ h => Keep.of h.1
  upd := fun _ _ _ _ _ _ hD _ h => ⟨same_mut h.1 hD, h.2⟩
/-- .. and draws, at most n a turn -/
def JM (H1 : Hp) (m c : Addr) (b n : Nat) (R : Nat → List PyData → Prop) (i : Nat) (es : List PyData) (H' : Hp) : Prop := Keep H1 H' ∧ Mo H' m c (b + n * i) ∧ R i es
theorem JM.ok {m c : Addr} {b n : Nat} {R : Nat → List PyData → Prop} (hm : Mo H1 m c b) (r0 : R 0 []) : LcJ H1 (JM H1 m c b n R) where
  start := fun D hD => ⟨Keep.of (same_new hD), hm.new hD, r0⟩
  keep := fun _ _ _ h => h.1
  upd := fun _ _ _ _ _ _ hD hx h => ⟨keep_mut h.1 hD, h.2.1.upd hx (hm.ne hD), h.2.2⟩
end
end Tw
namespace Tw
open PySem PySem.Spec PyProof.Rows L2
/-! ### texts as lists of codes -/
def Sg (l : List Nat) : Str := ⟨l.toArray⟩
theorem sg_tl (l : List Nat) : (Sg l).cps.toList = l := by simp [Sg]
theorem sg_len (l : List Nat) : (Sg l).length = l.length := by simp [Sg, Str.length]
theorem sg_app (a b : List Nat) : Sg a ++ Sg b = Sg (a ++ b) := by
  show Str.append (Sg a) (Sg b) = _
  simp [Sg, Str.append]
theorem sg_inj {a b : List Nat} (h : Sg a = Sg b) : a = b := by
  have := congrArg (fun s : Str => s.cps.toList) h
  simpa [Sg] using this
theorem sg_eq {a b : List Nat} : Sg a = Sg b ↔ a = b := ⟨sg_inj, fun h => by rw [h]⟩
theorem sg_one (c : Nat) : (⟨#[c]⟩ : Str) = Sg [c] := rfl
theorem sg_of (s : Str) : ∃ l, s = Sg l := ⟨s.cps.toList, by simp [Sg]⟩
theorem sg_V {a b : List Nat} : (V.str (Sg a) = V.str (Sg b)) ↔ a = b := by
  constructor
  · intro h; exact sg_inj (V.str.inj h)
  · intro h; rw [h]
theorem sg_join (ys : List (List Nat)) : Txt.join (Sg []) (ys.map Sg) = Sg ys.flatten := by
  rw [TL.join_eq]
  induction ys with
  | nil => rfl
  | cons a r ih =>
    cases r with
    | nil => simp [Str.join]
    | cons b r =>
      show Str.append (Str.append (Sg a) (Sg [])) (Str.join (Sg []) (Sg b :: r.map Sg)) = _
      rw [show Sg b :: r.map Sg = (b :: r).map Sg from rfl, ih]
      simp [Sg, Str.append]
theorem sg_empty : Str.ofString "" = Sg [] := by decide +kernel
theorem sg_cut (l : List Nat) (lo hi : Option Int) : (⟨(cutD (Sg l).cps.toList lo hi).toArray⟩ : Str) = Sg (cutD l lo hi) := by simp [Sg]
section
variable {K : PySem.W.Frag} {H : Hp} {Q : VK} {v : V} {lo hi : Option Int}
theorem w_ixSg {l : List Nat} {n : Int} (hz : l.length ≤ 1000000) (h0 : 0 ≤ n) (h1 : n < (l.length : Int)) (q : ∀ c, l[n.toNat]? = some c → Q (.str (Sg [c])) H) : rIxS (.str (Sg l)) (.int n) H Q := by
  have hl : n.toNat < l.length := by omega
  have hs : sizeLine = 16777216 := sizeLine_eq
  exact w_ixS (j := n.toNat) (c := l[n.toNat]) (by rw [sg_len]; omega) (by omega) (by rw [sg_tl]; exact List.getElem?_eq_getElem hl) (q _ (List.getElem?_eq_getElem hl))
theorem w_ixSgLast {l : List Nat} (hz : l.length ≤ 1000000) (h1 : l ≠ []) (q : Q (.str (Sg [l.getLast h1])) H) : rIxS (.str (Sg l)) (.int (-1)) H Q := by
  have hs : sizeLine = 16777216 := sizeLine_eq
  refine ⟨Sg l, -1, l.getLast h1, rfl, rfl, by rw [sg_len]; omega, ?_, q⟩
  rw [sg_tl]
  have e : l = l.dropLast ++ [l.getLast h1] := (List.dropLast_concat_getLast h1).symm
  rw [show atI l (-1) = atI (l.dropLast ++ [l.getLast h1]) (-1) by rw [← e]]
  exact atI_last _ _
theorem w_lenSg {l : List Nat} (h : l.length ≤ 1000000) (q : Q (.int (l.length : Int)) H) : rLen K [.str (Sg l)] H Q := by
  have hs : sizeLine = 16777216 := sizeLine_eq
  refine w_lenS (by rw [sg_len]; omega) ?_
  rw [sg_len]; exact q
theorem w_addSg {a b : List Nat} (h : a.length + b.length ≤ 1000000) (q : Q (.str (Sg (a ++ b))) H) : rAddStr (.str (Sg a)) (.str (Sg b)) H Q := by
  have hs : sizeLine = 16777216 := sizeLine_eq
  refine w_addS (by rw [sg_len, sg_len]; omega) ?_
  rw [sg_app]; exact q
theorem w_slSg {l : List Nat} (h : l.length ≤ 1000000) (q : Q (.str (Sg (cutD l lo hi))) H) : rSlS (.str (Sg l)) lo hi H Q := by
  have hs : sizeLine = 16777216 := sizeLine_eq
  refine w_slS (by rw [sg_len]; omega) ?_
  rw [sg_cut]; exact q
theorem w_eqSg {a b : List Nat} (q1 : a = b → Q (.bl true) H) (q2 : a ≠ b → Q (.bl false) H) : rEq (.str (Sg a)) (.str (Sg b)) H Q := by
  refine ⟨rfl, ?_⟩
  by_cases h : a = b
  · rw [decide_eq_true (sg_V.mpr h)]; exact q1 h
  · rw [decide_eq_false (fun z => h (sg_V.mp z))]; exact q2 h
theorem w_neSg {a b : List Nat} (q1 : a = b → Q (.bl false) H) (q2 : a ≠ b → Q (.bl true) H) : rNe (.str (Sg a)) (.str (Sg b)) H Q := by
  refine ⟨rfl, ?_⟩
  by_cases h : a = b
  · rw [decide_eq_true (sg_V.mpr h)]; exact q1 h
  · rw [decide_eq_false (fun z => h (sg_V.mp z))]; exact q2 h
theorem w_joinSg {ys : List (List Nat)} (h : Dp K H v (.list (ys.map fun y => PyData.str (Sg y)))) (hz : ys.flatten.length ≤ 1000000) (q : Q (.str (Sg ys.flatten)) H) : rJoin K (.str (Sg [])) [v] H Q := by
  refine w_join (ys := ys.map Sg) (by rw [List.map_map]; exact h) ?_ (by rw [sg_join]; exact q)
  rw [List.map_map, sg_len, List.length_nil, Nat.mul_zero, Nat.add_zero]
  have e : (ys.map ((·.length) ∘ Sg)).sum = ys.flatten.length := by
    rw [List.length_flatten]
    congr 1
    first
    | done
    | (apply List.map_congr_left; intro a _; exact sg_len a)
  omega
end
section
variable {K : PySem.W.Frag} {H : Hp} {Q : VK} {v x : V} {ds : List PyData}
theorem cl_isi {X : Cx} {K : PySem.W.Frag} (h : X.K = K := by rfl) : CallR X (.builtin "isinstance") (rIsi K) := h ▸ call_isi
theorem w_isiY {t n : String} (ty : TyX K H x (.type t)) (h : kitB t n = some true) (q : Q (.bl true) H) : rIsi K [x, .ty n] H Q := ⟨x, .ty n, .type t, .type n, true, rfl, .ty n, ty, kit_ty h, q⟩
theorem w_isiN {t n : String} (ty : TyX K H x (.type t)) (h : kitB t n = some false) (q : Q (.bl false) H) : rIsi K [x, .ty n] H Q := ⟨x, .ty n, .type t, .type n, false, rfl, .ty n, ty, kit_ty h, q⟩
theorem ty_tup (h : Dp K H v (.tuple ds)) : TyX K H v (.type "tuple") := by
  obtain ⟨a, xs, rfl, hs, ha⟩ := dp_tup h
  rcases hs with (hs | ⟨o, hs⟩) | ⟨o, its, n, e, c, _⟩
  · exact .base (.tup hs)
  · exact .fTuple hs
  · exact .kTuple e c
theorem ty_lst (h : Dp K H v (.list ds)) : TyX K H v (.type "list") := by
  obtain ⟨a, xs, rfl, hs, ha⟩ := dp_lst h
  rcases hs with (hs | ⟨o, hs⟩) | ⟨o, its, n, e, c, _⟩
  · exact .base (.lst hs)
  · exact .base (.frz hs)
  · exact .kList e c
theorem ty_int {i : Int} : TyX K H (.int i) (.type "int") := .base (.int i)
theorem ty_non : TyX K H .non (.type "NoneType") := .base .non
theorem ty_bl {b : Bool} : TyX K H (.bl b) (.type "bool") := .base (.bl b)
theorem ty_str {s : Str} : TyX K H (.str s) (.type "str") := .base (.str s)
end
end Tw
namespace Tw
open PySem PySem.Spec PyProof.Rows L2
/-! ### marks counted from 1, for ever -/
def mk (l : List Nat) (k : Int) : Nat := l.getD ((k - 1) % (l.length : Int)).toNat 0
theorem mk_at {l : List Nat} {k : Int} {c : Nat} (h : l[((k - 1) % (l.length : Int)).toNat]? = some c) : c = mk l k := by
  unfold mk; rw [List.getD_eq_getElem?_getD, h]; rfl
theorem mk_per (l : List Nat) (k : Int) : mk l (k + l.length) = mk l k := by
  unfold mk
  rw [show k + (l.length : Int) - 1 = (k - 1) + l.length by omega, Int.add_emod_right]
theorem mk_last {l : List Nat} (h : l ≠ []) : mk l l.length = l.getLast h := by
  have hl : 0 < l.length := List.length_pos_iff.mpr h
  unfold mk
  rw [Int.emod_eq_of_lt (by omega) (by omega), List.getLast_eq_getElem, List.getD_eq_getElem?_getD, List.getElem?_eq_getElem (by omega)]
  simp only [Option.getD_some]
  congr 1
  omega
theorem mk_lt {l : List Nat} {k : Int} (h0 : 1 ≤ k) (h1 : k < l.length) (h : l ≠ []) : mk l k ∈ l.dropLast := by
  unfold mk
  have hl : (k - 1).toNat < l.dropLast.length := by rw [List.length_dropLast]; omega
  rw [Int.emod_eq_of_lt (by omega) (by omega), List.getD_eq_getElem?_getD, List.getElem?_eq_getElem (by omega)]
  simp only [Option.getD_some]
  rw [show l[(k - 1).toNat] = l.dropLast[(k - 1).toNat] by rw [List.getElem_dropLast]]
  exact List.getElem_mem _
theorem mk_dbl (l : List Nat) (k : Int) (h : l ≠ []) : mk (l ++ l) k = mk l k := by
  have hl : 0 < l.length := List.length_pos_iff.mpr h
  unfold mk
  rw [List.length_append]
  have e1 : (k - 1) % (l.length : Int) = ((k - 1) % ((l.length + l.length : Nat) : Int)) % (l.length : Int) := by
    rw [Int.emod_emod_of_dvd]
    exact ⟨2, by push_cast; omega⟩
  have h0 := Int.emod_nonneg (k - 1) (b := ((l.length + l.length : Nat) : Int)) (by omega)
  have h1 := Int.emod_lt_of_pos (k - 1) (b := ((l.length + l.length : Nat) : Int)) (by omega)
  generalize (k - 1) % ((l.length + l.length : Nat) : Int) = z at *
  rw [e1, List.getD_eq_getElem?_getD, List.getD_eq_getElem?_getD]
  by_cases hz : z < l.length
  · rw [List.getElem?_append_left (by omega), Int.emod_eq_of_lt h0 hz]
  · rw [List.getElem?_append_right (by omega)]
    have e2 : z % (l.length : Int) = z - l.length := by
      rw [← Int.emod_eq_of_lt (show 0 ≤ z - (l.length : Int) by omega) (show z - (l.length : Int) < l.length by omega), Int.sub_emod_right]
    rw [e2]
    congr 2
    omega
def Un (l : List Nat) (m : Int) : Option Int → Prop
  | some k => m < k ∧ mk l k ≠ mk l (k - m) ∧ ∀ j, m < j → j < k → mk l j = mk l (j - m)
  | none => ∀ j, m < j → mk l j = mk l (j - m)
theorem Un.unique {l : List Nat} {m : Int} {r r' : Option Int} (h : Un l m r) (h' : Un l m r') : r = r' := by
  cases r with
  | none =>
    cases r' with
    | none => rfl
    | some k => exact absurd (h k h'.1) h'.2.1
  | some k =>
    cases r' with
    | none => exact absurd (h' k h.1) h.2.1
    | some k' =>
      obtain ⟨a, b, c⟩ := h
      obtain ⟨a', b', c'⟩ := h'
      congr 1
      rcases Int.lt_trichotomy k k' with z | z | z
      · exact absurd (c' k a z) b
      · exact z
      · exact absurd (c k' a' z) b'
theorem scan_none {l : List Nat} {m : Int} (hl : l ≠ []) (h : ∀ j, m < j → j ≤ m + l.length → mk l j = mk l (j - m)) : Un l m none := by
  have hp : 0 < l.length := List.length_pos_iff.mpr hl
  have all : ∀ n : Nat, ∀ j, m < j → j ≤ m + n → mk l j = mk l (j - m) := by
    intro n
    induction n with
    | zero => intro j h1 h2; omega
    | succ n ih =>
      intro j h1 h2
      by_cases hj : j ≤ m + l.length
      · exact h j h1 hj
      · have := ih (j - l.length) (by omega) (by omega)
        rw [← mk_per l (j - l.length), show j - (l.length : Int) + l.length = j by omega, ← mk_per l (j - l.length - m), show j - (l.length : Int) - m + l.length = j - m by omega] at this
        exact this
  intro j h1
  exact all (j - m).toNat j h1 (by omega)
theorem Un.bound {l : List Nat} {m k : Int} (hl : l ≠ []) (h : Un l m (some k)) : k ≤ m + l.length := by
  by_cases hk : k ≤ m + l.length
  · exact hk
  · exact absurd (scan_none hl (fun j h1 h2 => h.2.2 j h1 (by omega)) k h.1) h.2.1
theorem Un.dbl {l : List Nat} {m : Int} {r : Option Int} (hl : l ≠ []) (h : Un l m r) : Un (l ++ l) m r := by
  cases r with
  | none => intro j hj; rw [mk_dbl _ _ hl, mk_dbl _ _ hl]; exact h j hj
  | some k =>
    refine ⟨h.1, ?_, fun j h1 h2 => ?_⟩
    · rw [mk_dbl _ _ hl, mk_dbl _ _ hl]; exact h.2.1
    · rw [mk_dbl _ _ hl, mk_dbl _ _ hl]; exact h.2.2 j h1 h2
/-- the numbers from one on, each unlike the last -/
inductive Chn (l : List Nat) (most : Int) : Option Int → List Int → Prop
  | no : Chn l most none []
  | stop {k : Int} : most < k → Chn l most (some k) []
  | go {k : Int} {r : Option Int} {ns : List Int} : k ≤ most → Un l k r → Chn l most r ns → Chn l most (some k) (k :: ns)
theorem Chn.unique {l : List Nat} {most : Int} {o : Option Int} {ns : List Int} (h : Chn l most o ns) : ∀ {ms : List Int}, Chn l most o ms → ns = ms := by
  induction h with
  | no => intro ms h'; cases h'; rfl
  | stop hk => intro ms h'; cases h' with
    | stop _ => rfl
    | go h1 _ _ => omega
  | go hk hu _ ih => intro ms h'; cases h' with
    | stop h1 => omega
    | go h1 h2 h3 => rw [hu.unique h2] at ih; rw [ih h3]
theorem Chn.le {l : List Nat} {most : Int} {o : Option Int} {ns : List Int} (h : Chn l most o ns) : ∀ n ∈ ns, n ≤ most := by
  induction h with
  | no => intro n hn; cases hn
  | stop _ => intro n hn; cases hn
  | go hk _ _ ih => intro n hn; rcases List.mem_cons.mp hn with rfl | hn; exact hk; exact ih n hn
theorem Chn.gt {l : List Nat} {most : Int} {o : Option Int} {ns : List Int} (h : Chn l most o ns) : ∀ k, o = some k → ∀ n ∈ ns, k ≤ n := by
  induction h with
  | no => intro k e n hn; cases hn
  | stop _ => intro k e n hn; cases hn
  | @go k r ns hk hu hc ih =>
    intro k' e n hn
    cases e
    rcases List.mem_cons.mp hn with rfl | hn
    · exact Int.le_refl _
    · cases r with
      | none => cases hc; cases hn
      | some k2 => have := ih k2 rfl n hn; have := hu.1; omega
theorem Chn.asc {l : List Nat} {most : Int} {o : Option Int} {ns : List Int} (h : Chn l most o ns) : ns.Pairwise (· < ·) := by
  induction h with
  | no => exact .nil
  | stop _ => exact .nil
  | @go k r ns hk hu hc ih =>
    refine .cons (fun n hn => ?_) ih
    cases r with
    | none => cases hc; cases hn
    | some k2 => have := hc.gt k2 rfl n hn; have := hu.1; omega
/-- a star word: its last mark alone is a star -/
def StarW (l : List Nat) : Prop := ∃ h : l ≠ [], l.getLast h = 42 ∧ ∀ c ∈ l.dropLast, c ≠ 42
theorem starW_mk {pre : List Nat} (h : ∀ c ∈ pre, c ≠ 42) : StarW (pre ++ [42]) := ⟨by simp, by simp, by simpa using h⟩
theorem Chn.star {l : List Nat} (hs : StarW l) {o : Option Int} {ns : List Int} (h : Chn l l.length o ns) : ∀ k, o = some k → 1 ≤ k → k ≤ l.length → ns.getLast? = some (l.length : Int) := by
  obtain ⟨hl, h1, h2⟩ := hs
  induction h with
  | no => intro k e; cases e
  | stop hk => intro k e _ h3; cases e; omega
  | @go k r ns hk hu hc ih =>
    intro k' e hk1 hk2
    cases e
    by_cases hkn : k = l.length
    · subst hkn
      cases r with
      | none => cases hc; rfl
      | some k2 => cases hc with
        | stop _ => rfl
        | go h3 _ _ => have := hu.1; omega
    · have bad : mk l l.length ≠ mk l (l.length - k) := by
        rw [mk_last hl, h1]
        exact (h2 _ (mk_lt (by omega) (by omega) hl)).symm
      cases r with
      | none => exact absurd (hu l.length (by omega)) bad
      | some k2 =>
        have hk3 : k2 ≤ l.length := by
          by_cases z : k2 ≤ l.length
          · exact z
          · exact absurd (hu.2.2 l.length (by omega) (by omega)) bad
        have := ih k2 rfl (by have := hu.1; omega) hk3
        rw [List.getLast?_cons, this]
        rfl
def ov : Option Int → V
  | none => .non
  | some k => .int k
end Tw
namespace Tw
open PySem PySem.Spec PyProof.Rows L2
def topS (i : Nat) : Stmt := PySem.Challenge.pw_twicedial_k57_unlike_marks_and_addresses.main.body.getD i (.Pass ⟨0, 0, 0, 0⟩)
abbrev s_next_unlike : Stmt := topS 1
abbrev N_next_unlike : List Str := ["marks", "m", "count", "k"]
theorem sc_next_unlike : FnScope N_next_unlike ["marks", "m"] (defScope s_next_unlike) := ⟨rfl, rfl, rfl, by decide +kernel, rfl, by decide +kernel, by decide +kernel⟩
abbrev s_address : Stmt := topS 2
abbrev N_address : List Str := ["marks", "numbers", "m"]
theorem sc_address : FnScope N_address ["marks"] (defScope s_address) := ⟨rfl, rfl, rfl, by decide +kernel, rfl, by decide +kernel, by decide +kernel⟩
abbrev s__law_begun : Stmt := topS 4
abbrev N__law_begun : List Str := ["script", "k", "cells", "great", "seed", "cell"]
theorem sc__law_begun : FnScope N__law_begun ["script", "k"] (defScope s__law_begun) := ⟨rfl, rfl, rfl, by decide +kernel, rfl, by decide +kernel, by decide +kernel⟩
abbrev s__law_draw : Stmt := topS 5
abbrev N__law_draw : List Str := ["m", "below", "found", "spot", "cells", "extra", "cell", "blend"]
theorem sc__law_draw : FnScope N__law_draw ["m", "below"] (defScope s__law_draw) := ⟨rfl, rfl, rfl, by decide +kernel, rfl, by decide +kernel, by decide +kernel⟩
abbrev s__law_of : Stmt := topS 6
abbrev N__law_of : List Str := ["m", "some"]
theorem sc__law_of : FnScope N__law_of ["m", "some"] (defScope s__law_of) := ⟨rfl, rfl, rfl, by decide +kernel, rfl, by decide +kernel, by decide +kernel⟩
abbrev s__law_string : Stmt := topS 7
abbrev N__law_string : List Str := ["m", "size", "k"]
theorem sc__law_string : FnScope N__law_string ["m", "size"] (defScope s__law_string) := ⟨rfl, rfl, rfl, by decide +kernel, rfl, by decide +kernel, by decide +kernel⟩
abbrev s__law_mark_at : Stmt := topS 8
abbrev N__law_mark_at : List Str := ["marks", "k"]
theorem sc__law_mark_at : FnScope N__law_mark_at ["marks", "k"] (defScope s__law_mark_at) := ⟨rfl, rfl, rfl, by decide +kernel, rfl, by decide +kernel, by decide +kernel⟩
abbrev s__law_unlike : Stmt := topS 9
abbrev N__law_unlike : List Str := ["marks", "m", "k"]
theorem sc__law_unlike : FnScope N__law_unlike ["marks", "m"] (defScope s__law_unlike) := ⟨rfl, rfl, rfl, by decide +kernel, rfl, by decide +kernel, by decide +kernel⟩
abbrev s__law_chain : Stmt := topS 10
abbrev N__law_chain : List Str := ["marks", "begin", "most", "found", "number", "k"]
theorem sc__law_chain : FnScope N__law_chain ["marks", "begin", "most"] (defScope s__law_chain) := ⟨rfl, rfl, rfl, by decide +kernel, rfl, by decide +kernel, by decide +kernel⟩
abbrev s__law_address : Stmt := topS 11
abbrev N__law_address : List Str := ["marks"]
theorem sc__law_address : FnScope N__law_address ["marks"] (defScope s__law_address) := ⟨rfl, rfl, rfl, by decide +kernel, rfl, by decide +kernel, by decide +kernel⟩
abbrev s__law_word : Stmt := topS 12
abbrev N__law_word : List Str := ["m", "most", "size"]
theorem sc__law_word : FnScope N__law_word ["m", "most"] (defScope s__law_word) := ⟨rfl, rfl, rfl, by decide +kernel, rfl, by decide +kernel, by decide +kernel⟩
abbrev s__law_marks : Stmt := topS 13
abbrev N__law_marks : List Str := ["m", "size", "signs", "k"]
theorem sc__law_marks : FnScope N__law_marks ["m"] (defScope s__law_marks) := ⟨rfl, rfl, rfl, by decide +kernel, rfl, by decide +kernel, by decide +kernel⟩
abbrev s__law_is_right : Stmt := topS 14
abbrev N__law_is_right : List Str := ["marks", "m", "told", "again", "k"]
theorem sc__law_is_right : FnScope N__law_is_right ["marks", "m"] (defScope s__law_is_right) := ⟨rfl, rfl, rfl, by decide +kernel, rfl, by decide +kernel, by decide +kernel⟩
abbrev s_law : Stmt := topS 15
abbrev N_law : List Str := ["script", "k", "m", "marks", "turn", "told", "word", "spot"]
theorem sc_law : FnScope N_law ["script"] (defScope s_law) := ⟨rfl, rfl, rfl, by decide +kernel, rfl, by decide +kernel, by decide +kernel⟩
structure Top (K : PySem.W.Frag) (mg : Str → Option Value) where
  f_next_unlike : Addr
  fd_next_unlike : FuncData
  F_next_unlike : Fun K "next_unlike" "next_unlike" s_next_unlike f_next_unlike fd_next_unlike
  b_next_unlike : Binds K fd_next_unlike ["marks", "m"] []
  g_next_unlike : mg "next_unlike" = some (.ref f_next_unlike)
  f_address : Addr
  fd_address : FuncData
  F_address : Fun K "address" "address" s_address f_address fd_address
  b_address : Binds K fd_address ["marks"] []
  g_address : mg "address" = some (.ref f_address)
  f__law_begun : Addr
  fd__law_begun : FuncData
  F__law_begun : Fun K "_law_begun" "_law_begun" s__law_begun f__law_begun fd__law_begun
  b__law_begun : Binds K fd__law_begun ["script", "k"] []
  g__law_begun : mg "_law_begun" = some (.ref f__law_begun)
  f__law_draw : Addr
  fd__law_draw : FuncData
  F__law_draw : Fun K "_law_draw" "_law_draw" s__law_draw f__law_draw fd__law_draw
  b__law_draw : Binds K fd__law_draw ["m", "below"] []
  g__law_draw : mg "_law_draw" = some (.ref f__law_draw)
  f__law_of : Addr
  fd__law_of : FuncData
  F__law_of : Fun K "_law_of" "_law_of" s__law_of f__law_of fd__law_of
  b__law_of : Binds K fd__law_of ["m", "some"] []
  g__law_of : mg "_law_of" = some (.ref f__law_of)
  f__law_string : Addr
  fd__law_string : FuncData
  F__law_string : Fun K "_law_string" "_law_string" s__law_string f__law_string fd__law_string
  b__law_string : Binds K fd__law_string ["m", "size"] []
  g__law_string : mg "_law_string" = some (.ref f__law_string)
  f__law_mark_at : Addr
  fd__law_mark_at : FuncData
  F__law_mark_at : Fun K "_law_mark_at" "_law_mark_at" s__law_mark_at f__law_mark_at fd__law_mark_at
  b__law_mark_at : Binds K fd__law_mark_at ["marks", "k"] []
  g__law_mark_at : mg "_law_mark_at" = some (.ref f__law_mark_at)
  f__law_unlike : Addr
  fd__law_unlike : FuncData
  F__law_unlike : Fun K "_law_unlike" "_law_unlike" s__law_unlike f__law_unlike fd__law_unlike
  b__law_unlike : Binds K fd__law_unlike ["marks", "m"] []
  g__law_unlike : mg "_law_unlike" = some (.ref f__law_unlike)
  f__law_chain : Addr
  fd__law_chain : FuncData
  F__law_chain : Fun K "_law_chain" "_law_chain" s__law_chain f__law_chain fd__law_chain
  b__law_chain : Binds K fd__law_chain ["marks", "begin", "most"] []
  g__law_chain : mg "_law_chain" = some (.ref f__law_chain)
  f__law_address : Addr
  fd__law_address : FuncData
  F__law_address : Fun K "_law_address" "_law_address" s__law_address f__law_address fd__law_address
  b__law_address : Binds K fd__law_address ["marks"] []
  g__law_address : mg "_law_address" = some (.ref f__law_address)
  f__law_word : Addr
  fd__law_word : FuncData
  F__law_word : Fun K "_law_word" "_law_word" s__law_word f__law_word fd__law_word
  b__law_word : Binds K fd__law_word ["m", "most"] []
  g__law_word : mg "_law_word" = some (.ref f__law_word)
  f__law_marks : Addr
  fd__law_marks : FuncData
  F__law_marks : Fun K "_law_marks" "_law_marks" s__law_marks f__law_marks fd__law_marks
  b__law_marks : Binds K fd__law_marks ["m"] []
  g__law_marks : mg "_law_marks" = some (.ref f__law_marks)
  f__law_is_right : Addr
  fd__law_is_right : FuncData
  F__law_is_right : Fun K "_law_is_right" "_law_is_right" s__law_is_right f__law_is_right fd__law_is_right
  b__law_is_right : Binds K fd__law_is_right ["marks", "m"] []
  g__law_is_right : mg "_law_is_right" = some (.ref f__law_is_right)
  f_law : Addr
  fd_law : FuncData
  F_law : Fun K "law" "law" s_law f_law fd_law
  b_law : Binds K fd_law ["script"] []
  g_law : mg "law" = some (.ref f_law)
  z_bool : mg "bool" = none
  z_int : mg "int" = none
  z_isinstance : mg "isinstance" = none
  z_len : mg "len" = none
  z_range : mg "range" = none
  z_str : mg "str" = none
  z_tuple : mg "tuple" = none
end Tw
namespace Tw
open PySem PySem.Spec PyProof.Rows L2
local macro_rules | `(tactic| walk_at "dp") => `(tactic| first
  | exact Dp.int _ | exact Dp.str _ | exact Dp.bl _ | exact Dp.non
  | assumption
  | ((refine' dp_same ?he ?hd); (case he => assumption); (case hd => walk_at "dp"))
  | ((refine' dp_keep ?he ?hd); (case he => assumption); (case hd => walk_at "dp")))
local macro_rules | `(tactic| walk_at "dpa") => `(tactic| first
  | exact DpAll.nil
  | assumption
  | ((refine' DpAll.cons ?ha ?hb); (case ha => walk_at "dp"); (case hb => walk_at "dpa")))
local macro_rules | `(tactic| walk_at "ty") => `(tactic| first
  | exact ty_int | exact ty_non | exact ty_bl | exact ty_str
  | ((refine' ty_tup ?hx); (case hx => walk_at "dp"))
  | ((refine' ty_lst ?hx); (case hx => walk_at "dp")))
local macro_rules | `(tactic| walk_at "c") => `(tactic| ((try dsimp only); (first
  | (with_reducible assumption) | omega | decide
  | (simp only [List.length_map]; omega)
  | exact mulS ⟨by omega, by omega⟩ ⟨by omega, by omega⟩
  | exact divS ⟨by omega, by omega⟩)))
local macro_rules | `(tactic| walk_at "e0") => `(tactic| first
  | with_reducible refine w_c ?_
  | ((with_reducible refine' w_var ?hv ?_); case hv => rfl)
  | with_reducible refine w_op ?_
  | with_reducible refine w_rI0 ?_
  | with_reducible refine w_rU ?_
  | with_reducible refine w_cons ?_
  | with_reducible refine w_nil ?_
  | with_reducible refine w_cb ?_
  | with_reducible refine w_call ?_
  | with_reducible refine w_tTest ?_
  | with_reducible refine w_bl ?_
  | with_reducible refine w_blV ?_
  | with_reducible refine w_andV ?_
  | with_reducible refine w_chain ?_
  | with_reducible refine w_orV ?_
  | with_reducible refine w_notV ?_
  | with_reducible refine w_tB ?_
  | with_reducible refine w_and ?_
  | with_reducible refine w_or ?_
  | with_reducible refine w_not ?_
  | with_reducible refine w_tI ?_
  | with_reducible refine w_un ?_
  | with_reducible refine w_int ?_
  | with_reducible refine w_tup ?_
  | with_reducible refine w_lst ?_
  | with_reducible refine w_tIsN ?_
  | with_reducible refine w_tNotN ?_
  | with_reducible refine w_slice ?_
  | with_reducible refine w_noPart ?_
  | with_reducible refine w_part ?_
  | with_reducible refine w_pint ?_
  | with_reducible refine w_isStr ?_
  | with_reducible refine w_bm ?_
  | with_reducible refine w_bm0 ?_
  | with_reducible refine w_m1 ?_
  | with_reducible refine w_tyS ?_
  | with_reducible refine w_dget ?_
  | with_reducible refine w_iteT ?_
  | with_reducible refine w_iteF ?_
  | with_reducible refine w_iteNT ?_
  | with_reducible refine w_iteNF ?_
  | with_reducible refine w_pp ?_
  | with_reducible refine w_pp0 ?_
  | with_reducible refine w_lcL ?_
  | with_reducible refine w_lcT ?_
  | with_reducible refine w_lcR1 ?_
  | with_reducible refine w_lcR2 ?_
  | with_reducible refine w_tYes ?_
  | ((with_reducible refine' w_dgS ?h ?hm ?_); (case h => assumption); (case hm => first | exact mo_left | exact mo_seed | exact mo_cells | exact mo_spot))
  | ((with_reducible refine' w_isiY ?ty ?h ?_); (case ty => walk_at "ty"); (case h => decide +kernel))
  | ((with_reducible refine' w_isiN ?ty ?h ?_); (case ty => walk_at "ty"); (case h => decide +kernel))
  | ((with_reducible refine' w_lenL ?h ?_); case h => walk_at "dp")
  | ((with_reducible refine' w_lenT ?h ?_); case h => walk_at "dp")
  | ((with_reducible refine' w_lenSg ?h ?_); case h => walk_at "c")
  | ((with_reducible refine' w_lenS ?h ?_); case h => walk_at "c")
  | ((with_reducible refine' w_addSg ?h ?_); case h => walk_at "c")
  | ((with_reducible refine' w_rI ?c ?_); case c => walk_at "c")
  | with_reducible refine w_eqI ?_
  | with_reducible refine w_neI ?_
  | ((with_reducible refine' w_rEq ?hs ?_); case hs => rfl)
  | ((with_reducible refine' w_rNe ?hs ?_); case hs => rfl))
local macro_rules | `(tactic| walk_at "e") => `(tactic| first
  | walk_at "e0"
  | ((with_reducible refine' w_rMod ?c ?_); case c => walk_at "c"))
local macro_rules | `(tactic| walk_at "p") => `(tactic| first
  | with_reducible refine w_max2 (fun _ _ => ?_)
  | with_reducible refine w_min2 (fun _ _ => ?_))
local macro_rules | `(tactic| walk_at "s0") => `(tactic| first
  | with_reducible refine w_seq ?_
  | with_reducible refine w_asg ?_
  | with_reducible refine w_ret ?_
  | with_reducible refine w_drop ?_
  | with_reducible refine w_next ?_
  | with_reducible refine w_retN ?_
  | with_reducible refine w_brk ?_
  | with_reducible refine w_cont ?_
  | with_reducible refine w_dput ?_
  | with_reducible refine w_forL ?_
  | with_reducible refine w_wb ?_
  | with_reducible refine w_forT ?_
  | with_reducible refine w_forR1 ?_
  | with_reducible refine w_forR2 ?_
  | with_reducible refine w_forS ?_
  | with_reducible refine w_gName ?_
  | with_reducible refine w_par ?_
  | with_reducible refine w_asgG ?_
  | with_reducible refine w_par3 ?_
  | with_reducible refine w_par33 ?_
  | with_reducible refine w_par2 ?_)
local macro_rules | `(tactic| walk_at "s") => `(tactic| first
  | walk_at "s0"
  | with_reducible refine w_ifS ?_)
local macro_rules | `(tactic| walk_at "w") => `(tactic| repeat first | walk_at "e" | walk_at "s")
local macro_rules | `(tactic| walk_at "w0") => `(tactic| repeat first | walk_at "e0" | walk_at "s")
local macro_rules | `(tactic| walk_at "wp") => `(tactic| repeat first | walk_at "e" | walk_at "s" | walk_at "p")
local macro_rules | `(tactic| walk_at "t") => `(tactic| first
  | ((with_reducible refine' w_newT (K := ‹PySem.W.Frag›) ?hl ?hd (fun _ _ _ _ _ => ?_)); (case hl => exact len_ok (by simp)); (case hd => walk_at "dpa"))
  | ((with_reducible refine' w_newL (K := ‹PySem.W.Frag›) ?hl ?hd (fun _ _ _ _ _ _ => ?_)); (case hl => exact len_ok (by simp)); (case hd => walk_at "dpa"))
  | ((with_reducible refine' w_gTup2 ?h (fun _ _ _ _ => ?_)); case h => walk_at "dp"))
local macro_rules | `(tactic| walk_at "wt") => `(tactic| repeat first | walk_at "e" | walk_at "s" | walk_at "p" | walk_at "t")
local macro_rules | `(tactic| walk_at "same") => `(tactic| first
  | exact Same.refl _
  | assumption
  | ((refine' Same.trans ?ha ?hb); (case hb => assumption); (case ha => walk_at "same")))
local macro_rules | `(tactic| walk_at "keep") => `(tactic| first
  | exact Keep.refl _
  | assumption
  | (refine Keep.of ?_; assumption)
  | ((refine' Keep.trans ?ha ?hb); (case hb => first | assumption | (refine Keep.of ?_; assumption)); (case ha => walk_at "keep")))
local macro_rules | `(tactic| walk_at "wi") => `(tactic| repeat first | walk_at "e" | walk_at "s0" | walk_at "p" | walk_at "t")
section
variable {P : Program} {w : World} {K : PySem.W.Frag} {mg : Str → Option Value} {base : Heap}
/-! ### next_unlike -/
def sp_next_unlike (K : PySem.W.Frag) : Sp := fun vs H Q _ => ∃ (l : List Nat) (m : Int), vs = [.str (Sg l), .int m] ∧ l ≠ [] ∧ l.length ≤ 1000 ∧ 1 ≤ m ∧ m ≤ 100000 ∧ ∀ r, Un l m r → Q (ov r) H
theorem ok_next_unlike (T : Top K mg) : FnOk P w K mg base CX0 1 T.f_next_unlike T.fd_next_unlike ["marks", "m"] (sp_next_unlike K) := by
  refine T.F_next_unlike.ok sc_next_unlike (fun vs H Q E h => ?_) (fun cdv A outer s H vs Q E hr h => ?_)
  · obtain ⟨l, m, rfl, _⟩ := h
    rfl
  · obtain ⟨l, m, rfl, hl, hz, hm0, hm1, q⟩ := h
    refine ⟨_, (pss_cons (ps_set (i := 2) sc_next_unlike.nd (by rfl) (by first | exact Or.inl rfl | exact Or.inr rfl) (pe_callB (cl_len (K := K)) (by rfl) T.z_len (by decide +kernel) (pa_cons (pv 0) pa_nil)))
      (pss_cons (ps_for PassesOwn.never (by rfl) (pi_range2 (by rfl) T.z_range (pa_cons (pe_op op_add (pv 1) pe_int) (pa_cons (pe_op op_add (pe_op op_add (pv 1) (pv 2)) pe_int) pa_nil))) (pg_name (i := 3) sc_next_unlike.nd (by rfl) (by first | exact Or.inl rfl | exact Or.inr rfl)) (pss_one (ps_if (pt_cmpR op_ne (pe_ix ix_str (pv 0) (pe_op op_modD (pe_op op_sub (pv 3) pe_int) (pv 2)) (fun _ _ => rfl)) (pe_ix ix_str (pv 0) (pe_op op_modD (pe_op op_sub (pe_op op_sub (pv 3) (pv 1)) pe_int) (pv 2)) (fun _ _ => rfl)) (nomark _)) (pss_one (ps_ret (pv 3))) pss_nil)))
      (pss_one (ps_ret pe_non)))), ?_⟩
    rw [show start N_next_unlike [.str (Sg l), .int m] = [some (.str (Sg l)), some (.int m), none, none] from rfl]
    try dsimp only [cxK]
    have hp : 0 < l.length := List.length_pos_iff.mpr hl
    walk_at "w"
    refine forR2_by (fun i σ' H' => ∃ y, σ' = [some (.str (Sg l)), some (.int m), some (.int (l.length : Int)), y] ∧ H = H' ∧ ∀ j, m < j → j ≤ m + i → mk l j = mk l (j - m)) (by omega) ⟨none, rfl, rfl, fun j h1 h2 => by omega⟩ ?_ ?_
    · rintro i σ' H' hi ⟨y, rfl, rfl, hj⟩
      walk_at "w"
      refine w_ixSg (by omega) (Int.emod_nonneg _ (by omega)) (Int.emod_lt_of_pos _ (by omega)) fun c hc => ?_
      walk_at "w"
      refine w_ixSg (by omega) (Int.emod_nonneg _ (by omega)) (Int.emod_lt_of_pos _ (by omega)) fun c2 hc2 => ?_
      have e1 := mk_at hc
      have e2 := mk_at hc2
      refine w_neSg (fun e => ?_) (fun e => ?_)
      · walk_at "w"
        refine ⟨_, rfl, rfl, fun j h1 h2 => ?_⟩
        by_cases hj2 : j ≤ m + i
        · exact hj j h1 hj2
        · have ej : j = m + 1 + i := by omega
          subst ej
          rw [← e1, ← e2]
          exact List.cons.inj e |>.1
      · walk_at "w"
        refine q (some (m + 1 + i)) ⟨by omega, ?_, fun j h1 h2 => hj j h1 (by omega)⟩
        rw [← e1, ← e2]
        exact fun z => e (by rw [z])
    · rintro σ' H' ⟨y, rfl, rfl, hj⟩
      walk_at "w"
      exact q none (scan_none hl fun j h1 h2 => hj j h1 (by omega))

/-! ### _law_begun -/
def sp__law_begun (K : PySem.W.Frag) : Sp := fun vs H Q _ => ∃ (a : Addr) (ns : List Int) (k : Int), vs = [.ref a, .int k] ∧ SqL K H a (ns.map V.int) ∧ ns.length ≤ 63 ∧ (∀ n ∈ ns, Big n) ∧ 0 ≤ k ∧ k < 1000 ∧
  ∀ (m c : Addr) H', Same H H' → H m = none → Mo H' m c 0 → Q (.ref m) H'
theorem ok__law_begun (T : Top K mg) : FnOk P w K mg base CX0 1 T.f__law_begun T.fd__law_begun ["script", "k"] (sp__law_begun K) := by
  refine T.F__law_begun.ok sc__law_begun (fun vs H Q E h => ?_) (fun cdv A outer s H vs Q E hr h => ?_)
  · obtain ⟨a, ns, k, rfl, _⟩ := h
    rfl
  · obtain ⟨a, ns, k, rfl, hS, hl, hB, hk0, hk1, q⟩ := h
    refine ⟨_, (pss_cons (ps_set (i := 2) sc__law_begun.nd (by rfl) (by first | exact Or.inl rfl | exact Or.inr rfl) (pe_op op_catL (pe_slice (sl_listK (K := K)) (pv 0) (po_some (pv 1)) po_none) (pe_slice (sl_listK (K := K)) (pv 0) po_none (po_some (pv 1)))))
      (pss_cons (ps_setLc (i := 3) (own := [("cell", 5)]) (g := gName 5) (by rfl) sc__law_begun.nd (by rfl) (by rfl) (sw_true rfl rfl rfl (by decide +kernel)) (pi_listK (K := K) (pv 2)) (blkOk_by (own := [("cell", 5)]) (N := N__law_begun) (sc := defScope s__law_begun) (by decide +kernel)) (fun _ _ _ _ _ => (pg_name (i := 5) sc__law_begun.nd (by rfl) (by first | exact Or.inl rfl | exact Or.inr rfl))) (fun _ _ _ _ _ => (pts_one (pt_cmpR op_ge (pv 5) (pe_op op_pow pe_int pe_int) (nomark _)))) (fun _ _ _ _ _ => (pv 5)))
      (pss_cons (ps_set (i := 4) sc__law_begun.nd (by rfl) (by first | exact Or.inl rfl | exact Or.inr rfl) (pe_op op_add pe_int (pv 1)))
      (pss_cons (ps_for PassesOwn.never (by rfl) (pi_listK (K := K) (pv 2)) (pg_name (i := 5) sc__law_begun.nd (by rfl) (by first | exact Or.inl rfl | exact Or.inr rfl)) (pss_one (ps_set (i := 4) sc__law_begun.nd (by rfl) (by first | exact Or.inl rfl | exact Or.inr rfl) (pe_op op_modD (pe_callTy cl_int (by rfl) T.z_int (by decide +kernel) (pa_cons (pe_op op_add (pe_op op_mulX (pv 4) pe_int) (pv 5)) pa_nil)) pe_int))))
      (pss_one (ps_ret (pe_disp (pps_cons pe_str (pe_ifExp (pt_cmpR (op_neK (K := K) hr.units) (pv 3) (pe_lst pa_nil) (nomark _)) (pe_ix (ix_listK (K := K)) (pv 3) pe_int (fun _ _ => rfl)) pe_int) (pps_cons pe_str (pv 4) (pps_cons pe_str (pe_op op_catL (pv 2) (pe_lst (pa_cons (pe_op op_add (pe_op op_mulX pe_int (pv 1)) pe_int) pa_nil))) (pps_cons pe_str pe_int pps_nil)))) (by rfl) (by rfl) (fun z => by cases z) (by decide)))))))), ?_⟩
    rw [show start N__law_begun [.ref a, .int k] = [some (.ref a), some (.int k), none, none, none, none] from rfl]
    try dsimp only [cxK]
    have hz : sizeLine = 16777216 := sizeLine_eq
    walk_at "w"
    refine w_slV hS fun p1 H1 n1 e1 f1 => ?_
    walk_at "w"
    refine w_slV (e1.seq hS) fun p2 H2 n2 e2 f2 => ?_
    rw [cutD_from _ hk0] at f1
    rw [cutD_to _ hk0] at f2
    refine w_catL (e2 _ _ f1) f2 (by simp only [List.length_drop, List.length_take, List.length_map]; omega) fun p3 H3 n3 e3 f3 => ?_
    rw [← List.map_drop, ← List.map_take, ← List.map_append] at f3
    generalize hcs : ns.drop k.toNat ++ ns.take k.toNat = cs at f3
    have hcB : ∀ n ∈ cs, Big n := fun n hn => by
      rw [← hcs] at hn
      rcases List.mem_append.mp hn with hn | hn
      · exact hB n (List.mem_of_mem_drop hn)
      · exact hB n (List.mem_of_mem_take hn)
    have hcl : cs.length ≤ 63 := by rw [← hcs]; simp only [List.length_append, List.length_drop, List.length_take]; omega
    have d3 : Dp K H3 (.ref p3) (.list (cs.map PyData.int)) := .lst (.of f3) (dpa_ints cs)
    have s3 : Same H H3 := (e1.trans e2).trans e3
    walk_at "w"
    refine lc_list_by (JP H3 fun i es => ∃ gs : List Int, es = gs.map PyData.int ∧ gs.length ≤ i) (JP.ok ⟨[], rfl, by simp⟩) d3 (by simp; omega) (fun _ => rfl) ?_ ?_
    · intro i d y H' es hd hy hJ Yes No hyes hno
      obtain ⟨hs, gs, rfl, hgl⟩ := hJ
      rw [List.getElem?_map] at hd
      obtain ⟨z, hz1, rfl⟩ := Option.map_eq_some_iff.mp hd
      cases hy
      walk_at "w"
      refine w_rI ⟨by decide, by decide, by decide⟩ ?_
      walk_at "w"
      refine w_ite (fun hb => ?_) (fun hb => ?_)
      · walk_at "w"
        exact hyes _ H' (.int z) (Keep.refl _) rfl (.int z) ⟨hs, gs ++ [z], by simp, by simp; omega⟩
      · exact hno H' (Keep.refl _) ⟨hs, gs, rfl, by omega⟩
    · intro p4 H4 vs4 es n4 k4 f4 d4 hJ
      obtain ⟨s4, gs, rfl, hgl⟩ := hJ
      rw [List.length_map] at hgl
      walk_at "w"
      refine forL_by (fun i σ' H' => ∃ (sd : Int) (y5 : Option V), σ' = [some (.ref a), some (.int k), some (.ref p3), some (.ref p4), some (.int sd), y5] ∧ H4 = H' ∧ 0 ≤ sd ∧ sd < 2147483647) (dp_same s4 d3) ⟨71 + k, none, rfl, rfl, by omega, by omega⟩ ?_ ?_ ?_
      · rintro i σ' H' _ ⟨sd, y5, rfl, rfl, _⟩
        exact Keep.refl _
      · rintro i d y σ' H' hd hy ⟨sd, y5, rfl, rfl, hsd0, hsd1⟩
        rw [List.getElem?_map] at hd
        obtain ⟨z, hz1, rfl⟩ := Option.map_eq_some_iff.mp hd
        cases hy
        walk_at "w0"
        refine w_rModB (by decide) fun r h0 h1 => ?_
        walk_at "w0"
        exact ⟨r, _, rfl, rfl, h0, h1⟩
      · rintro σ' H' ⟨sd, y5, rfl, rfl, hsd0, hsd1⟩
        walk_at "w"
        refine w_disp fun pd Hd nd ed fd => ?_
        walk_at "w"
        refine w_newL (K := K) (by decide) .nil fun p6 H6 n6 e6 f6 d6 => ?_
        have d4' : Dp K H6 (.ref p4) (.list (gs.map PyData.int)) := dp_same e6 (dp_same ed d4)
        have rest : ∀ (lv : Int) (H7 : Hp), Same H6 H7 → rNewL [V.int (53 * k + 11)] H7 fun y H2 => rCat (V.ref p3) y H2 fun y H2 =>
            tPairs [(tC (V.str (Str.ofString "spot")), tC (V.int 0))] [some (V.ref a), some (V.int k), some (V.ref p3), some (V.ref p4), some (V.int sd), y5] H2 fun ps H3 =>
              rDisp pd ((V.str (Str.ofString "left"), V.int lv) :: (V.str (Str.ofString "seed"), V.int sd) :: (V.str (Str.ofString "cells"), y) :: ps) H3 Q := by
          intro lv H7 e7
          refine w_newL (K := K) (len_ok (by simp)) (dpa_one (.int _)) fun p8 H8 n8 e8 f8 d8 => ?_
          refine w_catL (e8 _ _ (e7 _ _ (e6 _ _ (ed _ _ (s4 _ _ f3))))) f8 (by simp; omega) fun p9 H9 n9 e9 f9 => ?_
          walk_at "w"
          have fd9 : H9 pd = some (.dK []) := e9 _ _ (e8 _ _ (e7 _ _ (e6 _ _ fd)))
          refine ⟨fd9, [(.inr "left", .int lv), (.inr "seed", .int sd), (.inr "cells", .ref p9), (.inr "spot", .int 0)], rfl, by simp, ?_⟩
          have hm : mergeK [] [((.inr "left" : Key), V.int lv), (.inr "seed", .int sd), (.inr "cells", .ref p9), (.inr "spot", .int 0)] = moKvs lv sd p9 0 := by
            simp [mergeK, putK, moKvs, k_left_seed, k_left_cells, k_left_spot, k_seed_cells, k_seed_spot, k_cells_spot]
          rw [hm]
          have sall : Same H4 H9 := (((ed.trans e6).trans e7).trans e8).trans e9
          refine q pd p9 _ (same_mut ((s3.trans s4).trans sall) ((s3.trans s4).free nd)) ((s3.trans s4).free nd) ⟨lv, sd, 0, cs ++ [53 * k + 11], upd_same, ?_, by simp, by simp; omega, ?_, hsd0, hsd1, by omega, by omega⟩
          · rw [upd_ne (ne_of f9 fd9 (fun z => nomatch z)), f9]
            simp
          · intro n hn
            rcases List.mem_append.mp hn with hn | hn
            · exact hcB n hn
            · simp at hn; subst hn; exact Big.small (by omega)
        refine w_neP d4' d6 (pln_ints _) rfl (fun he => ?_) (fun he => ?_)
        · walk_at "w"
          exact rest 0 H6 (Same.refl _)
        · have hg0 : 0 < gs.length := by
            cases gs with
            | nil => exact absurd rfl he
            | cons g gs => simp
          walk_at "w"
          refine w_ixLI d4' (by decide) (by omega) fun z _ => ?_
          walk_at "w"
          exact rest z H6 (Same.refl _)

/-! ### _law_draw -/
def sp__law_draw (K : PySem.W.Frag) : Sp := fun vs H Q _ => ∃ (m c : Addr) (below : Int) (b : Nat), vs = [.ref m, .int below] ∧ 0 < below ∧ below < 2 ^ 60 ∧ Mo H m c b ∧ b < 2 ^ 50 ∧
  ∀ (r : Int) H', 0 ≤ r → r < below → Keep H H' → Mo H' m c (b + 1) → Q (.int r) H'
theorem ok__law_draw (T : Top K mg) : FnOk P w K mg base CX0 1 T.f__law_draw T.fd__law_draw ["m", "below"] (sp__law_draw K) := by
  refine T.F__law_draw.ok sc__law_draw (fun vs H Q E h => ?_) (fun cdv A outer s H vs Q E hr h => ?_)
  · obtain ⟨m, c, below, b, rfl, _⟩ := h
    rfl
  · obtain ⟨m, c, below, b, rfl, hb0, hb1, hm, hb, q⟩ := h
    refine ⟨_, (pss_cons (ps_if (pt_cmpR op_gt (pe_dget (hu_of hr) (pv 0) pe_str (fun _ _ => rfl)) pe_int (nomark _)) (pss_cons (ps_set (i := 2) sc__law_draw.nd (by rfl) (by first | exact Or.inl rfl | exact Or.inr rfl) (pe_op op_modD (pe_callTy cl_int (by rfl) T.z_int (by decide +kernel) (pa_cons (pe_dget (hu_of hr) (pv 0) pe_str (fun _ _ => rfl)) pa_nil)) (pv 1)))
      (pss_cons (ps_dput (hu_of hr) (pv 0) pe_str (pe_op op_fdivW (pe_dget (hu_of hr) (pv 0) pe_str (fun _ _ => rfl)) (pv 1)) rfl)
      (pss_one (ps_ret (pv 2))))) pss_nil)
      (pss_cons (ps_set (i := 3) sc__law_draw.nd (by rfl) (by first | exact Or.inl rfl | exact Or.inr rfl) (pe_dget (hu_of hr) (pv 0) pe_str (fun _ _ => rfl)))
      (pss_cons (ps_dput (hu_of hr) (pv 0) pe_str (pe_op op_add (pv 3) pe_int) rfl)
      (pss_cons (ps_par (i := 4) (j := 5) (by rfl) sc__law_draw.nd (by rfl) (by rfl) (by decide) (by rfl) (by rfl) (pa_cons (pe_dget (hu_of hr) (pv 0) pe_str (fun _ _ => rfl)) (pa_cons (pe_op op_add (pe_dget (hu_of hr) (pv 0) pe_str (fun _ _ => rfl)) (pe_op op_mulX (pe_op op_mulX pe_int (pv 3)) (pv 3))) pa_nil)) (by rfl))
      (pss_cons (ps_set (i := 6) sc__law_draw.nd (by rfl) (by first | exact Or.inl rfl | exact Or.inr rfl) (pe_ix (ix_listK (K := K)) (pv 4) (pe_op op_modD (pe_callTy cl_int (by rfl) T.z_int (by decide +kernel) (pa_cons (pv 3) pa_nil)) (pe_callB (cl_len (K := K)) (by rfl) T.z_len (by decide +kernel) (pa_cons (pv 4) pa_nil))) (fun _ _ => rfl)))
      (pss_cons (ps_set (i := 7) sc__law_draw.nd (by rfl) (by first | exact Or.inl rfl | exact Or.inr rfl) (pe_op op_modD (pe_callTy cl_int (by rfl) T.z_int (by decide +kernel) (pa_cons (pe_op op_add (pe_op op_mulX (pv 6) (pe_op op_add (pe_op op_mulX pe_int (pv 3)) pe_int)) (pv 5)) pa_nil)) pe_int))
      (pss_cons (ps_set (i := 7) sc__law_draw.nd (by rfl) (by first | exact Or.inl rfl | exact Or.inr rfl) (pe_op op_modD (pe_callTy cl_int (by rfl) T.z_int (by decide +kernel) (pa_cons (pe_op op_add (pe_op op_add (pe_op op_mulX (pv 7) (pv 7)) (pe_op op_mulX pe_int (pv 3))) (pe_dget (hu_of hr) (pv 0) pe_str (fun _ _ => rfl))) pa_nil)) pe_int))
      (pss_one (ps_ret (pe_op op_modD (pe_op op_fdivW (pe_op op_modD (pe_callTy cl_int (by rfl) T.z_int (by decide +kernel) (pa_cons (pe_op op_add (pe_op op_mulX (pv 7) pe_int) (pv 3)) pa_nil)) pe_int) pe_int) (pv 1))))))))))), ?_⟩
    rw [show start N__law_draw [.ref m, .int below] = [some (.ref m), some (.int below), none, none, none, none, none, none] from rfl]
    obtain ⟨left, seed, spot, ns, m1, m2, m3, m4, m5, m6, m7, m8, m9⟩ := hm
    try dsimp only [cxK]
    walk_at "w"
    refine w_iteD (fun hl => ?_) (fun hl => ?_)
    · walk_at "w"
      refine w_dpS m1 mo_put_left mo_len fun H1 e1 m1' => ?_
      walk_at "w"
      exact q _ H1 (Int.emod_nonneg _ (by omega)) (Int.emod_lt_of_pos _ hb0) e1 ⟨_, seed, spot, ns, m1', e1.l m2, m3, m4, m5, m6, m7, m8, by omega⟩
    · walk_at "w"
      refine w_dpS m1 mo_put_spot mo_len fun H1 e1 m1' => ?_
      have m2' := e1.l m2
      have dC : Dp K H1 (.ref c) (.list (ns.map PyData.int)) := .lst (.of m2') (dpa_ints ns)
      walk_at "w"
      rw [List.length_map]
      refine w_ixLI dC (Int.emod_nonneg _ (by omega)) (Int.emod_lt_of_pos _ (by omega)) fun z hz => ?_
      have hz2 := m5 z (List.mem_of_getElem? hz)
      walk_at "w"
      refine w_rI (hz2.mul (by omega)) ?_
      walk_at "w0"
      refine w_rModB (by decide) fun r1 h1 h1' => ?_
      walk_at "w0"
      refine w_rModB (by decide) fun r2 h2 h2' => ?_
      walk_at "w0"
      refine w_rModB (by decide) fun r3 h3 h3' => ?_
      walk_at "w0"
      refine w_rModB hb0 fun r4 h4 h4' => ?_
      walk_at "w0"
      exact q r4 H1 h4 h4' e1 ⟨left, seed, spot + 1, ns, m1', m2', m3, m4, m5, m6, m7, by omega, by omega⟩

/-! ### _law_mark_at -/
def sp__law_mark_at (K : PySem.W.Frag) : Sp := fun vs H Q _ => ∃ (l : List Nat) (k : Int), vs = [.str (Sg l), .int k] ∧ l ≠ [] ∧ l.length ≤ 1000 ∧ Q (.str (Sg [mk l k])) H
theorem ok__law_mark_at (T : Top K mg) : FnOk P w K mg base CX0 1 T.f__law_mark_at T.fd__law_mark_at ["marks", "k"] (sp__law_mark_at K) := by
  refine T.F__law_mark_at.ok sc__law_mark_at (fun vs H Q E h => ?_) (fun cdv A outer s H vs Q E hr h => ?_)
  · obtain ⟨l, k, rfl, _⟩ := h
    rfl
  · obtain ⟨l, k, rfl, hl, hz, q⟩ := h
    refine ⟨_, (pss_one (ps_ret (pe_ix ix_str (pv 0) (pe_op op_modD (pe_callTy cl_int (by rfl) T.z_int (by decide +kernel) (pa_cons (pe_op op_sub (pv 1) pe_int) pa_nil)) (pe_callB (cl_len (K := K)) (by rfl) T.z_len (by decide +kernel) (pa_cons (pv 0) pa_nil))) (fun _ _ => rfl)))), ?_⟩
    rw [show start N__law_mark_at [.str (Sg l), .int k] = [some (.str (Sg l)), some (.int k)] from rfl]
    try dsimp only [cxK]
    have hp : 0 < l.length := List.length_pos_iff.mpr hl
    walk_at "w"
    refine w_ixSg (by omega) (Int.emod_nonneg _ (by omega)) (Int.emod_lt_of_pos _ (by omega)) fun c hc => ?_
    rw [mk_at hc]
    exact q

/-! ### address -/
def sp_address (K : PySem.W.Frag) : Sp := fun vs H Q _ => ∃ (l : List Nat), vs = [.str (Sg l)] ∧ l ≠ [] ∧ l.length ≤ 1000 ∧ ∀ ns v H', Chn l l.length (some 1) ns → Same H H' → Dp K H' v (.tuple (ns.map PyData.int)) → Q v H'
theorem ok_address (T : Top K mg) : FnOk P w K mg base CX0 2 T.f_address T.fd_address ["marks"] (sp_address K) := by
  refine T.F_address.ok sc_address (fun vs H Q E h => ?_) (fun cdv A outer s H vs Q E hr h => ?_)
  · obtain ⟨l, rfl, _⟩ := h
    rfl
  · obtain ⟨l, rfl, hl, hz, q⟩ := h
    refine ⟨_, (pss_cons (ps_set (i := 1) sc_address.nd (by rfl) (by first | exact Or.inl rfl | exact Or.inr rfl) (pe_lst pa_nil))
      (pss_cons (ps_set (i := 2) sc_address.nd (by rfl) (by first | exact Or.inl rfl | exact Or.inr rfl) pe_int)
      (pss_cons (ps_while PassesOwn.never (PW.pt (pw_and (pt_cmpR op_notN1 (pv 2) pe_non (nomark _)) (pw_and1 (pt_cmpR op_le (pv 2) (pe_callB (cl_len (K := K)) (by rfl) T.z_len (by decide +kernel) (pa_cons (pv 0) pa_nil)) (nomark _))))) (pss_cons (ps_expr (pe_bm PySem.F.plainAttrs_list PySem.F.slot_list_append PySem.F.type_list_append mt_append (pv 1) (pa_cons (pv 2) pa_nil)))
      (pss_one (ps_set (i := 2) sc_address.nd (by rfl) (by first | exact Or.inl rfl | exact Or.inr rfl) (pe_call (ok_next_unlike T) (hr.mono (by decide)) (by rfl) T.g_next_unlike T.F_next_unlike.kp T.b_next_unlike .nil pass0 (pa_cons (pv 0) (pa_cons (pv 2) pa_nil)))))))
      (pss_one (ps_ret (pe_callTy (cl_tup (K := K)) (by rfl) T.z_tuple (by decide +kernel) (pa_cons (pv 1) pa_nil))))))), ?_⟩
    rw [show start N_address [.str (Sg l)] = [some (.str (Sg l)), none, none] from rfl]
    try dsimp only [cxK]
    have hp : 0 < l.length := List.length_pos_iff.mpr hl
    walk_at "w"
    refine w_newL (K := K) (len_ok (by simp)) .nil fun p H1 n1 e1 f1 d1 => ?_
    walk_at "w"
    refine whl_by (fun mm σ' H' => ∃ (pre : List Int) (r : Option Int), σ' = [some (.str (Sg l)), some (.ref p), some (ov r)] ∧ Same H H' ∧ H' p = some (.lst (pre.map V.int)) ∧ (∀ rest, Chn l l.length r rest → Chn l l.length (some 1) (pre ++ rest)) ∧
      (∀ k, r = some k → (pre.length : Int) < k ∧ (mm : Int) = l.length + 1000000 - k) ∧ pre.length ≤ l.length) (l.length + 999999) ⟨[], some 1, rfl, e1, by simpa using f1, fun rest h => h, fun k e => by cases e; simp; omega, by simp⟩ ?_
    rintro mm σ' H' ⟨pre, r, rfl, s1, f2, hc, hk, hpl⟩
    cases r with
    | none =>
      dsimp only [ov]
      walk_at "w"
      have e0 : (!decide (V.non = V.non)) = false := by decide
      rw [e0]
      walk_at "w"
      refine w_tupOf (dp_newL f2 (dpa_ints pre)) fun p3 H3 n3 e3 d3 => ?_
      refine q pre _ H3 ?_ (s1.trans e3) d3
      have := hc [] .no
      simpa using this
    | some k =>
      obtain ⟨hk1, hk2⟩ := hk k rfl
      dsimp only [ov]
      walk_at "w"
      have e0 : (!decide (V.int k = V.non)) = true := by simp
      rw [e0]
      walk_at "w"
      refine w_iteD (fun hle => ?_) (fun hle => ?_)
      · walk_at "w"
        refine w_tyL f2 ?_
        walk_at "w"
        refine w_append f2 (len_lt (by simp; omega)) ?_
        walk_at "w"
        refine ⟨l, k, rfl, hl, hz, by omega, by omega, fun r hu => ?_⟩
        refine ⟨match r with | some k2 => (l.length + 1000000 - k2).toNat | none => 0, ?_, pre ++ [k], r, rfl, same_mut s1 n1, ?_, fun rest h => ?_, ?_, ?_⟩
        · cases r with
          | none => show 0 < mm; omega
          | some k2 =>
            have h1 := hu.1
            have h2 := hu.bound hl
            show (l.length + 1000000 - k2).toNat < mm
            omega
        · rw [upd_same]; simp
        · have := hc (k :: rest) (.go hle hu h)
          simpa using this
        · intro k2 e
          subst e
          have h1 := hu.1
          have h2 := hu.bound hl
          simp only [List.length_append, List.length_singleton]
          constructor
          · omega
          · show (((l.length + 1000000 - k2).toNat : Nat) : Int) = _
            omega
        · simp only [List.length_append, List.length_singleton]; omega
      · walk_at "w"
        refine w_tupOf (dp_newL f2 (dpa_ints pre)) fun p3 H3 n3 e3 d3 => ?_
        refine q pre _ H3 ?_ (s1.trans e3) d3
        have := hc [] (.stop (by omega))
        simpa using this

/-! ### _law_of -/
def sp__law_of (K : PySem.W.Frag) : Sp := fun vs H Q _ => ∃ (m c : Addr) (v : V) (ds : List PyData) (b : Nat), vs = [.ref m, v] ∧ Dp K H v (.list ds) ∧ 0 < ds.length ∧ ds.length ≤ 1000 ∧ Mo H m c b ∧ b < 2 ^ 50 ∧
  ∀ y d H', d ∈ ds → Dp K H' y d → Keep H H' → Mo H' m c (b + 1) → Q y H'
theorem ok__law_of (T : Top K mg) : FnOk P w K mg base CX0 2 T.f__law_of T.fd__law_of ["m", "some"] (sp__law_of K) := by
  refine T.F__law_of.ok sc__law_of (fun vs H Q E h => ?_) (fun cdv A outer s H vs Q E hr h => ?_)
  · obtain ⟨m, c, v, ds, b, rfl, _⟩ := h
    rfl
  · obtain ⟨m, c, v, ds, b, rfl, hv, hz0, hz1, hm, hb, q⟩ := h
    refine ⟨_, (pss_one (ps_ret (pe_ix (ix_listK (K := K)) (pv 1) (pe_call (ok__law_draw T) (hr.mono (by decide)) (by rfl) T.g__law_draw T.F__law_draw.kp T.b__law_draw .nil pass0 (pa_cons (pv 0) (pa_cons (pe_callB (cl_len (K := K)) (by rfl) T.z_len (by decide +kernel) (pa_cons (pv 1) pa_nil)) pa_nil))) (fun _ _ => rfl)))), ?_⟩
    rw [show start N__law_of [.ref m, v] = [some (.ref m), some (v)] from rfl]
    try dsimp only [cxK]
    walk_at "w"
    refine ⟨m, c, _, b, rfl, by omega, by omega, hm, hb, fun r H' h0 h1 k m' => ?_⟩
    have hr : r.toNat < ds.length := by omega
    exact w_ixL (j := r.toNat) (dp_keep k hv) (by omega) (List.getElem?_eq_getElem hr) fun y hy => q y _ H' (List.getElem_mem hr) hy k m'

/-! ### _law_string -/
def sp__law_string (K : PySem.W.Frag) : Sp := fun vs H Q _ => ∃ (m c : Addr) (n : Int) (b : Nat), vs = [.ref m, .int n] ∧ 0 ≤ n ∧ n ≤ 1000 ∧ Mo H m c b ∧ b < 2 ^ 45 ∧
  ∀ (l : List Nat) H', l.length = n.toNat → (∀ x ∈ l, x = 48 ∨ x = 49) → Keep H H' → Mo H' m c (b + n.toNat) → Q (.str (Sg l)) H'
theorem ok__law_string (T : Top K mg) : FnOk P w K mg base CX0 2 T.f__law_string T.fd__law_string ["m", "size"] (sp__law_string K) := by
  refine T.F__law_string.ok sc__law_string (fun vs H Q E h => ?_) (fun cdv A outer s H vs Q E hr h => ?_)
  · obtain ⟨m, c, n, b, rfl, _⟩ := h
    rfl
  · obtain ⟨m, c, n, b, rfl, hn0, hn1, hm, hb, q⟩ := h
    refine ⟨_, (pss_one (ps_ret (pe_joinD (K := K) pe_str (pe_lc (own := [("k", 2)]) (g := gName 2) (tt := tYes) (by rfl) sc__law_string.nd (pi_range1 (by rfl) T.z_range (pa_cons (pv 1) pa_nil)) (blkOk_by (own := [("k", 2)]) (N := N__law_string) (sc := defScope s__law_string) (by decide +kernel)) (fun _ _ _ _ _ => (pg_name (i := 2) sc__law_string.nd (by rfl) (by first | exact Or.inl rfl | exact Or.inr rfl))) (fun _ _ _ _ _ => pts_nil) (fun _ _ _ _ _ => (pe_callTy cl_strI (by rfl) T.z_str (by decide +kernel) (pa_cons (pe_call (ok__law_draw T) (hr.mono (by decide)) (by rfl) T.g__law_draw T.F__law_draw.kp T.b__law_draw .nil pass0 (pa_cons (pv 0) (pa_cons pe_int pa_nil))) pa_nil))))))), ?_⟩
    rw [show start N__law_string [.ref m, .int n] = [some (.ref m), some (.int n), none] from rfl]
    rw [sg_empty]
    try dsimp only [cxK]
    walk_at "w"
    refine lc_rng1_by (K := K) (JM H m c b 1 fun i es => ∃ ys : List (List Nat), es = ys.map (fun y => PyData.str (Sg y)) ∧ ys.length = i ∧ ∀ y ∈ ys, y = [48] ∨ y = [49]) (JM.ok hm ⟨[], rfl, rfl, by simp⟩) (by omega) (fun _ => rfl) ?_ ?_
    · rintro i H' es hi ⟨k, mo, ys, rfl, hl, hy⟩ Yes No hyes hno
      walk_at "w"
      refine ⟨m, c, 2, _, rfl, by decide, by decide, mo, by omega, fun r H4 h0 h1 k4 mo4 => ?_⟩
      have hr : r = 0 ∨ r = 1 := by omega
      rcases hr with rfl | rfl
      · refine w_strI (by decide) ?_
        have e : ((toString (0 : Int) : String) : Str) = Sg [48] := by decide +kernel
        rw [e]
        exact hyes _ H4 (.str (Sg [48])) k4 rfl (.str _) ⟨k.trans k4, mo4.mono (by omega), ys ++ [[48]], by simp, by simp [hl], fun y h => (List.mem_append.mp h).elim (hy y) (fun z => by simp at z; exact .inl z)⟩
      · refine w_strI (by decide) ?_
        have e : ((toString (1 : Int) : String) : Str) = Sg [49] := by decide +kernel
        rw [e]
        exact hyes _ H4 (.str (Sg [49])) k4 rfl (.str _) ⟨k.trans k4, mo4.mono (by omega), ys ++ [[49]], by simp, by simp [hl], fun y h => (List.mem_append.mp h).elim (hy y) (fun z => by simp at z; exact .inr z)⟩
    · rintro p H' vs es hn k hv dl ⟨_, mo, ys, rfl, hl, hy⟩
      have hf : ∀ ys : List (List Nat), (∀ y ∈ ys, y = [48] ∨ y = [49]) → ys.flatten.length = ys.length ∧ ∀ x ∈ ys.flatten, x = 48 ∨ x = 49 := by
        intro ys
        induction ys with
        | nil => intro _; simp
        | cons y ys ih =>
          intro h
          obtain ⟨a, b⟩ := ih fun z hz => h z (List.mem_cons_of_mem _ hz)
          have h1 := h y List.mem_cons_self
          constructor
          · rcases h1 with rfl | rfl <;> simp [a] <;> omega
          · intro x hx
            rw [List.flatten_cons, List.mem_append] at hx
            rcases hx with hx | hx
            · rcases h1 with rfl | rfl <;> simp at hx <;> omega
            · exact b x hx
      obtain ⟨f1, f2⟩ := hf ys hy
      exact w_joinSg dl (by omega) (q _ H' (by omega) f2 k (mo.mono (by omega)))

/-! ### _law_unlike -/
def sp__law_unlike (K : PySem.W.Frag) : Sp := fun vs H Q _ => ∃ (l : List Nat) (m : Int), vs = [.str (Sg l), .int m] ∧ l ≠ [] ∧ l.length ≤ 1000 ∧ 1 ≤ m ∧ m ≤ 100000 ∧ ∀ r, Un l m r → Q (ov r) H
theorem ok__law_unlike (T : Top K mg) : FnOk P w K mg base CX0 2 T.f__law_unlike T.fd__law_unlike ["marks", "m"] (sp__law_unlike K) := by
  refine T.F__law_unlike.ok sc__law_unlike (fun vs H Q E h => ?_) (fun cdv A outer s H vs Q E hr h => ?_)
  · obtain ⟨l, m, rfl, _⟩ := h
    rfl
  · obtain ⟨l, m, rfl, hl, hz, hm0, hm1, q⟩ := h
    refine ⟨_, (pss_cons (ps_for PassesOwn.never (by rfl) (pi_range2 (by rfl) T.z_range (pa_cons (pe_op op_add (pv 1) pe_int) (pa_cons (pe_op op_add (pe_op op_add (pv 1) (pe_op op_mulX pe_int (pe_callB (cl_len (K := K)) (by rfl) T.z_len (by decide +kernel) (pa_cons (pv 0) pa_nil)))) pe_int) pa_nil))) (pg_name (i := 2) sc__law_unlike.nd (by rfl) (by first | exact Or.inl rfl | exact Or.inr rfl)) (pss_one (ps_if (pt_cmpR op_ne (pe_call (ok__law_mark_at T) (hr.mono (by decide)) (by rfl) T.g__law_mark_at T.F__law_mark_at.kp T.b__law_mark_at .nil pass0 (pa_cons (pv 0) (pa_cons (pv 2) pa_nil))) (pe_call (ok__law_mark_at T) (hr.mono (by decide)) (by rfl) T.g__law_mark_at T.F__law_mark_at.kp T.b__law_mark_at .nil pass0 (pa_cons (pv 0) (pa_cons (pe_op op_sub (pv 2) (pv 1)) pa_nil))) (nomark _)) (pss_one (ps_ret (pv 2))) pss_nil)))
      (pss_one (ps_ret pe_non))), ?_⟩
    rw [show start N__law_unlike [.str (Sg l), .int m] = [some (.str (Sg l)), some (.int m), none] from rfl]
    try dsimp only [cxK]
    have hp : 0 < l.length := List.length_pos_iff.mpr hl
    walk_at "w"
    refine forR2_by (fun i σ' H' => ∃ y, σ' = [some (.str (Sg l)), some (.int m), y] ∧ H = H' ∧ ∀ j, m < j → j ≤ m + i → mk l j = mk l (j - m)) (by omega) ⟨none, rfl, rfl, fun j h1 h2 => by omega⟩ ?_ ?_
    · rintro i σ' H' hi ⟨y, rfl, rfl, hj⟩
      walk_at "w"
      refine ⟨l, _, rfl, hl, hz, ?_⟩
      walk_at "w"
      refine ⟨l, _, rfl, hl, hz, ?_⟩
      refine w_neSg (fun e => ?_) (fun e => ?_)
      · walk_at "w"
        refine ⟨_, rfl, rfl, fun j h1 h2 => ?_⟩
        by_cases hj2 : j ≤ m + i
        · exact hj j h1 hj2
        · have ej : j = m + 1 + i := by omega
          subst ej
          exact List.cons.inj e |>.1
      · walk_at "w"
        refine q (some (m + 1 + i)) ⟨by omega, ?_, fun j h1 h2 => hj j h1 (by omega)⟩
        exact fun z => e (by rw [z])
    · rintro σ' H' ⟨y, rfl, rfl, hj⟩
      walk_at "w"
      exact q none (scan_none hl fun j h1 h2 => hj j h1 (by omega))

/-! ### _law_chain -/
def sp__law_chain (K : PySem.W.Frag) : Sp := fun vs H Q _ => ∃ (l : List Nat) (most : Int), vs = [.str (Sg l), .int 1, .int most] ∧ l ≠ [] ∧ l.length ≤ 1000 ∧ 0 ≤ most ∧ most ≤ 1000 ∧
  ∀ ns p H', Chn l most (some 1) ns → Same H H' → Dp K H' (.ref p) (.list (ns.map PyData.int)) → Q (.ref p) H'
theorem ok__law_chain (T : Top K mg) : FnOk P w K mg base CX0 3 T.f__law_chain T.fd__law_chain ["marks", "begin", "most"] (sp__law_chain K) := by
  refine T.F__law_chain.ok sc__law_chain (fun vs H Q E h => ?_) (fun cdv A outer s H vs Q E hr h => ?_)
  · obtain ⟨l, most, rfl, _⟩ := h
    rfl
  · obtain ⟨l, most, rfl, hl, hz, hm0, hm1, q⟩ := h
    refine ⟨_, (pss_cons (ps_par (i := 3) (j := 4) (by rfl) sc__law_chain.nd (by rfl) (by rfl) (by decide) (by rfl) (by rfl) (pa_cons (pe_lst pa_nil) (pa_cons (pv 1) pa_nil)) (by rfl))
      (pss_cons (ps_for PassesOwn.never (by rfl) (pi_range1 (by rfl) T.z_range (pa_cons (pe_op op_add (pv 2) pe_int) pa_nil)) (pg_name (i := 5) sc__law_chain.nd (by rfl) (by first | exact Or.inl rfl | exact Or.inr rfl)) (pss_one (ps_if (PW.pt (pw_and (pt_cmpR op_notN1 (pv 4) pe_non (nomark _)) (pw_and1 (pt_cmpR op_le (pv 4) (pv 2) (nomark _))))) (pss_cons (ps_expr (pe_bm PySem.F.plainAttrs_list PySem.F.slot_list_append PySem.F.type_list_append mt_append (pv 3) (pa_cons (pv 4) pa_nil)))
      (pss_one (ps_set (i := 4) sc__law_chain.nd (by rfl) (by first | exact Or.inl rfl | exact Or.inr rfl) (pe_call (ok__law_unlike T) (hr.mono (by decide)) (by rfl) T.g__law_unlike T.F__law_unlike.kp T.b__law_unlike .nil pass0 (pa_cons (pv 0) (pa_cons (pv 4) pa_nil)))))) pss_nil)))
      (pss_one (ps_ret (pv 3))))), ?_⟩
    rw [show start N__law_chain [.str (Sg l), .int 1, .int most] = [some (.str (Sg l)), some (.int 1), some (.int most), none, none, none] from rfl]
    try dsimp only [cxK]
    have hp : 0 < l.length := List.length_pos_iff.mpr hl
    walk_at "w"
    refine w_newL (K := K) (len_ok (by simp)) .nil fun p H1 n1 e1 f1 d1 => ?_
    walk_at "w"
    refine forR1_by (fun i σ' H' => ∃ (pre : List Int) (r : Option Int) (y : Option V), σ' = [some (.str (Sg l)), some (.int 1), some (.int most), some (.ref p), some (ov r), y] ∧ Same H H' ∧ H' p = some (.lst (pre.map V.int)) ∧
      (∀ rest, Chn l most r rest → Chn l most (some 1) (pre ++ rest)) ∧ (∀ k, r = some k → 1 ≤ k ∧ ((i : Int) < k ∨ most < k)) ∧ pre.length ≤ i) (by omega) ⟨[], some 1, none, rfl, e1, by simpa using f1, fun rest h => h, fun k e => by cases e; omega, by simp⟩ ?_ ?_
    · rintro i σ' H' hi ⟨pre, r, y, rfl, s1, f2, hc, hk, hpl⟩
      cases r with
      | none =>
        dsimp only [ov]
        walk_at "w"
        have e0 : (!decide (V.non = V.non)) = false := by decide
        rw [e0]
        walk_at "w"
        exact ⟨pre, none, _, rfl, s1, f2, hc, fun k e => (by cases e), by omega⟩
      | some k =>
        obtain ⟨hk1, hk2⟩ := hk k rfl
        dsimp only [ov]
        walk_at "w"
        have e0 : (!decide (V.int k = V.non)) = true := by simp
        rw [e0]
        walk_at "w"
        refine w_iteD (fun hle => ?_) (fun hle => ?_)
        · walk_at "w"
          refine w_tyL f2 ?_
          walk_at "w"
          refine w_append f2 (len_lt (by simp; omega)) ?_
          walk_at "w"
          refine ⟨l, k, rfl, hl, hz, by omega, by omega, fun r hu => ?_⟩
          refine ⟨pre ++ [k], r, _, rfl, same_mut s1 n1, ?_, fun rest h => ?_, ?_, by simp; omega⟩
          · rw [upd_same]; simp
          · have := hc (k :: rest) (.go hle hu h)
            simpa using this
          · intro k2 e
            subst e
            have h1 := hu.1
            omega
        · walk_at "w"
          exact ⟨pre, some k, _, rfl, s1, f2, hc, fun k2 e => (by cases e; omega), by omega⟩
    · rintro σ' H' ⟨pre, r, y, rfl, s1, f2, hc, hk, hpl⟩
      walk_at "w"
      refine q pre p H' ?_ s1 (dp_newL f2 (dpa_ints pre))
      cases r with
      | none => simpa using hc [] .no
      | some k =>
        have := (hk k rfl).2
        simpa using hc [] (.stop (by omega))

/-! ### _law_word -/
def sp__law_word (K : PySem.W.Frag) : Sp := fun vs H Q _ => ∃ (m c : Addr) (most : Int) (b : Nat), vs = [.ref m, .int most] ∧ 1 ≤ most ∧ most ≤ 100 ∧ Mo H m c b ∧ b < 2 ^ 44 ∧
  ∀ (l : List Nat) H', StarW l → (l.length : Int) ≤ most → Keep H H' → Mo H' m c (b + 200) → Q (.str (Sg l)) H'
theorem ok__law_word (T : Top K mg) : FnOk P w K mg base CX0 3 T.f__law_word T.fd__law_word ["m", "most"] (sp__law_word K) := by
  refine T.F__law_word.ok sc__law_word (fun vs H Q E h => ?_) (fun cdv A outer s H vs Q E hr h => ?_)
  · obtain ⟨m, c, most, b, rfl, _⟩ := h
    rfl
  · obtain ⟨m, c, most, b, rfl, hn0, hn1, hm, hb, q⟩ := h
    refine ⟨_, (pss_cons (ps_set (i := 2) sc__law_word.nd (by rfl) (by first | exact Or.inl rfl | exact Or.inr rfl) (pe_op op_add pe_int (pe_call (ok__law_draw T) (hr.mono (by decide)) (by rfl) T.g__law_draw T.F__law_draw.kp T.b__law_draw .nil pass0 (pa_cons (pv 0) (pa_cons (pv 1) pa_nil)))))
      (pss_one (ps_ret (pe_ifExp (pt_cmpR op_eq (pv 2) pe_int (nomark _)) pe_str (pe_op op_addS (pe_op op_addS pe_str (pe_call (ok__law_string T) (hr.mono (by decide)) (by rfl) T.g__law_string T.F__law_string.kp T.b__law_string .nil pass0 (pa_cons (pv 0) (pa_cons (pe_op op_sub (pv 2) pe_int) pa_nil)))) pe_str))))), ?_⟩
    rw [show start N__law_word [.ref m, .int most] = [some (.ref m), some (.int most), none] from rfl]
    rw [show Str.ofString "*" = Sg [42] by decide +kernel, show Str.ofString "1" = Sg [49] by decide +kernel]
    try dsimp only [cxK]
    walk_at "w"
    refine ⟨m, c, most, b, rfl, by omega, by omega, hm, by omega, fun r H1 h0 h1 k1 m1 => ?_⟩
    walk_at "w"
    refine w_iteD (fun e => ?_) (fun e => ?_)
    · walk_at "w"
      exact q [42] H1 ⟨by simp, rfl, by simp⟩ (by simp; omega) k1 (m1.mono (by omega))
    · walk_at "w"
      refine ⟨m, c, _, _, rfl, by omega, by omega, m1, by omega, fun l H2 hl hx k2 m2 => ?_⟩
      walk_at "w"
      refine w_addSg (by simp; omega) ?_
      refine w_addSg (by simp; omega) ?_
      refine q _ H2 (starW_mk fun x hx1 => ?_) (by simp; omega) (k1.trans k2) (m2.mono (by omega))
      rcases List.mem_append.mp hx1 with h | h
      · simp at h; omega
      · have := hx x h; omega

/-! ### _law_marks -/
def sp__law_marks (K : PySem.W.Frag) : Sp := fun vs H Q _ => ∃ (m c : Addr) (b : Nat), vs = [.ref m] ∧ Mo H m c b ∧ b < 2 ^ 44 ∧
  ∀ (l : List Nat) H', l ≠ [] → l.length ≤ 24 → Keep H H' → Mo H' m c (b + 200) → Q (.str (Sg l)) H'
theorem ok__law_marks (T : Top K mg) : FnOk P w K mg base CX0 3 T.f__law_marks T.fd__law_marks ["m"] (sp__law_marks K) := by
  refine T.F__law_marks.ok sc__law_marks (fun vs H Q E h => ?_) (fun cdv A outer s H vs Q E hr h => ?_)
  · obtain ⟨m, c, b, rfl, _⟩ := h
    rfl
  · obtain ⟨m, c, b, rfl, hm, hb, q⟩ := h
    refine ⟨_, (pss_cons (ps_set (i := 1) sc__law_marks.nd (by rfl) (by first | exact Or.inl rfl | exact Or.inr rfl) (pe_op op_add pe_int (pe_call (ok__law_draw T) (hr.mono (by decide)) (by rfl) T.g__law_draw T.F__law_draw.kp T.b__law_draw .nil pass0 (pa_cons (pv 0) (pa_cons pe_int pa_nil)))))
      (pss_cons (ps_set (i := 2) sc__law_marks.nd (by rfl) (by first | exact Or.inl rfl | exact Or.inr rfl) (pe_call (ok__law_of T) (hr.mono (by decide)) (by rfl) T.g__law_of T.F__law_of.kp T.b__law_of .nil pass0 (pa_cons (pv 0) (pa_cons (pe_lst (pa_cons pe_str (pa_cons pe_str (pa_cons pe_str (pa_cons pe_str pa_nil))))) pa_nil))))
      (pss_one (ps_ret (pe_joinD (K := K) pe_str (pe_lc (own := [("k", 3)]) (g := gName 3) (tt := tYes) (by rfl) sc__law_marks.nd (pi_range1 (by rfl) T.z_range (pa_cons (pv 1) pa_nil)) (blkOk_by (own := [("k", 3)]) (N := N__law_marks) (sc := defScope s__law_marks) (by decide +kernel)) (fun _ _ _ _ _ => (pg_name (i := 3) sc__law_marks.nd (by rfl) (by first | exact Or.inl rfl | exact Or.inr rfl))) (fun _ _ _ _ _ => pts_nil) (fun _ _ _ _ _ => (pe_ix ix_str (pv 2) (pe_call (ok__law_draw T) (hr.mono (by decide)) (by rfl) T.g__law_draw T.F__law_draw.kp T.b__law_draw .nil pass0 (pa_cons (pv 0) (pa_cons (pe_callB (cl_len (K := K)) (by rfl) T.z_len (by decide +kernel) (pa_cons (pv 2) pa_nil)) pa_nil))) (fun _ _ => rfl))))))))), ?_⟩
    rw [show start N__law_marks [.ref m] = [some (.ref m), none, none, none] from rfl]
    rw [show Str.ofString "01" = Sg [48, 49] by decide +kernel, show Str.ofString "011" = Sg [48, 49, 49] by decide +kernel, show Str.ofString "0111" = Sg [48, 49, 49, 49] by decide +kernel, show Str.ofString "01*" = Sg [48, 49, 42] by decide +kernel, sg_empty]
    try dsimp only [cxK]
    walk_at "w"
    refine ⟨m, c, _, b, rfl, by omega, by omega, hm, by omega, fun r H1 h0 h1 k1 m1 => ?_⟩
    walk_at "w"
    refine w_newL (K := K) (len_ok (by simp)) (.cons (.str _) (.cons (.str _) (.cons (.str _) (.cons (.str _) .nil)))) fun p H2 n2 e2 f2 d2 => ?_
    walk_at "w"
    refine ⟨m, c, _, _, _, rfl, d2, by simp, by simp, m1.same e2, by omega, fun y d H3 hd hy k3 m3 => ?_⟩
    obtain ⟨g, rfl, hg0, hg1⟩ : ∃ g, d = .str (Sg g) ∧ g ≠ [] ∧ g.length ≤ 4 := by
      simp only [List.mem_cons, List.not_mem_nil, or_false] at hd
      rcases hd with rfl | rfl | rfl | rfl
      · exact ⟨_, rfl, by simp, by simp⟩
      · exact ⟨_, rfl, by simp, by simp⟩
      · exact ⟨_, rfl, by simp, by simp⟩
      · exact ⟨_, rfl, by simp, by simp⟩
    cases hy
    have hgp : 0 < g.length := List.length_pos_iff.mpr hg0
    walk_at "w"
    refine lc_rng1_by (K := K) (JM H3 m c (b + 2) 1 fun i es => ∃ ys : List (List Nat), es = ys.map (fun y => PyData.str (Sg y)) ∧ ys.length = i ∧ ys.flatten.length = i) (JM.ok (m3.mono (by omega)) ⟨[], rfl, rfl, rfl⟩) (by omega) (fun _ => rfl) ?_ ?_
    · rintro i H' es hi ⟨k, mo, ys, rfl, hl, hy⟩ Yes No hyes hno
      walk_at "w"
      refine ⟨m, c, _, _, rfl, by omega, by omega, mo, by omega, fun r4 H4 h0 h1 k4 mo4 => ?_⟩
      refine w_ixSg (by omega) h0 (by omega) fun x hx => ?_
      exact hyes _ H4 (.str (Sg [x])) k4 rfl (.str _) ⟨k.trans k4, mo4.mono (by omega), ys ++ [[x]], by simp, by simp [hl], by simp [hy]⟩
    · rintro p H' vs es hn k hv dl ⟨_, mo, ys, rfl, hl, hy⟩
      refine w_joinSg dl (by omega) (q _ H' (fun z => ?_) (by omega) (((k1.trans (Keep.of e2)).trans k3).trans k) (mo.mono (by omega)))
      rw [z] at hy
      simp at hy
      omega

/-! ### _law_is_right -/
def sp__law_is_right (K : PySem.W.Frag) : Sp := fun vs H Q _ => ∃ (l : List Nat) (m : Int), vs = [.str (Sg l), .int m] ∧ l ≠ [] ∧ l.length ≤ 100 ∧ 1 ≤ m ∧ m ≤ 1000 ∧ ∀ H', Same H H' → Q (.bl true) H'
theorem ok__law_is_right (T : Top K mg) : FnOk P w K mg base CX0 3 T.f__law_is_right T.fd__law_is_right ["marks", "m"] (sp__law_is_right K) := by
  refine T.F__law_is_right.ok sc__law_is_right (fun vs H Q E h => ?_) (fun cdv A outer s H vs Q E hr h => ?_)
  · obtain ⟨l, m, rfl, _⟩ := h
    rfl
  · obtain ⟨l, m, rfl, hl, hz, hm0, hm1, q⟩ := h
    refine ⟨_, (pss_cons (ps_set (i := 2) sc__law_is_right.nd (by rfl) (by first | exact Or.inl rfl | exact Or.inr rfl) (pe_call (ok_next_unlike T) (hr.mono (by decide)) (by rfl) T.g_next_unlike T.F_next_unlike.kp T.b_next_unlike .nil pass0 (pa_cons (pv 0) (pa_cons (pv 1) pa_nil))))
      (pss_cons (ps_if (PW.pt (pw_or (pt_cmpR op_ne (pv 2) (pe_call (ok__law_unlike T) (hr.mono (by decide)) (by rfl) T.g__law_unlike T.F__law_unlike.kp T.b__law_unlike .nil pass0 (pa_cons (pv 0) (pa_cons (pv 1) pa_nil))) (nomark _)) (pw_or1 (pt_val (pe_callB (cl_isi (K := K)) (by rfl) T.z_isinstance (by decide +kernel) (pa_cons (pv 2) (pa_cons (pe_bltn (v := .ty "bool") (by rfl) T.z_bool (by decide +kernel) rfl) pa_nil))))))) (pss_one (ps_ret pe_bl)) pss_nil)
      (pss_cons (ps_if (pt_cmpR op_isN1 (pv 2) pe_non (nomark _)) (pss_cons (ps_setLc (i := 3) (own := [("k", 4)]) (g := gName 4) (by rfl) sc__law_is_right.nd (by rfl) (by rfl) (sw_true rfl rfl rfl (by decide +kernel)) (pi_range2 (by rfl) T.z_range (pa_cons pe_int (pa_cons (pe_op op_add (pe_callB (cl_len (K := K)) (by rfl) T.z_len (by decide +kernel) (pa_cons (pv 0) pa_nil)) pe_int) pa_nil))) (blkOk_by (own := [("k", 4)]) (N := N__law_is_right) (sc := defScope s__law_is_right) (by decide +kernel)) (fun _ _ _ _ _ => (pg_name (i := 4) sc__law_is_right.nd (by rfl) (by first | exact Or.inl rfl | exact Or.inr rfl))) (fun _ _ _ _ _ => (pts_one (pt_cmpR op_ne (pe_call (ok__law_mark_at T) (hr.mono (by decide)) (by rfl) T.g__law_mark_at T.F__law_mark_at.kp T.b__law_mark_at .nil pass0 (pa_cons (pv 0) (pa_cons (pv 4) pa_nil))) (pe_call (ok__law_mark_at T) (hr.mono (by decide)) (by rfl) T.g__law_mark_at T.F__law_mark_at.kp T.b__law_mark_at .nil pass0 (pa_cons (pv 0) (pa_cons (pe_op op_add (pv 4) (pv 1)) pa_nil))) (nomark _)))) (fun _ _ _ _ _ => (pv 4)))
      (pss_one (ps_ret (pe_cmpR (op_eqK (K := K) hr.units) (pv 3) (pe_lst pa_nil) (nomark _))))) pss_nil)
      (pss_one (ps_ret (pe_and (pe_cmpR op_gt (pv 2) (pv 1) (nomark _)) (pe_one (pe_or (pe_cmpR op_gt (pe_op op_mulX pe_int (pe_callB (cl_len (K := K)) (by rfl) T.z_len (by decide +kernel) (pa_cons (pv 0) pa_nil))) pe_int (nomark _)) (pe_one (pe_cmpR op_eq (pe_call (ok_next_unlike T) (hr.mono (by decide)) (by rfl) T.g_next_unlike T.F_next_unlike.kp T.b_next_unlike .nil pass0 (pa_cons (pe_op op_addS (pv 0) (pv 0)) (pa_cons (pv 1) pa_nil))) (pv 2) (nomark _))))))))))), ?_⟩
    rw [show start N__law_is_right [.str (Sg l), .int m] = [some (.str (Sg l)), some (.int m), none, none, none] from rfl]
    try dsimp only [cxK]
    have hp : 0 < l.length := List.length_pos_iff.mpr hl
    walk_at "w"
    refine ⟨l, m, rfl, hl, by omega, hm0, by omega, fun r hu => ?_⟩
    walk_at "w"
    refine ⟨l, m, rfl, hl, by omega, hm0, by omega, fun r' hu' => ?_⟩
    cases hu.unique hu'
    cases r with
    | none =>
      dsimp only [ov]
      walk_at "w"
      rw [show (!decide (V.non = V.non)) = false by decide]
      walk_at "w"
      rw [show decide (V.non = V.non) = true by decide]
      walk_at "w"
      refine lc_rng2_by (K := K) (JP H fun i es => es = []) (JP.ok rfl) (by omega) (fun _ => rfl) ?_ ?_
      · rintro i H' es hi ⟨k, rfl⟩ Yes No hyes hno
        walk_at "w"
        refine ⟨l, _, rfl, hl, by omega, ?_⟩
        walk_at "w"
        refine ⟨l, _, rfl, hl, by omega, ?_⟩
        refine w_neSg (fun e => ?_) (fun e => ?_)
        · walk_at "w"
          exact hno _ (Keep.refl _) ⟨k, rfl⟩
        · refine absurd ?_ e
          have := hu (1 + i + m) (by omega)
          rw [this]
          congr 2
          omega
      · rintro p H' vs es hn k hv dl ⟨s1, rfl⟩
        walk_at "w"
        refine w_newL (K := K) (len_ok (by simp)) .nil fun p2 H2 n2 e2 f2 d2 => ?_
        refine w_eqP (dp_same e2 dl) d2 rfl rfl (fun _ => ?_) (fun h => absurd rfl h)
        exact q H2 (s1.trans e2)
    | some k =>
      dsimp only [ov]
      walk_at "w"
      rw [decide_eq_true rfl]
      walk_at "w"
      rw [decide_eq_false (fun z => nomatch z)]
      walk_at "w"
      refine w_iteD (fun _ => ?_) (fun h => absurd hu.1 h)
      walk_at "w"
      refine w_iteD (fun _ => ?_) (fun h => ?_)
      · exact q H (Same.refl _)
      · walk_at "w"
        refine ⟨l ++ l, m, rfl, by simp [hl], by simp; omega, hm0, by omega, fun r hr2 => ?_⟩
        cases (hu.dbl hl).unique hr2
        dsimp only [ov]
        walk_at "w"
        rw [decide_eq_true rfl]
        exact q H (Same.refl _)

/-! ### _law_address -/
def sp__law_address (K : PySem.W.Frag) : Sp := fun vs H Q _ => ∃ (l : List Nat), vs = [.str (Sg l)] ∧ l ≠ [] ∧ l.length ≤ 1000 ∧ ∀ ns v H', Chn l l.length (some 1) ns → Same H H' → Dp K H' v (.tuple (ns.map PyData.int)) → Q v H'
theorem ok__law_address (T : Top K mg) : FnOk P w K mg base CX0 4 T.f__law_address T.fd__law_address ["marks"] (sp__law_address K) := by
  refine T.F__law_address.ok sc__law_address (fun vs H Q E h => ?_) (fun cdv A outer s H vs Q E hr h => ?_)
  · obtain ⟨l, rfl, _⟩ := h
    rfl
  · obtain ⟨l, rfl, hl, hz, q⟩ := h
    refine ⟨_, (pss_one (ps_ret (pe_callTy (cl_tup (K := K)) (by rfl) T.z_tuple (by decide +kernel) (pa_cons (pe_call (ok__law_chain T) (hr.mono (by decide)) (by rfl) T.g__law_chain T.F__law_chain.kp T.b__law_chain .nil pass0 (pa_cons (pv 0) (pa_cons pe_int (pa_cons (pe_callB (cl_len (K := K)) (by rfl) T.z_len (by decide +kernel) (pa_cons (pv 0) pa_nil)) pa_nil)))) pa_nil)))), ?_⟩
    rw [show start N__law_address [.str (Sg l)] = [some (.str (Sg l))] from rfl]
    try dsimp only [cxK]
    walk_at "w"
    refine ⟨l, _, rfl, hl, hz, by omega, by omega, fun ns p H' hc s1 d1 => ?_⟩
    refine w_tupOf d1 fun p2 H2 n2 e2 d2 => ?_
    exact q ns _ H2 hc (s1.trans e2) d2

/-! ### law -/
def sp_law (K : PySem.W.Frag) : Sp := fun vs H Q _ => ∃ (a : Addr) (ns : List Int), vs = [.ref a] ∧ SqL K H a (ns.map V.int) ∧ ns.length ≤ 63 ∧ (∀ z ∈ ns, Builtin.Int.intBits z ≤ 1048576) ∧ ∀ H', Q (.bl true) H'
theorem ok_law (T : Top K mg) : FnOk P w K mg base CX0 5 T.f_law T.fd_law ["script"] (sp_law K) := by
  refine T.F_law.ok sc_law (fun vs H Q E h => ?_) (fun cdv A outer s H vs Q E hr h => ?_)
  · obtain ⟨a, ns, rfl, _⟩ := h
    rfl
  · obtain ⟨a, ns, rfl, hS, hl, hB, q⟩ := h
    refine ⟨_, (pss_cons (ps_for PassesOwn.never (by rfl) (pi_range1 (by rfl) T.z_range (pa_cons pe_int pa_nil)) (pg_name (i := 1) sc_law.nd (by rfl) (by first | exact Or.inl rfl | exact Or.inr rfl)) (pss_cons (ps_set (i := 2) sc_law.nd (by rfl) (by first | exact Or.inl rfl | exact Or.inr rfl) (pe_call (ok__law_begun T) (hr.mono (by decide)) (by rfl) T.g__law_begun T.F__law_begun.kp T.b__law_begun .nil pass0 (pa_cons (pv 0) (pa_cons (pv 1) pa_nil))))
      (pss_cons (ps_set (i := 3) sc_law.nd (by rfl) (by first | exact Or.inl rfl | exact Or.inr rfl) (pe_ifExp (pt_cmpR op_ne (pv 1) pe_int (nomark _)) (pe_call (ok__law_marks T) (hr.mono (by decide)) (by rfl) T.g__law_marks T.F__law_marks.kp T.b__law_marks .nil pass0 (pa_cons (pv 2) pa_nil)) (pe_call (ok__law_word T) (hr.mono (by decide)) (by rfl) T.g__law_word T.F__law_word.kp T.b__law_word .nil pass0 (pa_cons (pv 2) (pa_cons pe_int pa_nil)))))
      (pss_cons (ps_for PassesOwn.never (by rfl) (pi_range1 (by rfl) T.z_range (pa_cons pe_int pa_nil)) (pg_name (i := 4) sc_law.nd (by rfl) (by first | exact Or.inl rfl | exact Or.inr rfl)) (pss_one (ps_if (pt_not (pt_val (pe_call (ok__law_is_right T) (hr.mono (by decide)) (by rfl) T.g__law_is_right T.F__law_is_right.kp T.b__law_is_right .nil pass0 (pa_cons (pv 3) (pa_cons (pe_op op_add pe_int (pe_call (ok__law_draw T) (hr.mono (by decide)) (by rfl) T.g__law_draw T.F__law_draw.kp T.b__law_draw .nil pass0 (pa_cons (pv 2) (pa_cons pe_int pa_nil)))) pa_nil))))) (pss_one (ps_ret pe_bl)) pss_nil)))
      (pss_cons (ps_set (i := 5) sc_law.nd (by rfl) (by first | exact Or.inl rfl | exact Or.inr rfl) (pe_call (ok_address T) (hr.mono (by decide)) (by rfl) T.g_address T.F_address.kp T.b_address .nil pass0 (pa_cons (pv 3) pa_nil)))
      (pss_cons (ps_if (PW.pt (pw_or (pt_not (pt_val (pe_callB (cl_isi (K := K)) (by rfl) T.z_isinstance (by decide +kernel) (pa_cons (pv 5) (pa_cons (pe_bltn (v := .ty "tuple") (by rfl) T.z_tuple (by decide +kernel) rfl) pa_nil))))) (pw_or (pt_cmpR (op_neK (K := K) hr.units) (pv 5) (pe_call (ok__law_address T) (hr.mono (by decide)) (by rfl) T.g__law_address T.F__law_address.kp T.b__law_address .nil pass0 (pa_cons (pv 3) pa_nil)) (nomark _)) (pw_or (pt_cmpR op_ne (pe_ix (ix_tupK (K := K)) (pv 5) pe_int (fun _ _ => rfl)) pe_int (nomark _)) (pw_or1 (pt_cmpR op_gt (pe_ix (ix_tupK (K := K)) (pv 5) (pe_un un_neg pe_int) (fun _ _ => rfl)) (pe_callB (cl_len (K := K)) (by rfl) T.z_len (by decide +kernel) (pa_cons (pv 3) pa_nil)) (nomark _))))))) (pss_one (ps_ret pe_bl)) pss_nil)
      (pss_cons (ps_if (pt_cmpR (op_neK (K := K) hr.units) (pe_lc (own := [("spot", 7)]) (g := gName 7) (by rfl) sc_law.nd (pi_range2 (by rfl) T.z_range (pa_cons pe_int (pa_cons (pe_callB (cl_len (K := K)) (by rfl) T.z_len (by decide +kernel) (pa_cons (pv 5) pa_nil)) pa_nil))) (blkOk_by (own := [("spot", 7)]) (N := N_law) (sc := defScope s_law) (by decide +kernel)) (fun _ _ _ _ _ => (pg_name (i := 7) sc_law.nd (by rfl) (by first | exact Or.inl rfl | exact Or.inr rfl))) (fun _ _ _ _ _ => (pts_one (pt_cmpR op_le (pe_ix (ix_tupK (K := K)) (pv 5) (pv 7) (fun _ _ => rfl)) (pe_ix (ix_tupK (K := K)) (pv 5) (pe_op op_sub (pv 7) pe_int) (fun _ _ => rfl)) (nomark _)))) (fun _ _ _ _ _ => (pv 7))) (pe_lst pa_nil) (nomark _)) (pss_one (ps_ret pe_bl)) pss_nil)
      (pss_cons (ps_set (i := 6) sc_law.nd (by rfl) (by first | exact Or.inl rfl | exact Or.inr rfl) (pe_call (ok__law_word T) (hr.mono (by decide)) (by rfl) T.g__law_word T.F__law_word.kp T.b__law_word .nil pass0 (pa_cons (pv 2) (pa_cons pe_int pa_nil))))
      (pss_one (ps_if (PW.pt (pw_or (pt_cmpR op_ne (pe_ix (ix_tupK (K := K)) (pe_call (ok_address T) (hr.mono (by decide)) (by rfl) T.g_address T.F_address.kp T.b_address .nil pass0 (pa_cons (pv 6) pa_nil)) (pe_un un_neg pe_int) (fun _ _ => rfl)) (pe_callB (cl_len (K := K)) (by rfl) T.z_len (by decide +kernel) (pa_cons (pv 6) pa_nil)) (nomark _)) (pw_or1 (pt_cmpR (op_neK (K := K) hr.units) (pe_call (ok_address T) (hr.mono (by decide)) (by rfl) T.g_address T.F_address.kp T.b_address .nil pass0 (pa_cons (pv 3) pa_nil)) (pv 5) (nomark _))))) (pss_one (ps_ret pe_bl)) pss_nil))))))))))
      (pss_one (ps_ret pe_bl))), ?_⟩
    rw [show start N_law [.ref a] = [some (.ref a), none, none, none, none, none, none, none] from rfl]
    try dsimp only [cxK]
    have hBig : ∀ n ∈ ns, Big n := fun n hn => Big.bits (hB n hn)
    walk_at "w"
    refine forR1_by (fun i σ' H' => ∃ (y1 y2 y3 y4 y5 y6 y7 : Option V), σ' = [some (.ref a), y1, y2, y3, y4, y5, y6, y7] ∧ Keep H H') (by omega) ⟨none, none, none, none, none, none, none, rfl, Keep.refl _⟩ ?_ ?_
    · rintro i σ' H' hi ⟨y1, y2, y3, y4, y5, y6, y7, rfl, k0⟩
      walk_at "w"
      refine ⟨a, ns, _, rfl, k0.seqL hS, hl, hBig, by omega, by omega, fun m c H1 e1 n1 m1 => ?_⟩
      have k1 : Keep H H1 := k0.trans (Keep.of e1)
      with_reducible refine w_seq ?_
      with_reducible refine w_asg ?_
      refine w_meet (fun v H2 => ∃ l : List Nat, v = .str (Sg l) ∧ l ≠ [] ∧ l.length ≤ 24 ∧ Keep H H2 ∧ Mo H2 m c 200) (fun Q' hQ' => ?_) ?_
      · walk_at "w"
        refine w_iteND (fun _ => ?_) (fun _ => ?_)
        · walk_at "w"
          exact ⟨m, c, 0, rfl, m1, by decide, fun l H2 h1 h2 k2 m2 => hQ' _ _ ⟨l, rfl, h1, h2, k1.trans k2, m2.mono (by omega)⟩⟩
        · walk_at "w"
          exact ⟨m, c, 24, 0, rfl, by decide, by decide, m1, by decide, fun l H2 h1 h2 k2 m2 => hQ' _ _ ⟨l, rfl, h1.1, by omega, k1.trans k2, m2.mono (by omega)⟩⟩
      · rintro v H2 ⟨l, rfl, hl0, hl1, k2, m2⟩
        have hp : 0 < l.length := List.length_pos_iff.mpr hl0
        walk_at "w"
        refine forR1_by (fun i2 σ' H' => ∃ (y4 : Option V), σ' = [some (.ref a), some (.int (i : Int)), some (.ref m), some (.str (Sg l)), y4, y5, y6, y7] ∧ Keep H H' ∧ Mo H' m c (200 + i2)) (by omega) ⟨_, rfl, k2, m2⟩ ?_ ?_
        · rintro i2 σ' H3 hi2 ⟨y4, rfl, k3, m3⟩
          walk_at "w"
          refine ⟨m, c, 60, _, rfl, by decide, by decide, m3, by omega, fun r H4 h0 h1 k4 m4 => ?_⟩
          walk_at "w"
          refine ⟨l, _, rfl, hl0, by omega, by omega, by omega, fun H5 e5 => ?_⟩
          walk_at "w"
          exact ⟨_, rfl, (k3.trans k4).trans (Keep.of e5), (m4.same e5).mono (by omega)⟩
        · rintro σ' H3 ⟨y4, rfl, k3, m3⟩
          walk_at "w"
          refine ⟨l, rfl, hl0, by omega, fun ts v H4 hc e4 d4 => ?_⟩
          obtain ⟨ts2, rfl⟩ : ∃ ts2, ts = 1 :: ts2 := by
            cases hc with
            | stop h => omega
            | go _ _ _ => exact ⟨_, rfl⟩
          have hlen : (1 :: ts2).length ≤ 24 := by
            have h1 := hc.asc
            have h2 := hc.le
            have h3 := hc.gt 1 rfl
            have bnd : ∀ (xs : List Int) (lo : Int), xs.Pairwise (· < ·) → (∀ x ∈ xs, lo ≤ x ∧ x ≤ (l.length : Int)) → (xs.length : Int) ≤ max 0 (l.length + 1 - lo) := by
              intro xs
              induction xs with
              | nil => intro lo _ _; simp; omega
              | cons x xs ih =>
                intro lo hpw hb
                cases hpw with
                | cons hx hpw =>
                  have hb0 := hb x List.mem_cons_self
                  have := ih (x + 1) hpw (fun y hy => ⟨by have := hx y hy; omega, (hb y (List.mem_cons_of_mem _ hy)).2⟩)
                  simp only [List.length_cons]
                  omega
            have := bnd _ 1 h1 (fun x hx => ⟨h3 x hx, h2 x hx⟩)
            omega
          walk_at "w"
          refine ⟨l, rfl, hl0, by omega, fun ts' v' H5 hc' e5 d5 => ?_⟩
          cases hc.unique hc'
          refine w_neP (dp_same e5 d4) d5 (pln_intsT _) (pln_intsT _) (fun _ => ?_) (fun h => absurd rfl h)
          walk_at "w"
          refine w_ixTI (dp_same e5 d4) (by decide) (by simp <;> omega) fun z hz => ?_
          cases (show some (1 : Int) = some z from hz)
          walk_at "w"
          rw [decide_eq_true rfl]
          walk_at "w"
          refine w_ixLastT (dp_same e5 d4) (d := .int ((1 :: ts2).getLast (by simp))) (by rw [List.getLast?_map, List.getLast?_eq_getLast (by simp)]; rfl) fun v2 hv2 => ?_
          cases hv2
          have hlast := hc.le _ (List.getLast_mem (l := 1 :: ts2) (by simp))
          walk_at "w"
          refine w_iteD (fun h => by omega) (fun _ => ?_)
          walk_at "w"
          rw [List.length_map]
          refine lc_rng2_by (K := K) (JP H5 fun i es => es = []) (JP.ok rfl) (by omega) (fun _ => rfl) ?_ ?_
          · rintro i3 H6 es hi3 ⟨s6, rfl⟩ Yes No hyes hno
            have d6 := dp_same s6 (dp_same e5 d4)
            walk_at "w"
            refine w_ixTI d6 (by omega) (by omega) fun z1 hz1 => ?_
            walk_at "w"
            refine w_ixTI d6 (by omega) (by omega) fun z2 hz2 => ?_
            walk_at "w"
            refine w_iteD (fun h => ?_) (fun _ => ?_)
            · have ha := List.pairwise_iff_getElem.mp hc.asc
              obtain ⟨b1, rfl⟩ := List.getElem?_eq_some_iff.mp hz1
              obtain ⟨b2, rfl⟩ := List.getElem?_eq_some_iff.mp hz2
              have := ha _ _ b2 b1 (by omega)
              omega
            · exact hno _ (Keep.refl _) ⟨s6, rfl⟩
          · rintro p H6 vs es hn k6 hv dl ⟨s6, rfl⟩
            walk_at "w"
            refine w_newL (K := K) (len_ok (by simp)) .nil fun p2 H7 n7 e7 f7 d7 => ?_
            refine w_neP (dp_same e7 dl) d7 rfl rfl (fun _ => ?_) (fun h => absurd rfl h)
            walk_at "w"
            have s7 : Same H3 H7 := ((e4.trans e5).trans s6).trans e7
            refine ⟨m, c, 24, _, rfl, by decide, by decide, m3.same s7, by decide, fun wl H8 hw hw2 k8 m8 => ?_⟩
            have hwp : 0 < wl.length := List.length_pos_iff.mpr hw.1
            walk_at "w"
            refine ⟨wl, rfl, hw.1, by omega, fun ws v8 H9 hcw e9 d9 => ?_⟩
            have hlw := hcw.star hw 1 rfl (by omega) (by omega)
            walk_at "w"
            refine w_ixLastT d9 (d := .int (wl.length : Int)) (by rw [List.getLast?_map, hlw]; rfl) fun v9 hv9 => ?_
            cases hv9
            walk_at "w"
            rw [decide_eq_true rfl]
            walk_at "w"
            refine ⟨l, rfl, hl0, by omega, fun ts3 v3 H10 hc3 e10 d10 => ?_⟩
            cases hc.unique hc3
            walk_at "w"
            refine w_neP d10 (dp_same e10 (dp_same e9 (dp_keep k8 (dp_same e7 (dp_same s6 (dp_same e5 d4)))))) (pln_intsT _) (pln_intsT _) (fun _ => ?_) (fun h => absurd rfl h)
            walk_at "w"
            exact ⟨_, _, _, _, _, _, _, rfl, (((k3.trans (Keep.of s7)).trans k8).trans (Keep.of e9)).trans (Keep.of e10)⟩
    · rintro σ' H' ⟨y1, y2, y3, y4, y5, y6, y7, rfl, k0⟩
      walk_at "w"
      exact q H'

end
end Tw
namespace Tw
open PySem PySem.Spec PyProof.Rows L2
set_option maxHeartbeats 4000000 in
def top_mk {K : PySem.W.Frag} {h : Heap} {mg : Str → Option Value} (X : K.In h) (G : h.Ns mainGlobals mg) {f_next_unlike f_address f__law_begun f__law_draw f__law_of f__law_string f__law_mark_at f__law_unlike f__law_chain f__law_address f__law_word f__law_marks f__law_is_right f_law : Addr} {od_next_unlike an_next_unlike od_address an_address od__law_begun an__law_begun od__law_draw an__law_draw od__law_of an__law_of od__law_string an__law_string od__law_mark_at an__law_mark_at od__law_unlike an__law_unlike od__law_chain an__law_chain od__law_address an__law_address od__law_word an__law_word od__law_marks an__law_marks od__law_is_right an__law_is_right od_law an_law : Option Addr} {oc_next_unlike kV_next_unlike dc_next_unlike pm_next_unlike cd_next_unlike ct_next_unlike oc_address kV_address dc_address pm_address cd_address ct_address oc__law_begun kV__law_begun dc__law_begun pm__law_begun cd__law_begun ct__law_begun oc__law_draw kV__law_draw dc__law_draw pm__law_draw cd__law_draw ct__law_draw oc__law_of kV__law_of dc__law_of pm__law_of cd__law_of ct__law_of oc__law_string kV__law_string dc__law_string pm__law_string cd__law_string ct__law_string oc__law_mark_at kV__law_mark_at dc__law_mark_at pm__law_mark_at cd__law_mark_at ct__law_mark_at oc__law_unlike kV__law_unlike dc__law_unlike pm__law_unlike cd__law_unlike ct__law_unlike oc__law_chain kV__law_chain dc__law_chain pm__law_chain cd__law_chain ct__law_chain oc__law_address kV__law_address dc__law_address pm__law_address cd__law_address ct__law_address oc__law_word kV__law_word dc__law_word pm__law_word cd__law_word ct__law_word oc__law_marks kV__law_marks dc__law_marks pm__law_marks cd__law_marks ct__law_marks oc__law_is_right kV__law_is_right dc__law_is_right pm__law_is_right cd__law_is_right ct__law_is_right oc_law kV_law dc_law pm_law cd_law ct_law : Value} {sl_next_unlike sl_address sl__law_begun sl__law_draw sl__law_of sl__law_string sl__law_mark_at sl__law_unlike sl__law_chain sl__law_address sl__law_word sl__law_marks sl__law_is_right sl_law : Array (Option Value)} 
    (a_next_unlike : PySem.W.nsIn K mainGlobals "next_unlike" = some (some (.ref f_next_unlike)))
    (l_next_unlike : K.lookup f_next_unlike = some ⟨oc_next_unlike, od_next_unlike, .func (PySem.W.fnOf "next_unlike" "next_unlike" (defArgs s_next_unlike) (defBody s_next_unlike) (defScope s_next_unlike) .none kV_next_unlike dc_next_unlike pm_next_unlike an_next_unlike cd_next_unlike ct_next_unlike), sl_next_unlike⟩) (c_next_unlike : PySem.W.codeIn K cd_next_unlike "next_unlike" = true) (k_next_unlike : PySem.W.keepIn K (.ref f_next_unlike) = true)
    (a_address : PySem.W.nsIn K mainGlobals "address" = some (some (.ref f_address)))
    (l_address : K.lookup f_address = some ⟨oc_address, od_address, .func (PySem.W.fnOf "address" "address" (defArgs s_address) (defBody s_address) (defScope s_address) .none kV_address dc_address pm_address an_address cd_address ct_address), sl_address⟩) (c_address : PySem.W.codeIn K cd_address "address" = true) (k_address : PySem.W.keepIn K (.ref f_address) = true)
    (a__law_begun : PySem.W.nsIn K mainGlobals "_law_begun" = some (some (.ref f__law_begun)))
    (l__law_begun : K.lookup f__law_begun = some ⟨oc__law_begun, od__law_begun, .func (PySem.W.fnOf "_law_begun" "_law_begun" (defArgs s__law_begun) (defBody s__law_begun) (defScope s__law_begun) .none kV__law_begun dc__law_begun pm__law_begun an__law_begun cd__law_begun ct__law_begun), sl__law_begun⟩) (c__law_begun : PySem.W.codeIn K cd__law_begun "_law_begun" = true) (k__law_begun : PySem.W.keepIn K (.ref f__law_begun) = true)
    (a__law_draw : PySem.W.nsIn K mainGlobals "_law_draw" = some (some (.ref f__law_draw)))
    (l__law_draw : K.lookup f__law_draw = some ⟨oc__law_draw, od__law_draw, .func (PySem.W.fnOf "_law_draw" "_law_draw" (defArgs s__law_draw) (defBody s__law_draw) (defScope s__law_draw) .none kV__law_draw dc__law_draw pm__law_draw an__law_draw cd__law_draw ct__law_draw), sl__law_draw⟩) (c__law_draw : PySem.W.codeIn K cd__law_draw "_law_draw" = true) (k__law_draw : PySem.W.keepIn K (.ref f__law_draw) = true)
    (a__law_of : PySem.W.nsIn K mainGlobals "_law_of" = some (some (.ref f__law_of)))
    (l__law_of : K.lookup f__law_of = some ⟨oc__law_of, od__law_of, .func (PySem.W.fnOf "_law_of" "_law_of" (defArgs s__law_of) (defBody s__law_of) (defScope s__law_of) .none kV__law_of dc__law_of pm__law_of an__law_of cd__law_of ct__law_of), sl__law_of⟩) (c__law_of : PySem.W.codeIn K cd__law_of "_law_of" = true) (k__law_of : PySem.W.keepIn K (.ref f__law_of) = true)
    (a__law_string : PySem.W.nsIn K mainGlobals "_law_string" = some (some (.ref f__law_string)))
    (l__law_string : K.lookup f__law_string = some ⟨oc__law_string, od__law_string, .func (PySem.W.fnOf "_law_string" "_law_string" (defArgs s__law_string) (defBody s__law_string) (defScope s__law_string) .none kV__law_string dc__law_string pm__law_string an__law_string cd__law_string ct__law_string), sl__law_string⟩) (c__law_string : PySem.W.codeIn K cd__law_string "_law_string" = true) (k__law_string : PySem.W.keepIn K (.ref f__law_string) = true)
    (a__law_mark_at : PySem.W.nsIn K mainGlobals "_law_mark_at" = some (some (.ref f__law_mark_at)))
    (l__law_mark_at : K.lookup f__law_mark_at = some ⟨oc__law_mark_at, od__law_mark_at, .func (PySem.W.fnOf "_law_mark_at" "_law_mark_at" (defArgs s__law_mark_at) (defBody s__law_mark_at) (defScope s__law_mark_at) .none kV__law_mark_at dc__law_mark_at pm__law_mark_at an__law_mark_at cd__law_mark_at ct__law_mark_at), sl__law_mark_at⟩) (c__law_mark_at : PySem.W.codeIn K cd__law_mark_at "_law_mark_at" = true) (k__law_mark_at : PySem.W.keepIn K (.ref f__law_mark_at) = true)
    (a__law_unlike : PySem.W.nsIn K mainGlobals "_law_unlike" = some (some (.ref f__law_unlike)))
    (l__law_unlike : K.lookup f__law_unlike = some ⟨oc__law_unlike, od__law_unlike, .func (PySem.W.fnOf "_law_unlike" "_law_unlike" (defArgs s__law_unlike) (defBody s__law_unlike) (defScope s__law_unlike) .none kV__law_unlike dc__law_unlike pm__law_unlike an__law_unlike cd__law_unlike ct__law_unlike), sl__law_unlike⟩) (c__law_unlike : PySem.W.codeIn K cd__law_unlike "_law_unlike" = true) (k__law_unlike : PySem.W.keepIn K (.ref f__law_unlike) = true)
    (a__law_chain : PySem.W.nsIn K mainGlobals "_law_chain" = some (some (.ref f__law_chain)))
    (l__law_chain : K.lookup f__law_chain = some ⟨oc__law_chain, od__law_chain, .func (PySem.W.fnOf "_law_chain" "_law_chain" (defArgs s__law_chain) (defBody s__law_chain) (defScope s__law_chain) .none kV__law_chain dc__law_chain pm__law_chain an__law_chain cd__law_chain ct__law_chain), sl__law_chain⟩) (c__law_chain : PySem.W.codeIn K cd__law_chain "_law_chain" = true) (k__law_chain : PySem.W.keepIn K (.ref f__law_chain) = true)
    (a__law_address : PySem.W.nsIn K mainGlobals "_law_address" = some (some (.ref f__law_address)))
    (l__law_address : K.lookup f__law_address = some ⟨oc__law_address, od__law_address, .func (PySem.W.fnOf "_law_address" "_law_address" (defArgs s__law_address) (defBody s__law_address) (defScope s__law_address) .none kV__law_address dc__law_address pm__law_address an__law_address cd__law_address ct__law_address), sl__law_address⟩) (c__law_address : PySem.W.codeIn K cd__law_address "_law_address" = true) (k__law_address : PySem.W.keepIn K (.ref f__law_address) = true)
    (a__law_word : PySem.W.nsIn K mainGlobals "_law_word" = some (some (.ref f__law_word)))
    (l__law_word : K.lookup f__law_word = some ⟨oc__law_word, od__law_word, .func (PySem.W.fnOf "_law_word" "_law_word" (defArgs s__law_word) (defBody s__law_word) (defScope s__law_word) .none kV__law_word dc__law_word pm__law_word an__law_word cd__law_word ct__law_word), sl__law_word⟩) (c__law_word : PySem.W.codeIn K cd__law_word "_law_word" = true) (k__law_word : PySem.W.keepIn K (.ref f__law_word) = true)
    (a__law_marks : PySem.W.nsIn K mainGlobals "_law_marks" = some (some (.ref f__law_marks)))
    (l__law_marks : K.lookup f__law_marks = some ⟨oc__law_marks, od__law_marks, .func (PySem.W.fnOf "_law_marks" "_law_marks" (defArgs s__law_marks) (defBody s__law_marks) (defScope s__law_marks) .none kV__law_marks dc__law_marks pm__law_marks an__law_marks cd__law_marks ct__law_marks), sl__law_marks⟩) (c__law_marks : PySem.W.codeIn K cd__law_marks "_law_marks" = true) (k__law_marks : PySem.W.keepIn K (.ref f__law_marks) = true)
    (a__law_is_right : PySem.W.nsIn K mainGlobals "_law_is_right" = some (some (.ref f__law_is_right)))
    (l__law_is_right : K.lookup f__law_is_right = some ⟨oc__law_is_right, od__law_is_right, .func (PySem.W.fnOf "_law_is_right" "_law_is_right" (defArgs s__law_is_right) (defBody s__law_is_right) (defScope s__law_is_right) .none kV__law_is_right dc__law_is_right pm__law_is_right an__law_is_right cd__law_is_right ct__law_is_right), sl__law_is_right⟩) (c__law_is_right : PySem.W.codeIn K cd__law_is_right "_law_is_right" = true) (k__law_is_right : PySem.W.keepIn K (.ref f__law_is_right) = true)
    (a_law : PySem.W.nsIn K mainGlobals "law" = some (some (.ref f_law)))
    (l_law : K.lookup f_law = some ⟨oc_law, od_law, .func (PySem.W.fnOf "law" "law" (defArgs s_law) (defBody s_law) (defScope s_law) .none kV_law dc_law pm_law an_law cd_law ct_law), sl_law⟩) (c_law : PySem.W.codeIn K cd_law "law" = true) (k_law : PySem.W.keepIn K (.ref f_law) = true)
    (z_bool : PySem.W.nsIn K mainGlobals "bool" = some none)
    (z_int : PySem.W.nsIn K mainGlobals "int" = some none)
    (z_isinstance : PySem.W.nsIn K mainGlobals "isinstance" = some none)
    (z_len : PySem.W.nsIn K mainGlobals "len" = some none)
    (z_range : PySem.W.nsIn K mainGlobals "range" = some none)
    (z_str : PySem.W.nsIn K mainGlobals "str" = some none)
    (z_tuple : PySem.W.nsIn K mainGlobals "tuple" = some none) : Top K mg :=
  { g_next_unlike := PySem.W.mg_of X G a_next_unlike,
    f_next_unlike := f_next_unlike, fd_next_unlike := PySem.W.fnOf "next_unlike" "next_unlike" (defArgs s_next_unlike) (defBody s_next_unlike) (defScope s_next_unlike) .none kV_next_unlike dc_next_unlike pm_next_unlike an_next_unlike cd_next_unlike ct_next_unlike, F_next_unlike := fun_mk (st := s_next_unlike) l_next_unlike c_next_unlike k_next_unlike, b_next_unlike := (fun_mk (st := s_next_unlike) l_next_unlike c_next_unlike k_next_unlike).binds (ps := ["marks", "m"]) fun _ _ _ _ _ _ us hl => match us, hl with | [_, _], _ => rfl,
    g_address := PySem.W.mg_of X G a_address,
    f_address := f_address, fd_address := PySem.W.fnOf "address" "address" (defArgs s_address) (defBody s_address) (defScope s_address) .none kV_address dc_address pm_address an_address cd_address ct_address, F_address := fun_mk (st := s_address) l_address c_address k_address, b_address := (fun_mk (st := s_address) l_address c_address k_address).binds (ps := ["marks"]) fun _ _ _ _ _ _ us hl => match us, hl with | [_], _ => rfl,
    g__law_begun := PySem.W.mg_of X G a__law_begun,
    f__law_begun := f__law_begun, fd__law_begun := PySem.W.fnOf "_law_begun" "_law_begun" (defArgs s__law_begun) (defBody s__law_begun) (defScope s__law_begun) .none kV__law_begun dc__law_begun pm__law_begun an__law_begun cd__law_begun ct__law_begun, F__law_begun := fun_mk (st := s__law_begun) l__law_begun c__law_begun k__law_begun, b__law_begun := (fun_mk (st := s__law_begun) l__law_begun c__law_begun k__law_begun).binds (ps := ["script", "k"]) fun _ _ _ _ _ _ us hl => match us, hl with | [_, _], _ => rfl,
    g__law_draw := PySem.W.mg_of X G a__law_draw,
    f__law_draw := f__law_draw, fd__law_draw := PySem.W.fnOf "_law_draw" "_law_draw" (defArgs s__law_draw) (defBody s__law_draw) (defScope s__law_draw) .none kV__law_draw dc__law_draw pm__law_draw an__law_draw cd__law_draw ct__law_draw, F__law_draw := fun_mk (st := s__law_draw) l__law_draw c__law_draw k__law_draw, b__law_draw := (fun_mk (st := s__law_draw) l__law_draw c__law_draw k__law_draw).binds (ps := ["m", "below"]) fun _ _ _ _ _ _ us hl => match us, hl with | [_, _], _ => rfl,
    g__law_of := PySem.W.mg_of X G a__law_of,
    f__law_of := f__law_of, fd__law_of := PySem.W.fnOf "_law_of" "_law_of" (defArgs s__law_of) (defBody s__law_of) (defScope s__law_of) .none kV__law_of dc__law_of pm__law_of an__law_of cd__law_of ct__law_of, F__law_of := fun_mk (st := s__law_of) l__law_of c__law_of k__law_of, b__law_of := (fun_mk (st := s__law_of) l__law_of c__law_of k__law_of).binds (ps := ["m", "some"]) fun _ _ _ _ _ _ us hl => match us, hl with | [_, _], _ => rfl,
    g__law_string := PySem.W.mg_of X G a__law_string,
    f__law_string := f__law_string, fd__law_string := PySem.W.fnOf "_law_string" "_law_string" (defArgs s__law_string) (defBody s__law_string) (defScope s__law_string) .none kV__law_string dc__law_string pm__law_string an__law_string cd__law_string ct__law_string, F__law_string := fun_mk (st := s__law_string) l__law_string c__law_string k__law_string, b__law_string := (fun_mk (st := s__law_string) l__law_string c__law_string k__law_string).binds (ps := ["m", "size"]) fun _ _ _ _ _ _ us hl => match us, hl with | [_, _], _ => rfl,
    g__law_mark_at := PySem.W.mg_of X G a__law_mark_at,
    f__law_mark_at := f__law_mark_at, fd__law_mark_at := PySem.W.fnOf "_law_mark_at" "_law_mark_at" (defArgs s__law_mark_at) (defBody s__law_mark_at) (defScope s__law_mark_at) .none kV__law_mark_at dc__law_mark_at pm__law_mark_at an__law_mark_at cd__law_mark_at ct__law_mark_at, F__law_mark_at := fun_mk (st := s__law_mark_at) l__law_mark_at c__law_mark_at k__law_mark_at, b__law_mark_at := (fun_mk (st := s__law_mark_at) l__law_mark_at c__law_mark_at k__law_mark_at).binds (ps := ["marks", "k"]) fun _ _ _ _ _ _ us hl => match us, hl with | [_, _], _ => rfl,
    g__law_unlike := PySem.W.mg_of X G a__law_unlike,
    f__law_unlike := f__law_unlike, fd__law_unlike := PySem.W.fnOf "_law_unlike" "_law_unlike" (defArgs s__law_unlike) (defBody s__law_unlike) (defScope s__law_unlike) .none kV__law_unlike dc__law_unlike pm__law_unlike an__law_unlike cd__law_unlike ct__law_unlike, F__law_unlike := fun_mk (st := s__law_unlike) l__law_unlike c__law_unlike k__law_unlike, b__law_unlike := (fun_mk (st := s__law_unlike) l__law_unlike c__law_unlike k__law_unlike).binds (ps := ["marks", "m"]) fun _ _ _ _ _ _ us hl => match us, hl with | [_, _], _ => rfl,
    g__law_chain := PySem.W.mg_of X G a__law_chain,
    f__law_chain := f__law_chain, fd__law_chain := PySem.W.fnOf "_law_chain" "_law_chain" (defArgs s__law_chain) (defBody s__law_chain) (defScope s__law_chain) .none kV__law_chain dc__law_chain pm__law_chain an__law_chain cd__law_chain ct__law_chain, F__law_chain := fun_mk (st := s__law_chain) l__law_chain c__law_chain k__law_chain, b__law_chain := (fun_mk (st := s__law_chain) l__law_chain c__law_chain k__law_chain).binds (ps := ["marks", "begin", "most"]) fun _ _ _ _ _ _ us hl => match us, hl with | [_, _, _], _ => rfl,
    g__law_address := PySem.W.mg_of X G a__law_address,
    f__law_address := f__law_address, fd__law_address := PySem.W.fnOf "_law_address" "_law_address" (defArgs s__law_address) (defBody s__law_address) (defScope s__law_address) .none kV__law_address dc__law_address pm__law_address an__law_address cd__law_address ct__law_address, F__law_address := fun_mk (st := s__law_address) l__law_address c__law_address k__law_address, b__law_address := (fun_mk (st := s__law_address) l__law_address c__law_address k__law_address).binds (ps := ["marks"]) fun _ _ _ _ _ _ us hl => match us, hl with | [_], _ => rfl,
    g__law_word := PySem.W.mg_of X G a__law_word,
    f__law_word := f__law_word, fd__law_word := PySem.W.fnOf "_law_word" "_law_word" (defArgs s__law_word) (defBody s__law_word) (defScope s__law_word) .none kV__law_word dc__law_word pm__law_word an__law_word cd__law_word ct__law_word, F__law_word := fun_mk (st := s__law_word) l__law_word c__law_word k__law_word, b__law_word := (fun_mk (st := s__law_word) l__law_word c__law_word k__law_word).binds (ps := ["m", "most"]) fun _ _ _ _ _ _ us hl => match us, hl with | [_, _], _ => rfl,
    g__law_marks := PySem.W.mg_of X G a__law_marks,
    f__law_marks := f__law_marks, fd__law_marks := PySem.W.fnOf "_law_marks" "_law_marks" (defArgs s__law_marks) (defBody s__law_marks) (defScope s__law_marks) .none kV__law_marks dc__law_marks pm__law_marks an__law_marks cd__law_marks ct__law_marks, F__law_marks := fun_mk (st := s__law_marks) l__law_marks c__law_marks k__law_marks, b__law_marks := (fun_mk (st := s__law_marks) l__law_marks c__law_marks k__law_marks).binds (ps := ["m"]) fun _ _ _ _ _ _ us hl => match us, hl with | [_], _ => rfl,
    g__law_is_right := PySem.W.mg_of X G a__law_is_right,
    f__law_is_right := f__law_is_right, fd__law_is_right := PySem.W.fnOf "_law_is_right" "_law_is_right" (defArgs s__law_is_right) (defBody s__law_is_right) (defScope s__law_is_right) .none kV__law_is_right dc__law_is_right pm__law_is_right an__law_is_right cd__law_is_right ct__law_is_right, F__law_is_right := fun_mk (st := s__law_is_right) l__law_is_right c__law_is_right k__law_is_right, b__law_is_right := (fun_mk (st := s__law_is_right) l__law_is_right c__law_is_right k__law_is_right).binds (ps := ["marks", "m"]) fun _ _ _ _ _ _ us hl => match us, hl with | [_, _], _ => rfl,
    g_law := PySem.W.mg_of X G a_law,
    f_law := f_law, fd_law := PySem.W.fnOf "law" "law" (defArgs s_law) (defBody s_law) (defScope s_law) .none kV_law dc_law pm_law an_law cd_law ct_law, F_law := fun_mk (st := s_law) l_law c_law k_law, b_law := (fun_mk (st := s_law) l_law c_law k_law).binds (ps := ["script"]) fun _ _ _ _ _ _ us hl => match us, hl with | [_], _ => rfl,
    z_bool := PySem.W.mg_none_of X G z_bool,
    z_int := PySem.W.mg_none_of X G z_int,
    z_isinstance := PySem.W.mg_none_of X G z_isinstance,
    z_len := PySem.W.mg_none_of X G z_len,
    z_range := PySem.W.mg_none_of X G z_range,
    z_str := PySem.W.mg_none_of X G z_str,
    z_tuple := PySem.W.mg_none_of X G z_tuple }
theorem all_mk {l : PySem.W.OpenLaw} {w : World} {K : PySem.W.Frag} {h : Heap} {mg : Str → Option Value} {fa : Addr} (X : K.In h) (G : h.Ns mainGlobals mg) (hfa : mg "law" = some (.ref fa)) {f_next_unlike f_address f__law_begun f__law_draw f__law_of f__law_string f__law_mark_at f__law_unlike f__law_chain f__law_address f__law_word f__law_marks f__law_is_right f_law : Addr} {od_next_unlike an_next_unlike od_address an_address od__law_begun an__law_begun od__law_draw an__law_draw od__law_of an__law_of od__law_string an__law_string od__law_mark_at an__law_mark_at od__law_unlike an__law_unlike od__law_chain an__law_chain od__law_address an__law_address od__law_word an__law_word od__law_marks an__law_marks od__law_is_right an__law_is_right od_law an_law : Option Addr} {oc_next_unlike kV_next_unlike dc_next_unlike pm_next_unlike cd_next_unlike ct_next_unlike oc_address kV_address dc_address pm_address cd_address ct_address oc__law_begun kV__law_begun dc__law_begun pm__law_begun cd__law_begun ct__law_begun oc__law_draw kV__law_draw dc__law_draw pm__law_draw cd__law_draw ct__law_draw oc__law_of kV__law_of dc__law_of pm__law_of cd__law_of ct__law_of oc__law_string kV__law_string dc__law_string pm__law_string cd__law_string ct__law_string oc__law_mark_at kV__law_mark_at dc__law_mark_at pm__law_mark_at cd__law_mark_at ct__law_mark_at oc__law_unlike kV__law_unlike dc__law_unlike pm__law_unlike cd__law_unlike ct__law_unlike oc__law_chain kV__law_chain dc__law_chain pm__law_chain cd__law_chain ct__law_chain oc__law_address kV__law_address dc__law_address pm__law_address cd__law_address ct__law_address oc__law_word kV__law_word dc__law_word pm__law_word cd__law_word ct__law_word oc__law_marks kV__law_marks dc__law_marks pm__law_marks cd__law_marks ct__law_marks oc__law_is_right kV__law_is_right dc__law_is_right pm__law_is_right cd__law_is_right ct__law_is_right oc_law kV_law dc_law pm_law cd_law ct_law : Value} {sl_next_unlike sl_address sl__law_begun sl__law_draw sl__law_of sl__law_string sl__law_mark_at sl__law_unlike sl__law_chain sl__law_address sl__law_word sl__law_marks sl__law_is_right sl_law : Array (Option Value)} 
    (a_next_unlike : PySem.W.nsIn K mainGlobals "next_unlike" = some (some (.ref f_next_unlike)))
    (l_next_unlike : K.lookup f_next_unlike = some ⟨oc_next_unlike, od_next_unlike, .func (PySem.W.fnOf "next_unlike" "next_unlike" (defArgs s_next_unlike) (defBody s_next_unlike) (defScope s_next_unlike) .none kV_next_unlike dc_next_unlike pm_next_unlike an_next_unlike cd_next_unlike ct_next_unlike), sl_next_unlike⟩) (c_next_unlike : PySem.W.codeIn K cd_next_unlike "next_unlike" = true) (k_next_unlike : PySem.W.keepIn K (.ref f_next_unlike) = true)
    (a_address : PySem.W.nsIn K mainGlobals "address" = some (some (.ref f_address)))
    (l_address : K.lookup f_address = some ⟨oc_address, od_address, .func (PySem.W.fnOf "address" "address" (defArgs s_address) (defBody s_address) (defScope s_address) .none kV_address dc_address pm_address an_address cd_address ct_address), sl_address⟩) (c_address : PySem.W.codeIn K cd_address "address" = true) (k_address : PySem.W.keepIn K (.ref f_address) = true)
    (a__law_begun : PySem.W.nsIn K mainGlobals "_law_begun" = some (some (.ref f__law_begun)))
    (l__law_begun : K.lookup f__law_begun = some ⟨oc__law_begun, od__law_begun, .func (PySem.W.fnOf "_law_begun" "_law_begun" (defArgs s__law_begun) (defBody s__law_begun) (defScope s__law_begun) .none kV__law_begun dc__law_begun pm__law_begun an__law_begun cd__law_begun ct__law_begun), sl__law_begun⟩) (c__law_begun : PySem.W.codeIn K cd__law_begun "_law_begun" = true) (k__law_begun : PySem.W.keepIn K (.ref f__law_begun) = true)
    (a__law_draw : PySem.W.nsIn K mainGlobals "_law_draw" = some (some (.ref f__law_draw)))
    (l__law_draw : K.lookup f__law_draw = some ⟨oc__law_draw, od__law_draw, .func (PySem.W.fnOf "_law_draw" "_law_draw" (defArgs s__law_draw) (defBody s__law_draw) (defScope s__law_draw) .none kV__law_draw dc__law_draw pm__law_draw an__law_draw cd__law_draw ct__law_draw), sl__law_draw⟩) (c__law_draw : PySem.W.codeIn K cd__law_draw "_law_draw" = true) (k__law_draw : PySem.W.keepIn K (.ref f__law_draw) = true)
    (a__law_of : PySem.W.nsIn K mainGlobals "_law_of" = some (some (.ref f__law_of)))
    (l__law_of : K.lookup f__law_of = some ⟨oc__law_of, od__law_of, .func (PySem.W.fnOf "_law_of" "_law_of" (defArgs s__law_of) (defBody s__law_of) (defScope s__law_of) .none kV__law_of dc__law_of pm__law_of an__law_of cd__law_of ct__law_of), sl__law_of⟩) (c__law_of : PySem.W.codeIn K cd__law_of "_law_of" = true) (k__law_of : PySem.W.keepIn K (.ref f__law_of) = true)
    (a__law_string : PySem.W.nsIn K mainGlobals "_law_string" = some (some (.ref f__law_string)))
    (l__law_string : K.lookup f__law_string = some ⟨oc__law_string, od__law_string, .func (PySem.W.fnOf "_law_string" "_law_string" (defArgs s__law_string) (defBody s__law_string) (defScope s__law_string) .none kV__law_string dc__law_string pm__law_string an__law_string cd__law_string ct__law_string), sl__law_string⟩) (c__law_string : PySem.W.codeIn K cd__law_string "_law_string" = true) (k__law_string : PySem.W.keepIn K (.ref f__law_string) = true)
    (a__law_mark_at : PySem.W.nsIn K mainGlobals "_law_mark_at" = some (some (.ref f__law_mark_at)))
    (l__law_mark_at : K.lookup f__law_mark_at = some ⟨oc__law_mark_at, od__law_mark_at, .func (PySem.W.fnOf "_law_mark_at" "_law_mark_at" (defArgs s__law_mark_at) (defBody s__law_mark_at) (defScope s__law_mark_at) .none kV__law_mark_at dc__law_mark_at pm__law_mark_at an__law_mark_at cd__law_mark_at ct__law_mark_at), sl__law_mark_at⟩) (c__law_mark_at : PySem.W.codeIn K cd__law_mark_at "_law_mark_at" = true) (k__law_mark_at : PySem.W.keepIn K (.ref f__law_mark_at) = true)
    (a__law_unlike : PySem.W.nsIn K mainGlobals "_law_unlike" = some (some (.ref f__law_unlike)))
    (l__law_unlike : K.lookup f__law_unlike = some ⟨oc__law_unlike, od__law_unlike, .func (PySem.W.fnOf "_law_unlike" "_law_unlike" (defArgs s__law_unlike) (defBody s__law_unlike) (defScope s__law_unlike) .none kV__law_unlike dc__law_unlike pm__law_unlike an__law_unlike cd__law_unlike ct__law_unlike), sl__law_unlike⟩) (c__law_unlike : PySem.W.codeIn K cd__law_unlike "_law_unlike" = true) (k__law_unlike : PySem.W.keepIn K (.ref f__law_unlike) = true)
    (a__law_chain : PySem.W.nsIn K mainGlobals "_law_chain" = some (some (.ref f__law_chain)))
    (l__law_chain : K.lookup f__law_chain = some ⟨oc__law_chain, od__law_chain, .func (PySem.W.fnOf "_law_chain" "_law_chain" (defArgs s__law_chain) (defBody s__law_chain) (defScope s__law_chain) .none kV__law_chain dc__law_chain pm__law_chain an__law_chain cd__law_chain ct__law_chain), sl__law_chain⟩) (c__law_chain : PySem.W.codeIn K cd__law_chain "_law_chain" = true) (k__law_chain : PySem.W.keepIn K (.ref f__law_chain) = true)
    (a__law_address : PySem.W.nsIn K mainGlobals "_law_address" = some (some (.ref f__law_address)))
    (l__law_address : K.lookup f__law_address = some ⟨oc__law_address, od__law_address, .func (PySem.W.fnOf "_law_address" "_law_address" (defArgs s__law_address) (defBody s__law_address) (defScope s__law_address) .none kV__law_address dc__law_address pm__law_address an__law_address cd__law_address ct__law_address), sl__law_address⟩) (c__law_address : PySem.W.codeIn K cd__law_address "_law_address" = true) (k__law_address : PySem.W.keepIn K (.ref f__law_address) = true)
    (a__law_word : PySem.W.nsIn K mainGlobals "_law_word" = some (some (.ref f__law_word)))
    (l__law_word : K.lookup f__law_word = some ⟨oc__law_word, od__law_word, .func (PySem.W.fnOf "_law_word" "_law_word" (defArgs s__law_word) (defBody s__law_word) (defScope s__law_word) .none kV__law_word dc__law_word pm__law_word an__law_word cd__law_word ct__law_word), sl__law_word⟩) (c__law_word : PySem.W.codeIn K cd__law_word "_law_word" = true) (k__law_word : PySem.W.keepIn K (.ref f__law_word) = true)
    (a__law_marks : PySem.W.nsIn K mainGlobals "_law_marks" = some (some (.ref f__law_marks)))
    (l__law_marks : K.lookup f__law_marks = some ⟨oc__law_marks, od__law_marks, .func (PySem.W.fnOf "_law_marks" "_law_marks" (defArgs s__law_marks) (defBody s__law_marks) (defScope s__law_marks) .none kV__law_marks dc__law_marks pm__law_marks an__law_marks cd__law_marks ct__law_marks), sl__law_marks⟩) (c__law_marks : PySem.W.codeIn K cd__law_marks "_law_marks" = true) (k__law_marks : PySem.W.keepIn K (.ref f__law_marks) = true)
    (a__law_is_right : PySem.W.nsIn K mainGlobals "_law_is_right" = some (some (.ref f__law_is_right)))
    (l__law_is_right : K.lookup f__law_is_right = some ⟨oc__law_is_right, od__law_is_right, .func (PySem.W.fnOf "_law_is_right" "_law_is_right" (defArgs s__law_is_right) (defBody s__law_is_right) (defScope s__law_is_right) .none kV__law_is_right dc__law_is_right pm__law_is_right an__law_is_right cd__law_is_right ct__law_is_right), sl__law_is_right⟩) (c__law_is_right : PySem.W.codeIn K cd__law_is_right "_law_is_right" = true) (k__law_is_right : PySem.W.keepIn K (.ref f__law_is_right) = true)
    (a_law : PySem.W.nsIn K mainGlobals "law" = some (some (.ref f_law)))
    (l_law : K.lookup f_law = some ⟨oc_law, od_law, .func (PySem.W.fnOf "law" "law" (defArgs s_law) (defBody s_law) (defScope s_law) .none kV_law dc_law pm_law an_law cd_law ct_law), sl_law⟩) (c_law : PySem.W.codeIn K cd_law "law" = true) (k_law : PySem.W.keepIn K (.ref f_law) = true)
    (z_bool : PySem.W.nsIn K mainGlobals "bool" = some none)
    (z_int : PySem.W.nsIn K mainGlobals "int" = some none)
    (z_isinstance : PySem.W.nsIn K mainGlobals "isinstance" = some none)
    (z_len : PySem.W.nsIn K mainGlobals "len" = some none)
    (z_range : PySem.W.nsIn K mainGlobals "range" = some none)
    (z_str : PySem.W.nsIn K mainGlobals "str" = some none)
    (z_tuple : PySem.W.nsIn K mainGlobals "tuple" = some none) :
    ∃ fd : FuncData, (∀ (s : Shared) (v : Value), BindsTo s fd ⟨[v], []⟩ [("script", v)]) ∧ ∀ base : Heap, K.In base → base.Ns mainGlobals mg → FnOk l.prog w K mg base CX0 5 fa fd ["script"] (sp_law K) := by
  have e := hfa.symm.trans (PySem.W.mg_of X G a_law)
  cases e
  exact ⟨_, fun s v => .of_eq rfl, fun base _ _ => ok_law (top_mk X G a_next_unlike l_next_unlike c_next_unlike k_next_unlike a_address l_address c_address k_address a__law_begun l__law_begun c__law_begun k__law_begun a__law_draw l__law_draw c__law_draw k__law_draw a__law_of l__law_of c__law_of k__law_of a__law_string l__law_string c__law_string k__law_string a__law_mark_at l__law_mark_at c__law_mark_at k__law_mark_at a__law_unlike l__law_unlike c__law_unlike k__law_unlike a__law_chain l__law_chain c__law_chain k__law_chain a__law_address l__law_address c__law_address k__law_address a__law_word l__law_word c__law_word k__law_word a__law_marks l__law_marks c__law_marks k__law_marks a__law_is_right l__law_is_right c__law_is_right k__law_is_right a_law l_law c_law k_law z_bool z_int z_isinstance z_len z_range z_str z_tuple)⟩
end Tw
open PySem PySem.W PyProof.Rows
set_option maxHeartbeats 0 in
theorem PySem.Challenge.cw_twicedial_k57_unlike_marks_and_addresses_holds : PySem.Challenge.rw_twicedial_k57_unlike_marks_and_addresses.Holds := by
  w_on; o_law; k_head; (case hw => w_witness2)
  k_fill
  refine L2.walk_ofB (l := PySem.Challenge.rw_twicedial_k57_unlike_marks_and_addresses) (n := 63) (k := 5) (x := "script") (CX := fun _ => L2.CX0) (sp := fun w => Tw.sp_law _) rfl (by decide) rfl ⟨rfl, by decide, by decide⟩ (fun w h Y => PySem.W.kIn_of Y) ?F (fun _ _ a ns hl hb _ hS => ⟨a, ns, rfl, hS, hl, hb, fun _ => rfl⟩) (fun _ _ _ _ _ h => h)
  case F =>
    intro w mg fa h KX G hmg
    refine' Tw.all_mk KX G hmg ?a_next_unlike ?l_next_unlike ?c_next_unlike ?k_next_unlike ?a_address ?l_address ?c_address ?k_address ?a__law_begun ?l__law_begun ?c__law_begun ?k__law_begun ?a__law_draw ?l__law_draw ?c__law_draw ?k__law_draw ?a__law_of ?l__law_of ?c__law_of ?k__law_of ?a__law_string ?l__law_string ?c__law_string ?k__law_string ?a__law_mark_at ?l__law_mark_at ?c__law_mark_at ?k__law_mark_at ?a__law_unlike ?l__law_unlike ?c__law_unlike ?k__law_unlike ?a__law_chain ?l__law_chain ?c__law_chain ?k__law_chain ?a__law_address ?l__law_address ?c__law_address ?k__law_address ?a__law_word ?l__law_word ?c__law_word ?k__law_word ?a__law_marks ?l__law_marks ?c__law_marks ?k__law_marks ?a__law_is_right ?l__law_is_right ?c__law_is_right ?k__law_is_right ?a_law ?l_law ?c_law ?k_law ?z_bool ?z_int ?z_isinstance ?z_len ?z_range ?z_str ?z_tuple
    (case a_next_unlike => k_is); (case l_next_unlike => k_is); (case c_next_unlike => k_is); (case k_next_unlike => k_is); (case a_address => k_is); (case l_address => k_is); (case c_address => k_is); (case k_address => k_is); (case a__law_begun => k_is); (case l__law_begun => k_is); (case c__law_begun => k_is); (case k__law_begun => k_is); (case a__law_draw => k_is); (case l__law_draw => k_is); (case c__law_draw => k_is); (case k__law_draw => k_is); (case a__law_of => k_is); (case l__law_of => k_is); (case c__law_of => k_is); (case k__law_of => k_is); (case a__law_string => k_is); (case l__law_string => k_is); (case c__law_string => k_is); (case k__law_string => k_is); (case a__law_mark_at => k_is); (case l__law_mark_at => k_is); (case c__law_mark_at => k_is); (case k__law_mark_at => k_is); (case a__law_unlike => k_is); (case l__law_unlike => k_is); (case c__law_unlike => k_is); (case k__law_unlike => k_is); (case a__law_chain => k_is); (case l__law_chain => k_is); (case c__law_chain => k_is); (case k__law_chain => k_is); (case a__law_address => k_is); (case l__law_address => k_is); (case c__law_address => k_is); (case k__law_address => k_is); (case a__law_word => k_is); (case l__law_word => k_is); (case c__law_word => k_is); (case k__law_word => k_is); (case a__law_marks => k_is); (case l__law_marks => k_is); (case c__law_marks => k_is); (case k__law_marks => k_is); (case a__law_is_right => k_is); (case l__law_is_right => k_is); (case c__law_is_right => k_is); (case k__law_is_right => k_is); (case a_law => k_is); (case l_law => k_is); (case c_law => k_is); (case k_law => k_is); (case z_bool => k_is); (case z_int => k_is); (case z_isinstance => k_is); (case z_len => k_is); (case z_range => k_is); (case z_str => k_is); (case z_tuple => k_is)
