import PyProof.Rows.All
import Wide.All
import OpenK.AllK
import Wide.FinOn
import HandS.ForMost
import HandS.IsInst
import HandS.TupAny
import HandS.TupMul
import HandS.Codes
import HandS.Style
import HandS.Wide
import PyProof.StrBlock2
import HandS.DictComp
import HandS.TupLe
import HandS.Dict
import HandS.List
import HandS.Flow
import HandS.Text
import HandS.Rev
import HandS.Iter
import PyProof.EnumMake
import PyProof.Draws
import KE.GoesMore
import HandS.DictTup
import HandS.SortInts
import KE.KDictWalk
import KE.KItemsList
import HandS.SortRule
import HandS.NamedTupSort
import PyProof.Rows.StrRev
import KE.KRevSl
import HandS.More
import HandS.Deep
import PyProof.P3In
import PySem.Challenge.RW_nodoubt_k54_whole_reasons_by_whomever
set_option Elab.async false
set_option maxRecDepth 100000
set_option linter.all false
namespace My
open PySem PySem.Spec PyProof.Rows L2
/-! ### a def of the text, and what a caller needs of it -/
structure Df (K : PySem.W.Frag) (mg : Str → Option Value) (x : Str) (st : Stmt) (ps : List Str) (f : Addr) (fd : FuncData) : Prop where
  F : Fun K x x st f fd
  b : Binds K fd ps []
  g : mg x = some (.ref f)
structure Cl (P : Program) (w : World) (K : PySem.W.Frag) (mg : Str → Option Value) (base : Heap) (k : Nat) (x : Str) (ps : List Str) (sp : Sp) : Prop where
  ex : ∃ (f : Addr) (fd : FuncData), FnOk P w K mg base CX0 k f fd ps sp ∧ Binds K fd ps [] ∧ mg x = some (.ref f) ∧ PySem.W.keepIn K (.ref f) = true
theorem Df.cl {P : Program} {w : World} {K : PySem.W.Frag} {mg : Str → Option Value} {base : Heap} {x : Str} {st : Stmt} {ps : List Str} {f : Addr} {fd : FuncData} {k : Nat} {sp : Sp} (D : Df K mg x st ps f fd) (h : FnOk P w K mg base CX0 k f fd ps sp) : Cl P w K mg base k x ps sp :=
  ⟨f, fd, h, D.b, D.g, D.F.kp⟩
theorem pe_cl {X : Cx} {k : Nat} {x : Str} {ps : List Str} {sp : Sp} {p pos : Pos} {e : Expr} {es : List Expr} {t : TA} (C : Cl X.prog X.w X.K X.mg X.base k x ps sp) (hr : Room k X.A) (hg : Gl X x) (ha : PA X (e :: es) t)
    (hdb : (x == ("__debug__" : Str)) = false := by decide) (he : starEach (e :: es) X.env = (false, eval e X.env) :: starEach es X.env := by rfl) (hpl : (backTo pos (starEach es X.env)).any (·.1) = false := by rfl) :
    PE X (.Call (.Name x p) (e :: es) [] pos) (tCall sp [] E0 t) := by
  obtain ⟨f, fd, F, b, m, kp⟩ := C.ex
  exact pe_call F hr hg m kp b .nil pass0 ha hdb he hpl
/-! ### lists of values -/
theorem vals_of : ∀ (vs : List V) (us : List Value), vs.length = us.length → (∀ (j : Nat) (v : V) (u : Value), vs[j]? = some v → us[j]? = some u → RelV v u) → Vals vs us
  | [], [], _, _ => .nil
  | [], _ :: _, h, _ => by cases h
  | _ :: _, [], h, _ => by cases h
  | v :: vs, u :: us, h, k => .cons (k 0 v u rfl rfl) (vals_of vs us (Nat.succ.inj h) fun j v' u' h1 h2 => k (j + 1) v' u' h1 h2)
/-! ### list(text) -/
def signsV (z : Str) : List V := z.cps.toList.map fun c => V.str ⟨#[c]⟩
theorem call_list_text {X : Cx} (hc : X.calm = true) : CallR X (.type "list") (fun xs H Q => ∃ z : Str, xs = [.str z] ∧ z.length ≤ sizeLine ∧ ∀ l, H l = none → Q (.ref l) (upd H l (.lst (signsV z)))) := by
  intro pins s σ H xs us Q I r h
  obtain ⟨z, rfl, hz, q⟩ := h
  obtain ⟨u, rfl, t, rfl⟩ := vals1 r
  have hz' : z.cps.size ≤ sizeLine := hz
  refine call_list_str (I.ok.hd hc) z t (hn := hz) fun h' tk acc' c' hk hS hacc => ?_
  have vals : Vals (signsV z) acc'.toList := by
    refine vals_of _ _ (by unfold signsV; simp [hacc.1]) fun j v u h1 h2 => ?_
    obtain ⟨c, t', hc', rfl⟩ := hacc.2 j u (by simpa using h2)
    unfold signsV at h1
    rw [List.getElem?_map] at h1
    rw [show z.cps.toList[j]? = some c by simpa using hc'] at h1
    cases h1
    exact ⟨_, rfl⟩
  exact ⟨.ref s.heap.objs.size, _, I.laid (t' := tk) hk (Nat.le_refl _) (show ObjOk X.prog X.w _ h' _ (.lst (signsV z)) from ⟨by unfold signsV; simpa using hz', acc'.toList, c', vals, by simpa using hS⟩), rfl, q _ (I.hok.fresh (Nat.le_refl _))⟩

/-- text * number -/
theorem op_mul_str {X : Cx} : OpR X (binaryOp .Mult) (fun x y H Q => ∃ z n, x = .str z ∧ y = .int n ∧ MulOk z n ∧ Q (.str (Txt.mul z n)) H) := by
  intro pins s σ H x y v u Q I rx ry h
  obtain ⟨z, n, rfl, rfl, hok, q⟩ := h
  obtain ⟨t, rfl⟩ := rx
  obtain ⟨t', rfl⟩ := ry
  exact SB.mul hok fun t' k => ⟨.str _, H, I.tok k, ⟨_, rfl⟩, q⟩
/-! ### heaps -/
theorem same_upd {H : Hp} {p : Addr} {o : HO} (h : H p = none) : Same H (upd H p o) := fun b u q => by rw [upd_ne (ne_of_none q h)]; exact q
/-- all but what stands at a is as it was -/
def Keep (a : Addr) (H H' : Hp) : Prop := ∀ b o, H b = some o → b ≠ a → H' b = some o
theorem Keep.refl (a : Addr) (H : Hp) : Keep a H H := fun _ _ h _ => h
theorem Keep.trans {a : Addr} {H H1 H2 : Hp} (x : Keep a H H1) (y : Keep a H1 H2) : Keep a H H2 := fun b o h n => y b o (x b o h n) n
theorem Keep.same {a : Addr} {H H' : Hp} (x : Same H H') : Keep a H H' := fun b o h _ => x b o h
theorem Keep.new {a p : Addr} {H : Hp} {o : HO} (h : H p = none) : Keep a H (upd H p o) := Keep.same (same_upd h)
theorem Keep.store {a : Addr} {H : Hp} {o : HO} : Keep a H (upd H a o) := fun b u q n => by rw [upd_ne n]; exact q
/-- tuples stay, lists stay lists -/
structure Pers (H H' : Hp) : Prop where
  tup : ∀ b xs, H b = some (.tup xs) → H' b = some (.tup xs)
  lst : ∀ b xs, H b = some (.lst xs) → ∃ ys, H' b = some (.lst ys)
theorem Pers.refl (H : Hp) : Pers H H := ⟨fun _ _ h => h, fun _ xs h => ⟨xs, h⟩⟩
theorem Pers.trans {H H1 H2 : Hp} (x : Pers H H1) (y : Pers H1 H2) : Pers H H2 := ⟨fun b xs h => y.tup b xs (x.tup b xs h), fun b xs h => by
  obtain ⟨ys, h1⟩ := x.lst b xs h
  exact y.lst b ys h1⟩
theorem Pers.same {H H' : Hp} (x : Same H H') : Pers H H' := ⟨fun b xs h => x b _ h, fun b xs h => ⟨xs, x b _ h⟩⟩
theorem Pers.new {p : Addr} {H : Hp} {o : HO} (h : H p = none) : Pers H (upd H p o) := Pers.same (same_upd h)
theorem Pers.store {a : Addr} {H : Hp} {xs ys : List V} (h : H a = some (.lst xs)) : Pers H (upd H a (.lst ys)) := ⟨fun b zs q => by
  have n : b ≠ a := fun e => by
    rw [e, h] at q
    cases q
  rw [upd_ne n]
  exact q, fun b zs q => by
  by_cases n : b = a
  · subst n
    exact ⟨ys, upd_same⟩
  · rw [upd_ne n]
    exact ⟨zs, q⟩⟩
/-! ### the stream of draws -/
def StrmW (H : Hp) (a l : Addr) (c k : Int) (ns : List Int) : Prop := H a = some (.lst [.ref l, .int c, .int k]) ∧ H l = some (.lst (ns.map V.int)) ∧ l ≠ a ∧ 0 ≤ k
def Strm (H : Hp) (a : Addr) : Prop := ∃ l c k ns, StrmW H a l c k ns
/-- what a call that draws leaves: all but the stream as it was -/
structure Go (a : Addr) (H H' : Hp) : Prop where
  keep : Keep a H H'
  st0 : Strm H a
  mv : ∀ l c k ns, StrmW H a l c k ns → ∃ c' k' ns', StrmW H' a l c' k' ns'
theorem Go.st {a : Addr} {H H' : Hp} (g : Go a H H') : Strm H' a := by
  obtain ⟨l, c, k, ns, h⟩ := g.st0
  obtain ⟨c', k', ns', h'⟩ := g.mv l c k ns h
  exact ⟨l, c', k', ns', h'⟩
theorem Go.refl {a : Addr} {H : Hp} (h : Strm H a) : Go a H H := ⟨Keep.refl a H, h, fun l c k ns h => ⟨c, k, ns, h⟩⟩
theorem Go.trans {a : Addr} {H H1 H2 : Hp} (x : Go a H H1) (y : Go a H1 H2) : Go a H H2 := ⟨x.keep.trans y.keep, x.st0, fun l c k ns h => by
  obtain ⟨c', k', ns', h'⟩ := x.mv l c k ns h
  exact y.mv l c' k' ns' h'⟩
theorem StrmW.same {a l : Addr} {c k : Int} {ns : List Int} {H H' : Hp} (h : StrmW H a l c k ns) (s : Same H H') : StrmW H' a l c k ns := ⟨s _ _ h.1, s _ _ h.2.1, h.2.2.1, h.2.2.2⟩
theorem Strm.same {a : Addr} {H H' : Hp} (h : Strm H a) (s : Same H H') : Strm H' a := by
  obtain ⟨l, c, k, ns, h⟩ := h
  exact ⟨l, c, k, ns, h.same s⟩
theorem Go.same {a : Addr} {H H' : Hp} (h : Strm H a) (s : Same H H') : Go a H H' := ⟨Keep.same s, h, fun l c k ns w => ⟨c, k, ns, w.same s⟩⟩
theorem Go.new {a p : Addr} {H : Hp} {o : HO} (h : Strm H a) (n : H p = none) : Go a H (upd H p o) := Go.same h (same_upd n)
/-- a store to what is new since H -/
theorem Go.loc {a p : Addr} {H H' : Hp} {o : HO} (g : Go a H H') (n : H p = none) : Go a H (upd H' p o) := ⟨fun b u hb hn => by
  rw [upd_ne (ne_of_none hb n)]
  exact g.keep b u hb hn, g.st0, fun l c k ns h => by
  obtain ⟨c', k', ns', h1, h2, h3, h4⟩ := g.mv l c k ns h
  exact ⟨c', k', ns', by rw [upd_ne (ne_of_none h.1 n)]; exact h1, by rw [upd_ne (ne_of_none h.2.1 n)]; exact h2, h3, h4⟩⟩
theorem Strm.isl {a : Addr} {H : Hp} (h : Strm H a) : ∃ xs, H a = some (.lst xs) := by
  obtain ⟨l, c, k, ns, h1, h2⟩ := h
  exact ⟨_, h1⟩
theorem Go.pers {a : Addr} {H H' : Hp} (g : Go a H H') : Pers H H' := by
  obtain ⟨xs, h1⟩ := g.st0.isl
  obtain ⟨ys, h2⟩ := g.st.isl
  refine ⟨fun b zs q => g.keep b _ q fun e => ?_, fun b zs q => ?_⟩
  · rw [e, h1] at q
    cases q
  · by_cases n : b = a
    · subst n
      exact ⟨ys, h2⟩
    · exact ⟨zs, g.keep b _ q n⟩
theorem Strm.ne {a p : Addr} {H : Hp} (h : Strm H a) (n : H p = none) : a ≠ p := by
  obtain ⟨xs, h1⟩ := h.isl
  exact ne_of_none h1 n
theorem Strm.neT {a p : Addr} {H : Hp} {xs : List V} (h : Strm H a) (n : H p = some (.tup xs)) : p ≠ a := fun e => by
  obtain ⟨ys, h1⟩ := h.isl
  rw [e, h1] at n
  cases n
/-! ### two lists, item by item -/
inductive Two {α β : Type} (R : α → β → Prop) : List α → List β → Prop where
  | nil : Two R [] []
  | cons {a : α} {b : β} {as : List α} {bs : List β} (h : R a b) (t : Two R as bs) : Two R (a :: as) (b :: bs)
theorem Two.len {α β : Type} {R : α → β → Prop} {as : List α} {bs : List β} (h : Two R as bs) : as.length = bs.length := by
  induction h with
  | nil => rfl
  | cons _ _ ih => rw [List.length_cons, List.length_cons, ih]
theorem Two.mono {α β : Type} {R S : α → β → Prop} (k : ∀ a b, R a b → S a b) {as : List α} {bs : List β} (h : Two R as bs) : Two S as bs := by
  induction h with
  | nil => exact .nil
  | cons h _ ih => exact .cons (k _ _ h) ih
theorem Two.monoM {α β : Type} {R S : α → β → Prop} {as : List α} {bs : List β} (h : Two R as bs) (k : ∀ a b, a ∈ as → b ∈ bs → R a b → S a b) : Two S as bs := by
  induction h with
  | nil => exact .nil
  | cons h _ ih => exact .cons (k _ _ (List.mem_cons_self ..) (List.mem_cons_self ..) h) (ih fun a b ha hb => k a b (List.mem_cons_of_mem _ ha) (List.mem_cons_of_mem _ hb))
theorem Two.app {α β : Type} {R : α → β → Prop} {as as' : List α} {bs bs' : List β} (h : Two R as bs) (h' : Two R as' bs') : Two R (as ++ as') (bs ++ bs') := by
  induction h with
  | nil => exact h'
  | cons h _ ih => exact .cons h ih
theorem Two.get {α β : Type} {R : α → β → Prop} {as : List α} {bs : List β} (h : Two R as bs) : ∀ {i : Nat} {a : α}, as[i]? = some a → ∃ b, bs[i]? = some b ∧ R a b := by
  induction h with
  | nil => intro i a h; simp at h
  | cons h _ ih =>
    intro i a e
    cases i with
    | zero => cases e; exact ⟨_, rfl, h⟩
    | succ i => exact ih e
theorem Two.get2 {α β : Type} {R : α → β → Prop} {as : List α} {bs : List β} (h : Two R as bs) {i : Nat} {a : α} {b : β} (ha : as[i]? = some a) (hb : bs[i]? = some b) : R a b := by
  obtain ⟨b', h1, h2⟩ := h.get ha
  rw [h1] at hb
  cases hb
  exact h2
theorem Two.of_get {α β : Type} {R : α → β → Prop} : ∀ {as : List α} {bs : List β}, as.length = bs.length → (∀ (i : Nat) (a : α) (b : β), as[i]? = some a → bs[i]? = some b → R a b) → Two R as bs
  | [], [], _, _ => .nil
  | [], _ :: _, h, _ => by cases h
  | _ :: _, [], h, _ => by cases h
  | a :: as, b :: bs, h, k => .cons (k 0 a b rfl rfl) (Two.of_get (Nat.succ.inj h) fun i a' b' h1 h2 => k (i + 1) a' b' h1 h2)
theorem Two.unsnoc {α β : Type} {R : α → β → Prop} {as : List α} {bs : List β} {b : β} (h : Two R as (bs ++ [b])) : ∃ as' a, as = as' ++ [a] ∧ Two R as' bs ∧ R a b := by
  induction bs generalizing as with
  | nil =>
    cases h with
    | cons h t =>
      cases t
      exact ⟨[], _, rfl, .nil, h⟩
  | cons c bs ih =>
    cases h with
    | cons h t =>
      obtain ⟨as', a, rfl, h1, h2⟩ := ih t
      exact ⟨_ :: as', a, rfl, .cons h h1, h2⟩
theorem Two.map_right {α β γ : Type} {R : α → γ → Prop} {f : β → γ} {as : List α} {bs : List β} (h : Two (fun a b => R a (f b)) as bs) : Two R as (bs.map f) := by
  induction h with
  | nil => exact .nil
  | cons h _ ih => exact .cons h ih
/-! ### data: what stands at a value -/
inductive D where
  | str (z : Str)
  | tup (ds : List D)
  | lst
  | flat
inductive Rep (H : Hp) : V → D → Prop where
  | str {z : Str} (h : z.length ≤ 1000) : Rep H (.str z) (.str z)
  | tup {p : Addr} {xs : List V} {ds : List D} (h : H p = some (.tup xs)) (z : xs.length ≤ 100000) (l : xs.length = ds.length) (k : ∀ (i : Nat) (x : V) (d : D), xs[i]? = some x → ds[i]? = some d → Rep H x d) : Rep H (.ref p) (.tup ds)
  | lst {p : Addr} {xs : List V} (h : H p = some (.lst xs)) : Rep H (.ref p) .lst
  | non : Rep H .non .flat
  | bl (b : Bool) : Rep H (.bl b) .flat
  | int (i : Int) : Rep H (.int i) .flat
theorem Rep.tup2 {H : Hp} {p : Addr} {xs : List V} {ds : List D} (h : H p = some (.tup xs)) (z : xs.length ≤ 100000) (k : Two (Rep H) xs ds) : Rep H (.ref p) (.tup ds) := .tup h z k.len fun _ _ _ h1 h2 => k.get2 h1 h2
theorem Rep.pers {H H' : Hp} (k : Pers H H') {v : V} {d : D} (h : Rep H v d) : Rep H' v d := by
  induction h with
  | str h => exact .str h
  | tup h z l _ ih => exact .tup (k.tup _ _ h) z l ih
  | lst h =>
    obtain ⟨ys, h1⟩ := k.lst _ _ h
    exact .lst h1
  | non => exact .non
  | bl b => exact .bl b
  | int i => exact .int i
theorem Rep.pers2 {H H' : Hp} (k : Pers H H') {vs : List V} {ds : List D} (h : Two (Rep H) vs ds) : Two (Rep H') vs ds := h.mono fun _ _ => Rep.pers k
theorem Rep.untup {H : Hp} {v : V} {ds : List D} (h : Rep H v (.tup ds)) : ∃ p xs, v = .ref p ∧ H p = some (.tup xs) ∧ xs.length ≤ 100000 ∧ Two (Rep H) xs ds := by
  cases h with
  | tup h z l k => exact ⟨_, _, rfl, h, z, Two.of_get l k⟩
def isStr : D → Bool | .str _ => true | _ => false
def isTup : D → Bool | .tup _ => true | _ => false
/-- its type, for isinstance -/
theorem Rep.ty {K : PySem.W.Frag} {H : Hp} {v : V} {d : D} (h : Rep H v d) : ∃ t : String, TyX K H v (.type t) ∧ PySem.W.kitOne K (.type t) (.type "str") = some (isStr d) ∧ PySem.W.kitOne K (.type t) (.type "tuple") = some (isTup d) := by
  cases h with
  | str h => exact ⟨"str", .base (.str _), kit_ty (r := true) (by decide +kernel), kit_ty (r := false) (by decide +kernel)⟩
  | tup h _ _ _ => exact ⟨"tuple", .base (.tup h), kit_ty (r := false) (by decide +kernel), kit_ty (r := true) (by decide +kernel)⟩
  | lst h => exact ⟨"list", .base (.lst h), kit_ty (r := false) (by decide +kernel), kit_ty (r := false) (by decide +kernel)⟩
  | non => exact ⟨"NoneType", .base .non, kit_ty (r := false) (by decide +kernel), kit_ty (r := false) (by decide +kernel)⟩
  | bl b => exact ⟨"bool", .base (.bl _), kit_ty (r := false) (by decide +kernel), kit_ty (r := false) (by decide +kernel)⟩
  | int i => exact ⟨"int", .base (.int _), kit_ty (r := false) (by decide +kernel), kit_ty (r := false) (by decide +kernel)⟩
/-! ### short words for readings -/
theorem vstr {a b : Str} (h : decide (V.str a = V.str b) = true) : a = b := by
  have e := of_decide_eq_true h
  cases e
  rfl
theorem vstrN {a b : Str} (h : ¬ decide (V.str a = V.str b) = true) : ¬ a = b := fun e => h (decide_eq_true (congrArg V.str e))
theorem tyes {σ : L2.St} {H : Hp} {A B : Hp → Prop} (h : A H) : tYes σ H (fun b H3 => if b = true then A H3 else B H3) := by
  show (if true = true then A H else B H)
  rw [if_pos rfl]
  exact h
theorem at_zero {x : V} {xs : List V} : atI (x :: xs) 0 = some x := at_of (j := 0) rfl rfl
theorem at_one {x y : V} {xs : List V} : atI (x :: y :: xs) 1 = some y := at_of (j := 1) rfl rfl
theorem or2 {a b : Prop} {A B : Prop} [Decidable a] [Decidable b] (h1 : a ∨ b → A) (h2 : ¬ (a ∨ b) → B) : if a then A else if b then A else B := by
  by_cases c : a
  · rw [if_pos c]
    exact h1 (.inl c)
  · rw [if_neg c]
    by_cases d : b
    · rw [if_pos d]
      exact h1 (.inr d)
    · rw [if_neg d]
      exact h2 fun z => z.elim c d
theorem lc_str {z : Str} {g : TG} {tt : TT} {te : TE} {vs : List Nat} {σ : L2.St} {H1 : Hp} {D : Addr} {Qd : Hp → Prop} (Pv : Nat → Hp → Prop) (h0 : Pv 0 (upd H1 D (.lst [])))
    (hs : ∀ i c H, z.cps[i]? = some c → Pv i H → g (.str ⟨#[c]⟩) (wipe σ vs) H fun σ2 H2 => wipe σ2 vs = wipe σ vs ∧ tt σ2 H2 fun b H3 =>
      if b = true then te σ2 H3 fun y H4 => ∃ acc, H4 D = some (.lst acc) ∧ acc.length < sizeLine ∧ Pv (i + 1) (upd H4 D (.lst (acc ++ [y]))) else Pv (i + 1) H3) (hd : ∀ H, Pv z.cps.size H → Qd H) :
    ∃ W : Nat → Nat → Hp → Prop, (∃ m, W 0 m (upd H1 D (.lst []))) ∧ ∀ i m H, W i m H →
      ((Its z).stop i H ∧ Qd H) ∨ ((Its z).go i H ∧ ∃ Nx : Hp → Prop, (∀ H', Nx H' → ∃ m', m' < m ∧ W (i + 1) m' H') ∧ ∀ x H', (Its z).yld i H x H' → g x (wipe σ vs) H' fun σ2 H2 => wipe σ2 vs = wipe σ vs ∧ tt σ2 H2 fun b H3 =>
        if b = true then te σ2 H3 fun y H4 => ∃ acc, H4 D = some (.lst acc) ∧ acc.length < sizeLine ∧ Nx (upd H4 D (.lst (acc ++ [y]))) else Nx H3) := by
  refine ⟨fun i m H => m = z.cps.size - i ∧ i ≤ z.cps.size ∧ Pv i H, ⟨z.cps.size, by simp, Nat.zero_le _, h0⟩, ?_⟩
  rintro i m H ⟨rfl, hi, p⟩
  by_cases hlt : i < z.cps.size
  · refine .inr ⟨hlt, Pv (i + 1), fun H' p' => ⟨z.cps.size - (i + 1), by omega, rfl, hlt, p'⟩, fun x H' y => ?_⟩
    obtain ⟨rfl, c, hc, rfl⟩ := y
    exact hs i c _ hc p
  · have e : i = z.cps.size := by omega
    subst e
    exact .inl ⟨Nat.le_refl _, hd H p⟩
/-! ### plain data, for the law's own comparison -/
inductive J where
  | non
  | bl (b : Bool)
  | int (i : Int)
  | str (z : Str)
  | tup (js : List J)
  | lst (js : List J)
inductive RepJ (H : Hp) : V → J → Nat → Prop where
  | non {n : Nat} : RepJ H .non .non n
  | bl {n : Nat} (b : Bool) : RepJ H (.bl b) (.bl b) n
  | int {n : Nat} (i : Int) : RepJ H (.int i) (.int i) n
  | str {n : Nat} (z : Str) : RepJ H (.str z) (.str z) n
  | tup {n : Nat} {p : Addr} {xs : List V} {js : List J} (h : H p = some (.tup xs)) (z : xs.length ≤ 100000) (l : xs.length = js.length) (k : ∀ (i : Nat) (x : V) (j : J), xs[i]? = some x → js[i]? = some j → RepJ H x j n) : RepJ H (.ref p) (.tup js) (n + 1)
  | lst {n : Nat} {p : Addr} {xs : List V} {js : List J} (h : H p = some (.lst xs)) (z : xs.length ≤ 100000) (l : xs.length = js.length) (k : ∀ (i : Nat) (x : V) (j : J), xs[i]? = some x → js[i]? = some j → RepJ H x j n) : RepJ H (.ref p) (.lst js) (n + 1)
theorem RepJ.same {H H' : Hp} (s : Same H H') {v : V} {j : J} {n : Nat} (h : RepJ H v j n) : RepJ H' v j n := by
  induction h with
  | non => exact .non
  | bl b => exact .bl b
  | int i => exact .int i
  | str z => exact .str z
  | tup h z l _ ih => exact .tup (s _ _ h) z l ih
  | lst h z l _ ih => exact .lst (s _ _ h) z l ih
/-! ### the promises of the draws -/
def spStream (K : PySem.W.Frag) : Sp := fun vs H Q _ => ∃ (s : Addr) (ns : List Int), vs = [.ref s] ∧ SqL K H s (ns.map V.int) ∧ ns.length ≤ 63 ∧ ∀ a H', Same H H' → H a = none → Strm H' a → Q (.ref a) H'
def spNext : Sp := fun vs H Q _ => ∃ (a : Addr) (m : Int), vs = [.ref a, .int m] ∧ Strm H a ∧ 0 < m ∧ m < 1000000 ∧ ∀ d H', 0 ≤ d → d < m → Go a H H' → Q (.int d) H'
def spPick (K : PySem.W.Frag) : Sp := fun vs H Q _ => ∃ (a r : Addr) (xs : List V), vs = [.ref a, .ref r] ∧ Strm H a ∧ SqL K H r xs ∧ r ≠ a ∧ 0 < xs.length ∧ xs.length < 1000 ∧ ∀ v H', v ∈ xs → Go a H H' → Q v H'
theorem Go.seq {K : PySem.W.Frag} {a r : Addr} {H H' : Hp} {xs : List V} (g : Go a H H') (n : r ≠ a) (h : SqL K H r xs) : SqL K H' r xs := by
  rcases h with (h | ⟨o, h⟩) | h
  · exact .inl (.inl (g.keep _ _ h n))
  · exact .inl (.inr ⟨o, g.keep _ _ h n⟩)
  · exact .inr h
end My
namespace My
open PySem PySem.Spec PyProof.Rows L2
/-! ### letters and words -/
def isLet (z : Str) : Bool := match z.cps.toList with | [c] => decide (97 ≤ c) && decide (c ≤ 100) | _ => false
abbrev sJoin : Str := "join"
abbrev sOr : Str := "or"
abbrev sMaybe : Str := "maybe"
abbrev sMany : Str := "many"
abbrev sNo : Str := ""
theorem jo : ¬ sJoin = sOr := by decide +kernel
theorem jm : ¬ sJoin = sMaybe := by decide +kernel
theorem jn : ¬ sJoin = sMany := by decide +kernel
theorem je : ¬ sJoin = sNo := by decide +kernel
theorem om : ¬ sOr = sMaybe := by decide +kernel
theorem on : ¬ sOr = sMany := by decide +kernel
theorem oe : ¬ sOr = sNo := by decide +kernel
theorem mn : ¬ sMaybe = sMany := by decide +kernel
theorem lJ : sJoin.length = 4 := by decide +kernel
theorem lO : sOr.length = 2 := by decide +kernel
theorem lM : sMaybe.length = 5 := by decide +kernel
theorem lN : sMany.length = 4 := by decide +kernel
theorem lE : sNo.length = 0 := by decide +kernel
/-! ### the parts directly in a datum -/
def begins (w : Str) : D → Bool
  | .tup (.str x :: _) => decide (x = w)
  | _ => false
def rowOk (w : Str) : D → Bool
  | .tup ys => decide (2 ≤ ys.length) && !(ys.any (begins w))
  | _ => false
def rowItems : D → Option (List D)
  | .tup ys => some ys
  | _ => none
def innerPair (w : Str) (y : D) : Option (List D) := if w = sMaybe ∨ w = sMany then some [y] else if (w = sJoin ∨ w = sOr) ∧ rowOk w y = true then rowItems y else none
def inner : D → Option (List D)
  | .str z => if z = sNo ∨ isLet z = true then some [] else none
  | .tup [.str w, y] => innerPair w y
  | _ => none
theorem inner_pair (w : Str) (y : D) : inner (.tup [.str w, y]) = innerPair w y := rfl
/-- a part of a row does not begin with an object -/
def notObj : D → Bool
  | .tup _ => false
  | .lst => false
  | _ => true
def headFlat : D → Bool
  | .tup (x :: _) => notObj x
  | _ => true
def rowFlat : D → Bool
  | .tup ys => ys.all headFlat
  | _ => true
/-- what the looks at a datum ask: items of a row of parts begin flat -/
inductive Fl : D → Prop where
  | str (z : Str) : Fl (.str z)
  | tup {ds : List D} (h : ∀ w y, ds = [.str w, y] → w = sJoin ∨ w = sOr → rowFlat y = true) (k : ∀ d ∈ ds, Fl d) : Fl (.tup ds)
  | lst : Fl .lst
  | flat : Fl .flat
/-! ### sizes, for the loop's measure -/
def D.size : D → Nat
  | .str _ => 1
  | .tup ds => 1 + sizes ds
  | .lst => 1
  | .flat => 1
where sizes : List D → Nat
  | [] => 0
  | d :: ds => d.size + sizes ds
def places1 : D → Nat
  | .str z => z.length
  | _ => 0
abbrev Bnd := Nat × Nat × Nat
def within (b a : Bnd) : Bool := decide (a.1 ≤ b.1) && decide (a.2.1 ≤ b.2.1) && decide (a.2.2 ≤ b.2.2)
/-- the loop: n turns at most; the stack's last is looked at first -/
def look (b : Bnd) : Nat → List (D × Nat) → Bnd → Option Bnd
  | 0, _, _ => none
  | _ + 1, [], a => some a
  | n + 1, (d, k) :: st, a => match inner d with
    | none => none
    | some ys =>
      if within b (a.1 + places1 d, max a.2.1 k, a.2.2 + ys.length) = true then look b n ((ys.map fun y => (y, k + 1)).reverse ++ st) (a.1 + places1 d, max a.2.1 k, a.2.2 + ys.length) else none
def msr (st : List (D × Nat)) : Nat := (st.map fun p => p.1.size).sum
theorem sizes_eq (ds : List D) : D.size.sizes ds = (ds.map D.size).sum := by
  induction ds with
  | nil => rfl
  | cons d ds ih => rw [D.size.sizes, ih, List.map_cons, List.sum_cons]
theorem size_pos (d : D) : 0 < d.size := by
  cases d <;> (unfold D.size; omega)
theorem inner_size {d : D} {ys : List D} (h : inner d = some ys) : (ys.map D.size).sum < d.size := by
  unfold inner at h
  split at h
  · split at h
    · cases h
      exact size_pos _
    · cases h
  · rename_i w y
    unfold innerPair at h
    split at h
    · cases h
      simp only [D.size, D.size.sizes, List.map_cons, List.map_nil, List.sum_cons, List.sum_nil]
      omega
    · split at h
      · cases y with
        | tup zs =>
          cases h
          simp only [D.size, D.size.sizes, sizes_eq]
          omega
        | str z => cases h
        | lst => cases h
        | flat => cases h
      · cases h
  · cases h
theorem msr_step {d : D} {k : Nat} {st : List (D × Nat)} {ys : List D} (h : inner d = some ys) : msr ((ys.map fun y => (y, k + 1)).reverse ++ st) < msr ((d, k) :: st) := by
  unfold msr
  rw [List.map_append, List.sum_append, List.map_reverse, List.sum_reverse, List.map_map, List.map_cons, List.sum_cons]
  have e : ((fun p : D × Nat => p.1.size) ∘ fun y => (y, k + 1)) = D.size := rfl
  rw [e]
  have := inner_size h
  show _ < d.size + _
  omega

/-! ### expressions -/
inductive E where
  | eps
  | sym (c : Nat)
  | maybe (e : E)
  | many (e : E)
  | join (es : List E)
  | alt (es : List E)
def E.toD : E → D
  | .eps => .str sNo
  | .sym c => .str ⟨#[c]⟩
  | .maybe e => .tup [.str sMaybe, e.toD]
  | .many e => .tup [.str sMany, e.toD]
  | .join es => .tup [.str sJoin, .tup (toDs es)]
  | .alt es => .tup [.str sOr, .tup (toDs es)]
where toDs : List E → List D
  | [] => []
  | e :: es => e.toD :: toDs es
theorem toDs_eq (es : List E) : E.toD.toDs es = es.map E.toD := by
  induction es with
  | nil => rfl
  | cons e es ih => rw [E.toD.toDs, ih, List.map_cons]
def isJoin : E → Bool | .join _ => true | _ => false
def isAlt : E → Bool | .alt _ => true | _ => false
def E.ok : E → Bool
  | .eps => true
  | .sym c => decide (97 ≤ c) && decide (c ≤ 100)
  | .maybe e => e.ok
  | .many e => e.ok
  | .join es => decide (2 ≤ es.length) && oks es && !(es.any isJoin)
  | .alt es => decide (2 ≤ es.length) && oks es && !(es.any isAlt)
where oks : List E → Bool
  | [] => true
  | e :: es => e.ok && oks es
theorem oks_eq (es : List E) : E.ok.oks es = es.all E.ok := by
  induction es with
  | nil => rfl
  | cons e es ih => rw [E.ok.oks, ih, List.all_cons]
def E.places : E → Nat
  | .eps => 0
  | .sym _ => 1
  | .maybe e => e.places
  | .many e => e.places
  | .join es => placess es
  | .alt es => placess es
where placess : List E → Nat
  | [] => 0
  | e :: es => e.places + placess es
def E.depth : E → Nat
  | .eps => 0
  | .sym _ => 0
  | .maybe e => e.depth + 1
  | .many e => e.depth + 1
  | .join es => depths es + 1
  | .alt es => depths es + 1
where depths : List E → Nat
  | [] => 0
  | e :: es => max e.depth (depths es)
def E.parts : E → Nat
  | .eps => 1
  | .sym _ => 1
  | .maybe e => e.parts + 1
  | .many e => e.parts + 1
  | .join es => partss es + 1
  | .alt es => partss es + 1
where partss : List E → Nat
  | [] => 0
  | e :: es => e.parts + partss es
theorem placess_eq (es : List E) : E.places.placess es = (es.map E.places).sum := by
  induction es with
  | nil => rfl
  | cons e es ih => rw [E.places.placess, ih, List.map_cons, List.sum_cons]
theorem partss_eq (es : List E) : E.parts.partss es = (es.map E.parts).sum := by
  induction es with
  | nil => rfl
  | cons e es ih => rw [E.parts.partss, ih, List.map_cons, List.sum_cons]
theorem depths_le {es : List E} {n : Nat} (h : ∀ e ∈ es, e.depth ≤ n) : E.depth.depths es ≤ n := by
  induction es with
  | nil => exact Nat.zero_le _
  | cons e es ih =>
    rw [E.depth.depths]
    exact Nat.max_le.mpr ⟨h e (List.mem_cons_self ..), ih fun x hx => h x (List.mem_cons_of_mem _ hx)⟩
/-- the expressions directly in one -/
def E.kids : E → List E
  | .eps => []
  | .sym _ => []
  | .maybe e => [e]
  | .many e => [e]
  | .join es => es
  | .alt es => es
def E.own : E → Nat
  | .sym _ => 1
  | _ => 0
theorem parts_kids (e : E) : e.parts = (e.kids.map E.parts).sum + 1 := by
  cases e <;> simp [E.parts, E.kids, partss_eq]
theorem places_kids (e : E) : e.places = e.own + (e.kids.map E.places).sum := by
  cases e <;> simp [E.places, E.kids, E.own, placess_eq]
theorem ok_kids {e : E} (h : e.ok = true) : ∀ k ∈ e.kids, k.ok = true := by
  intro k hk
  cases e with
  | eps => cases hk
  | sym c => cases hk
  | maybe e => rw [E.kids, List.mem_singleton] at hk; subst hk; rw [E.ok] at h; exact h
  | many e => rw [E.kids, List.mem_singleton] at hk; subst hk; rw [E.ok] at h; exact h
  | join es =>
    rw [E.ok, oks_eq] at h
    simp only [Bool.and_eq_true, List.all_eq_true] at h
    exact h.1.2 k hk
  | alt es =>
    rw [E.ok, oks_eq] at h
    simp only [Bool.and_eq_true, List.all_eq_true] at h
    exact h.1.2 k hk
theorem begins_tup (w x : Str) (ys : List D) : begins w (.tup (.str x :: ys)) = decide (x = w) := rfl
theorem begins_join (e : E) : begins sJoin e.toD = isJoin e := by
  cases e with
  | eps => rfl
  | sym c => rfl
  | maybe e => rw [E.toD, begins_tup]; exact decide_eq_false (fun h => jm h.symm)
  | many e => rw [E.toD, begins_tup]; exact decide_eq_false (fun h => jn h.symm)
  | join es => rw [E.toD, begins_tup]; exact decide_eq_true rfl
  | alt es => rw [E.toD, begins_tup]; exact decide_eq_false (fun h => jo h.symm)
theorem begins_or (e : E) : begins sOr e.toD = isAlt e := by
  cases e with
  | eps => rfl
  | sym c => rfl
  | maybe e => rw [E.toD, begins_tup]; exact decide_eq_false (fun h => om h.symm)
  | many e => rw [E.toD, begins_tup]; exact decide_eq_false (fun h => on h.symm)
  | join es => rw [E.toD, begins_tup]; exact decide_eq_false (fun h => jo h)
  | alt es => rw [E.toD, begins_tup]; exact decide_eq_true rfl
theorem rowOk_tup (w : Str) (ys : List D) : rowOk w (.tup ys) = (decide (2 ≤ ys.length) && !(ys.any (begins w))) := rfl
theorem inner_toD {e : E} (h : e.ok = true) : inner e.toD = some (e.kids.map E.toD) := by
  cases e with
  | eps => rw [E.toD, inner, if_pos (.inl rfl)]; rfl
  | sym c =>
    have q : isLet ⟨#[c]⟩ = true := by
      rw [E.ok] at h
      exact h
    rw [E.toD, inner, if_pos (.inr q)]; rfl
  | maybe e => rw [E.toD, inner_pair, innerPair, if_pos (.inl rfl)]; rfl
  | many e => rw [E.toD, inner_pair, innerPair, if_pos (.inr rfl)]; rfl
  | join es =>
    rw [E.ok, oks_eq] at h
    simp only [Bool.and_eq_true, decide_eq_true_eq] at h
    have r : rowOk sJoin (.tup (E.toD.toDs es)) = true := by
      rw [rowOk_tup, toDs_eq, List.length_map, List.any_map]
      have z : (begins sJoin ∘ E.toD) = isJoin := funext begins_join
      rw [z, h.2, Bool.and_true]
      exact decide_eq_true h.1.1
    rw [E.toD, inner_pair, innerPair, if_neg (fun z => z.elim jm jn), if_pos ⟨.inl rfl, r⟩, toDs_eq]; rfl
  | alt es =>
    rw [E.ok, oks_eq] at h
    simp only [Bool.and_eq_true, decide_eq_true_eq] at h
    have r : rowOk sOr (.tup (E.toD.toDs es)) = true := by
      rw [rowOk_tup, toDs_eq, List.length_map, List.any_map]
      have z : (begins sOr ∘ E.toD) = isAlt := funext begins_or
      rw [z, h.2, Bool.and_true]
      exact decide_eq_true h.1.1
    rw [E.toD, inner_pair, innerPair, if_neg (fun z => z.elim om on), if_pos ⟨.inr rfl, r⟩, toDs_eq]; rfl
theorem places1_toD (e : E) : places1 e.toD = e.own := by
  cases e <;> rw [E.toD] <;> first | rfl | exact lE
theorem depth_kids (e : E) : ∀ k ∈ e.kids, k.depth + 1 ≤ e.depth := by
  have a : ∀ (es : List E), ∀ k ∈ es, k.depth ≤ E.depth.depths es := by
    intro es
    induction es with
    | nil => intro k h; cases h
    | cons e es ih =>
      intro k h
      rw [E.depth.depths]
      rcases List.mem_cons.mp h with rfl | h
      · exact Nat.le_max_left _ _
      · exact Nat.le_trans (ih k h) (Nat.le_max_right _ _)
  intro k hk
  cases e with
  | eps => cases hk
  | sym c => cases hk
  | maybe e => rw [E.kids, List.mem_singleton] at hk; subst hk; rw [E.depth]; omega
  | many e => rw [E.kids, List.mem_singleton] at hk; subst hk; rw [E.depth]; omega
  | join es => have := a es k hk; rw [E.depth]; omega
  | alt es => have := a es k hk; rw [E.depth]; omega
theorem depth_by {e : E} {n : Nat} (h : ∀ k ∈ e.kids, k.depth + 1 ≤ n) : e.depth ≤ n ∨ (e.kids = [] ∧ e.depth = 0) ∨ e.depth = 1 := by
  cases e with
  | eps => exact .inr (.inl ⟨rfl, rfl⟩)
  | sym c => exact .inr (.inl ⟨rfl, rfl⟩)
  | maybe e => exact .inl (h e (List.mem_singleton.mpr rfl))
  | many e => exact .inl (h e (List.mem_singleton.mpr rfl))
  | join es =>
    cases es with
    | nil => exact .inr (.inr rfl)
    | cons x r =>
      refine .inl ?_
      rw [E.depth]
      cases n with
      | zero => have := h x (List.mem_cons_self ..); omega
      | succ n => exact Nat.succ_le_succ (depths_le fun k hk => Nat.le_of_succ_le_succ (h k hk))
  | alt es =>
    cases es with
    | nil => exact .inr (.inr rfl)
    | cons x r =>
      refine .inl ?_
      rw [E.depth]
      cases n with
      | zero => have := h x (List.mem_cons_self ..); omega
      | succ n => exact Nat.succ_le_succ (depths_le fun k hk => Nat.le_of_succ_le_succ (h k hk))
/-! ### what the look gives -/
abbrev Stk := List (E × Nat)
def sD (st : Stk) : List (D × Nat) := st.map fun p => (p.1.toD, p.2)
/-- the greatest depth on the stack, from m on -/
def deepE (st : Stk) (m : Nat) : Nat := st.foldr (fun p m => max (p.2 + p.1.depth) m) m
def totE (st : Stk) (a : Bnd) : Bnd := (a.1 + (st.map fun p => p.1.places).sum, deepE st a.2.1, a.2.2 + (st.map fun p => p.1.parts - 1).sum)
theorem deepE_app (s t : Stk) (m : Nat) : deepE (s ++ t) m = deepE s (deepE t m) := by
  unfold deepE
  rw [List.foldr_append]
theorem deepE_max (s : Stk) (m : Nat) : m ≤ deepE s m := by
  induction s with
  | nil => exact Nat.le_refl _
  | cons p s ih => exact Nat.le_trans ih (Nat.le_max_right _ _)
theorem deepE_le {s : Stk} {m n : Nat} : deepE s m ≤ n ↔ m ≤ n ∧ ∀ p ∈ s, p.2 + p.1.depth ≤ n := by
  induction s with
  | nil => exact ⟨fun h => ⟨h, fun p hp => by cases hp⟩, fun h => h.1⟩
  | cons p s ih =>
    show max (p.2 + p.1.depth) (deepE s m) ≤ n ↔ _
    rw [Nat.max_le, ih]
    constructor
    · rintro ⟨h1, h2, h3⟩
      refine ⟨h2, fun q hq => ?_⟩
      rcases List.mem_cons.mp hq with rfl | hq
      · exact h1
      · exact h3 q hq
    · rintro ⟨h1, h2⟩
      exact ⟨h2 p (List.mem_cons_self ..), h1, fun q hq => h2 q (List.mem_cons_of_mem _ hq)⟩
theorem within_iff {b a : Bnd} : within b a = true ↔ a.1 ≤ b.1 ∧ a.2.1 ≤ b.2.1 ∧ a.2.2 ≤ b.2.2 := by
  unfold within
  simp only [Bool.and_eq_true, decide_eq_true_eq, and_assoc]
theorem depth_parts (e : E) (k : Nat) (n : Nat) (h0 : k ≤ n) (h : ∀ q ∈ e.kids, k + 1 + q.depth ≤ n) (hk : e.kids = [] → e.depth = 0) : k + e.depth ≤ n := by
  rcases depth_by (e := e) (n := n - k) (fun q hq => by have := h q hq; omega) with a | ⟨_, a⟩ | a
  · omega
  · omega
  · cases e with
    | eps => have : E.depth E.eps = 0 := rfl; omega
    | sym c => have : E.depth (E.sym c) = 0 := rfl; omega
    | maybe e => have := h e (List.mem_singleton.mpr rfl); omega
    | many e => have := h e (List.mem_singleton.mpr rfl); omega
    | join es =>
      cases es with
      | nil => have := hk rfl; omega
      | cons x r => have := h x (List.mem_cons_self ..); omega
    | alt es =>
      cases es with
      | nil => have := hk rfl; omega
      | cons x r => have := h x (List.mem_cons_self ..); omega
theorem kids_nil {e : E} (h : e.ok = true) (k : e.kids = []) : e.depth = 0 := by
  cases e with
  | eps => rfl
  | sym c => rfl
  | maybe e => cases k
  | many e => cases k
  | join es =>
    rw [E.kids] at k
    subst k
    cases h
  | alt es =>
    rw [E.kids] at k
    subst k
    cases h
theorem parts_pos (e : E) : 1 ≤ e.parts := by
  rw [parts_kids]
  omega
theorem sum_pred (es : List E) : (es.map fun e => e.parts - 1).sum + es.length = (es.map E.parts).sum := by
  induction es with
  | nil => rfl
  | cons e es ih =>
    have := parts_pos e
    simp only [List.map_cons, List.sum_cons, List.length_cons]
    omega
/-- one look at an expression -/
theorem tot_step {b : Bnd} {e : E} {k : Nat} {st : Stk} {a : Bnd} (h : e.ok = true) :
    totE ((e.kids.map fun y => (y, k + 1)).reverse ++ st) (a.1 + e.own, max a.2.1 k, a.2.2 + e.kids.length) = totE ((e, k) :: st) a := by
  have hp := places_kids e
  have hq := parts_kids e
  have hs := sum_pred e.kids
  unfold totE
  refine Prod.ext ?_ (Prod.ext ?_ ?_)
  · show a.1 + e.own + _ = a.1 + _
    rw [List.map_append, List.sum_append, List.map_reverse, List.sum_reverse, List.map_map, List.map_cons, List.sum_cons]
    show a.1 + e.own + ((e.kids.map E.places).sum + _) = a.1 + (e.places + _)
    omega
  · show deepE _ (max a.2.1 k) = deepE ((e, k) :: st) a.2.1
    refine Nat.le_antisymm (deepE_le.mpr ⟨?_, ?_⟩) (deepE_le.mpr ⟨?_, ?_⟩)
    · refine Nat.max_le.mpr ⟨deepE_max _ _, ?_⟩
      exact Nat.le_trans (Nat.le_add_right _ _) ((deepE_le.mp (Nat.le_refl _)).2 (e, k) (List.mem_cons_self ..))
    · intro p hp
      rcases List.mem_append.mp hp with hp | hp
      · rw [List.mem_reverse, List.mem_map] at hp
        obtain ⟨y, hy, rfl⟩ := hp
        have := depth_kids e y hy
        have q := (deepE_le.mp (Nat.le_refl (deepE ((e, k) :: st) a.2.1))).2 (e, k) (List.mem_cons_self ..)
        show k + 1 + y.depth ≤ _
        have q' : k + e.depth ≤ deepE ((e, k) :: st) a.2.1 := q
        omega
      · exact (deepE_le.mp (Nat.le_refl (deepE ((e, k) :: st) a.2.1))).2 p (List.mem_cons_of_mem _ hp)
    · exact Nat.le_trans (Nat.le_max_left _ _) (deepE_max _ _)
    · intro p hp
      have L := (deepE_le.mp (Nat.le_refl (deepE ((e.kids.map fun y => (y, k + 1)).reverse ++ st) (max a.2.1 k))))
      rcases List.mem_cons.mp hp with rfl | hp
      · refine depth_parts e k _ (Nat.le_trans (Nat.le_max_right _ _) L.1) (fun q hq => ?_) (kids_nil h)
        exact L.2 (q, k + 1) (List.mem_append_left _ (List.mem_reverse.mpr (List.mem_map.mpr ⟨q, hq, rfl⟩)))
      · exact L.2 p (List.mem_append_right _ hp)
  · show a.2.2 + e.kids.length + _ = a.2.2 + _
    rw [List.map_append, List.sum_append, List.map_reverse, List.sum_reverse, List.map_map, List.map_cons, List.sum_cons]
    show a.2.2 + e.kids.length + ((e.kids.map fun e => e.parts - 1).sum + _) = a.2.2 + ((e.parts - 1) + _)
    omega
theorem tot_ge (st : Stk) (a : Bnd) : a.1 ≤ (totE st a).1 ∧ a.2.1 ≤ (totE st a).2.1 ∧ a.2.2 ≤ (totE st a).2.2 := ⟨Nat.le_add_right _ _, deepE_max _ _, Nat.le_add_right _ _⟩
theorem sD_step (e : E) (k : Nat) (st : Stk) : ((e.kids.map E.toD).map fun y => (y, k + 1)).reverse ++ sD st = sD ((e.kids.map fun y => (y, k + 1)).reverse ++ st) := by
  unfold sD
  rw [List.map_append, List.map_reverse, List.map_map, List.map_map]
  rfl
theorem look_ok {b : Bnd} : ∀ (n : Nat) (st : Stk) (a : Bnd), msr (sD st) < n → (∀ p ∈ st, p.1.ok = true) → within b a = true → look b n (sD st) a = if within b (totE st a) = true then some (totE st a) else none
  | 0, st, a, h, _, _ => absurd h (Nat.not_lt_zero _)
  | n + 1, [], a, _, _, hw => by
    have e : totE [] a = a := rfl
    rw [e, if_pos hw]
    rfl
  | n + 1, (e, k) :: st, a, hm, ho, hw => by
    have h := ho (e, k) (List.mem_cons_self ..)
    have hi := inner_toD h
    show (match inner e.toD with | none => none | some ys => if within b (a.1 + places1 e.toD, max a.2.1 k, a.2.2 + ys.length) = true then look b n ((ys.map fun y => (y, k + 1)).reverse ++ sD st) (a.1 + places1 e.toD, max a.2.1 k, a.2.2 + ys.length) else none) = _
    rw [hi]
    show (if within b (a.1 + places1 e.toD, max a.2.1 k, a.2.2 + (e.kids.map E.toD).length) = true then look b n (((e.kids.map E.toD).map fun y => (y, k + 1)).reverse ++ sD st) (a.1 + places1 e.toD, max a.2.1 k, a.2.2 + (e.kids.map E.toD).length) else none) = _
    rw [places1_toD, List.length_map, sD_step]
    have ts := tot_step (b := b) (k := k) (st := st) (a := a) h
    by_cases c : within b (a.1 + e.own, max a.2.1 k, a.2.2 + e.kids.length) = true
    · have m1 : msr (sD ((e.kids.map fun y => (y, k + 1)).reverse ++ st)) < n := by
        have := msr_step (k := k) (st := sD st) hi
        rw [sD_step] at this
        have hm' : msr ((e.toD, k) :: sD st) < n + 1 := hm
        exact Nat.lt_of_lt_of_le this (Nat.le_of_lt_succ hm')
      rw [if_pos c, look_ok n _ _ m1 (fun p hp => ?_) c, ts]
      rcases List.mem_append.mp hp with hp | hp
      · rw [List.mem_reverse, List.mem_map] at hp
        obtain ⟨y, hy, rfl⟩ := hp
        exact ok_kids h y hy
      · exact ho p (List.mem_cons_of_mem _ hp)
    · rw [if_neg c, if_neg]
      intro z
      rw [← ts] at z
      apply c
      have g := tot_ge ((e.kids.map fun y => (y, k + 1)).reverse ++ st) (a.1 + e.own, max a.2.1 k, a.2.2 + e.kids.length)
      rw [within_iff] at z ⊢
      exact ⟨Nat.le_trans g.1 z.1, Nat.le_trans g.2.1 z.2.1, Nat.le_trans g.2.2 z.2.2⟩
/-- something wrong within -/
inductive Bad : D → Prop where
  | here {d : D} (h : inner d = none) : Bad d
  | inn {d y : D} {ys : List D} (h : inner d = some ys) (m : y ∈ ys) (b : Bad y) : Bad d
theorem look_bad {b : Bnd} : ∀ (n : Nat) (st : List (D × Nat)) (a : Bnd), (∃ p ∈ st, Bad p.1) → look b n st a = none
  | 0, _, _, _ => rfl
  | n + 1, [], _, h => by
    obtain ⟨p, hp, _⟩ := h
    cases hp
  | n + 1, (d, k) :: st, a, h => by
    show (match inner d with | none => none | some ys => if within b (a.1 + places1 d, max a.2.1 k, a.2.2 + ys.length) = true then look b n ((ys.map fun y => (y, k + 1)).reverse ++ st) (a.1 + places1 d, max a.2.1 k, a.2.2 + ys.length) else none) = none
    cases hi : inner d with
    | none => rfl
    | some ys =>
      show (if within b (a.1 + places1 d, max a.2.1 k, a.2.2 + ys.length) = true then look b n ((ys.map fun y => (y, k + 1)).reverse ++ st) (a.1 + places1 d, max a.2.1 k, a.2.2 + ys.length) else none) = none
      split
      · refine look_bad n _ _ ?_
        obtain ⟨p, hp, hb⟩ := h
        rcases List.mem_cons.mp hp with rfl | hp
        · cases hb with
          | here z => rw [z] at hi; cases hi
          | inn z m hb =>
            rw [z] at hi
            cases hi
            exact ⟨(_, k + 1), List.mem_append_left _ (List.mem_reverse.mpr (List.mem_map.mpr ⟨_, m, rfl⟩)), hb⟩
        · exact ⟨p, List.mem_append_right _ hp, hb⟩
      · rfl
/-- what sizes_within gives of a datum -/
def sizesOf (b : Bnd) (d : D) : Option Bnd := look b (d.size + 1) [(d, 0)] (0, 0, 1)
theorem sizes_ok {b : Bnd} {e : E} (h : e.ok = true) (hb : 1 ≤ b.2.2) : sizesOf b e.toD = if within b (e.places, e.depth, e.parts) = true then some (e.places, e.depth, e.parts) else none := by
  have q := look_ok (b := b) (e.toD.size + 1) [(e, 0)] (0, 0, 1) (by show msr [(e.toD, 0)] < _; unfold msr; simp) (fun p hp => by rw [List.mem_singleton] at hp; subst hp; exact h) (within_iff.mpr ⟨Nat.zero_le _, Nat.zero_le _, hb⟩)
  have t : totE [(e, 0)] (0, 0, 1) = (e.places, e.depth, e.parts) := by
    have := parts_pos e
    refine Prod.ext ?_ (Prod.ext ?_ ?_)
    · show 0 + (e.places + 0) = e.places
      omega
    · show max (0 + e.depth) 0 = e.depth
      omega
    · show 1 + (e.parts - 1 + 0) = e.parts
      omega
  rw [t] at q
  exact q
theorem sizes_bad {b : Bnd} {d : D} (h : Bad d) : sizesOf b d = none := look_bad _ _ _ ⟨(d, 0), List.mem_singleton.mpr rfl, h⟩
theorem headFlat_toD (e : E) : headFlat e.toD = true := by
  cases e <;> rw [E.toD] <;> rfl
theorem rowFlat_toDs (es : List E) : rowFlat (.tup (E.toD.toDs es)) = true := by
  rw [toDs_eq]
  show (es.map E.toD).all headFlat = true
  rw [List.all_eq_true]
  intro d hd
  rw [List.mem_map] at hd
  obtain ⟨e, _, rfl⟩ := hd
  exact headFlat_toD e
theorem fl_pair {w : Str} {y : D} (h : w = sJoin ∨ w = sOr → rowFlat y = true) (k : Fl y) : Fl (.tup [.str w, y]) := by
  refine .tup (fun w' y' e => ?_) fun d hd => ?_
  · cases e
    exact h
  · rcases List.mem_cons.mp hd with rfl | hd
    · exact .str _
    · rw [List.mem_singleton] at hd
      subst hd
      exact k
theorem toD_str {e : E} {w : Str} (h : e.toD = .str w) : ¬ (w = sJoin ∨ w = sOr) := by
  cases e with
  | eps =>
    rw [E.toD] at h
    cases h
    rintro (h | h)
    · exact je h.symm
    · exact oe h.symm
  | sym c =>
    rw [E.toD] at h
    cases h
    rintro (h | h)
    · have := congrArg Str.length h
      rw [lJ] at this
      cases this
    · have := congrArg Str.length h
      rw [lO] at this
      cases this
  | maybe e => rw [E.toD] at h; cases h
  | many e => rw [E.toD] at h; cases h
  | join es => rw [E.toD] at h; cases h
  | alt es => rw [E.toD] at h; cases h
mutual
theorem fl_toD : ∀ e : E, Fl e.toD
  | .eps => .str _
  | .sym c => .str _
  | .maybe e => by
    rw [E.toD]
    exact fl_pair (fun h => (h.elim (fun h => jm h.symm) fun h => om h.symm).elim) (fl_toD e)
  | .many e => by
    rw [E.toD]
    exact fl_pair (fun h => (h.elim (fun h => jn h.symm) fun h => on h.symm).elim) (fl_toD e)
  | .join es => by
    rw [E.toD]
    exact fl_pair (fun _ => rowFlat_toDs es) (fl_toDs es)
  | .alt es => by
    rw [E.toD]
    exact fl_pair (fun _ => rowFlat_toDs es) (fl_toDs es)
theorem fl_toDs : ∀ es : List E, Fl (.tup (E.toD.toDs es))
  | [] => .tup (fun w y h => by cases h) fun d hd => by cases hd
  | e :: es => by
    have h := fl_toDs es
    have h0 := fl_toD e
    refine .tup (fun w y z hw => ?_) fun d hd => ?_
    · rw [E.toD.toDs] at z
      have z1 : e.toD = .str w := (List.cons.inj z).1
      exact absurd hw (toD_str z1)
    · rw [E.toD.toDs] at hd
      rcases List.mem_cons.mp hd with rfl | hd
      · exact h0
      · cases h with
        | tup _ k => exact k d hd
end
end My
namespace My
open PySem PySem.Spec PyProof.Rows L2
/-! ### comprehensions whose results are known by the turns -/
theorem sqT_same {K : PySem.W.Frag} {H H' : Hp} {p : Addr} {xs : List V} (s : Same H H') (h : SqT K H p xs) : SqT K H' p xs := by
  rcases h with (h | ⟨o, h⟩) | h
  · exact .inl (.inl (s _ _ h))
  · exact .inl (.inr ⟨o, s _ _ h⟩)
  · exact .inr h
/-- one more result -/
theorem r_push {H1 H H4 : Hp} {D : Addr} {R : Nat → List V} {i : Nat} (hz : ∀ i, (R i).length ≤ 100000) (hD : H1 D = none) (s : Same H1 H) (h : H D = some (.lst (R i))) : ∀ y H4, R (i + 1) = R i ++ [y] → Same H H4 → ∃ acc, H4 D = some (.lst acc) ∧ acc.length < sizeLine ∧ Same H1 (upd H4 D (.lst (acc ++ [y]))) ∧ (upd H4 D (.lst (acc ++ [y]))) D = some (.lst (R (i + 1))) := by
  intro y H4 e s4
  refine ⟨_, s4 _ _ h, Nat.lt_of_le_of_lt (hz i) (by decide), fun b o hb => ?_, ?_⟩
  · rw [upd_ne (ne_of_none hb hD)]
    exact s4 _ _ (s _ _ hb)
  · rw [upd_same, e]
theorem r_keep {H1 H : Hp} {D : Addr} {R : Nat → List V} {i : Nat} (s : Same H1 H) (h : H D = some (.lst (R i))) : ∀ H4, R (i + 1) = R i → Same H H4 → Same H1 H4 ∧ H4 D = some (.lst (R (i + 1))) := by
  intro H4 e s4
  exact ⟨s.trans s4, by rw [e]; exact s4 _ _ h⟩
theorem lc_tupR {K : PySem.W.Frag} {a : Addr} {xs : List V} {g : TG} {tt : TT} {te : TE} {vs : List Nat} {σ : L2.St} {H1 : Hp} {D : Addr} {Qd : Hp → Prop} (R : Nat → List V) (h0 : R 0 = []) (hz : ∀ i, (R i).length ≤ 100000) (hD : H1 D = none) (ha : SqT K H1 a xs) 
    (hs : ∀ i x H, xs[i]? = some x → Same H1 H → (∀ y H4, R (i + 1) = R i ++ [y] → Same H H4 → ∃ acc, H4 D = some (.lst acc) ∧ acc.length < sizeLine ∧ Same H1 (upd H4 D (.lst (acc ++ [y]))) ∧ (upd H4 D (.lst (acc ++ [y]))) D = some (.lst (R (i + 1)))) → (∀ H4, R (i + 1) = R i → Same H H4 → Same H1 H4 ∧ H4 D = some (.lst (R (i + 1)))) →
      g x (wipe σ vs) H fun σ2 H2 => wipe σ2 vs = wipe σ vs ∧ tt σ2 H2 fun b H3 => if b = true then te σ2 H3 fun y H4 => ∃ acc, H4 D = some (.lst acc) ∧ acc.length < sizeLine ∧ Same H1 (upd H4 D (.lst (acc ++ [y]))) ∧ (upd H4 D (.lst (acc ++ [y]))) D = some (.lst (R (i + 1))) else Same H1 H3 ∧ H3 D = some (.lst (R (i + 1))))
    (hd : ∀ H, Same H1 H → H D = some (.lst (R xs.length)) → Qd H) :
    ∃ W : Nat → Nat → Hp → Prop, (∃ m, W 0 m (upd H1 D (.lst []))) ∧ ∀ i m H, W i m H →
      ((Itt K a).stop i H ∧ Qd H) ∨ ((Itt K a).go i H ∧ ∃ Nx : Hp → Prop, (∀ H', Nx H' → ∃ m', m' < m ∧ W (i + 1) m' H') ∧ ∀ x H', (Itt K a).yld i H x H' → g x (wipe σ vs) H' fun σ2 H2 => wipe σ2 vs = wipe σ vs ∧ tt σ2 H2 fun b H3 =>
        if b = true then te σ2 H3 fun y H4 => ∃ acc, H4 D = some (.lst acc) ∧ acc.length < sizeLine ∧ Nx (upd H4 D (.lst (acc ++ [y]))) else Nx H3) := by
  have fin : ∀ {i : Nat} {H : Hp}, Same H1 H → H D = some (.lst (R i)) → ∀ y H4, R (i + 1) = R i ++ [y] → Same H H4 → ∃ acc, H4 D = some (.lst acc) ∧ acc.length < sizeLine ∧ Same H1 (upd H4 D (.lst (acc ++ [y]))) ∧ (upd H4 D (.lst (acc ++ [y]))) D = some (.lst (R (i + 1))) := fun s h => r_push (H4 := H1) hz hD s h
  have fin0 : ∀ {i : Nat} {H : Hp}, Same H1 H → H D = some (.lst (R i)) → ∀ H4, R (i + 1) = R i → Same H H4 → Same H1 H4 ∧ H4 D = some (.lst (R (i + 1))) := fun s h => r_keep s h
  exact lc_tup (K := K) (a := a) (xs := xs) (fun i H' => Same H1 H' ∧ H' D = some (.lst (R i))) ⟨same_upd hD, by rw [upd_same, h0]⟩ (fun i H _ h => sqT_same h.1 ha) (fun i x H hx h => hs i x H hx h.1 (fin h.1 h.2) (fin0 h.1 h.2)) (fun H h => hd H h.1 h.2)
theorem lc_listR {K : PySem.W.Frag} {a : Addr} {xs : List V} {g : TG} {tt : TT} {te : TE} {vs : List Nat} {σ : L2.St} {H1 : Hp} {D : Addr} {Qd : Hp → Prop} (R : Nat → List V) (h0 : R 0 = []) (hz : ∀ i, (R i).length ≤ 100000) (hD : H1 D = none) (ha : SqL K H1 a xs) 
    (hs : ∀ i x H, xs[i]? = some x → Same H1 H → (∀ y H4, R (i + 1) = R i ++ [y] → Same H H4 → ∃ acc, H4 D = some (.lst acc) ∧ acc.length < sizeLine ∧ Same H1 (upd H4 D (.lst (acc ++ [y]))) ∧ (upd H4 D (.lst (acc ++ [y]))) D = some (.lst (R (i + 1)))) → (∀ H4, R (i + 1) = R i → Same H H4 → Same H1 H4 ∧ H4 D = some (.lst (R (i + 1)))) →
      g x (wipe σ vs) H fun σ2 H2 => wipe σ2 vs = wipe σ vs ∧ tt σ2 H2 fun b H3 => if b = true then te σ2 H3 fun y H4 => ∃ acc, H4 D = some (.lst acc) ∧ acc.length < sizeLine ∧ Same H1 (upd H4 D (.lst (acc ++ [y]))) ∧ (upd H4 D (.lst (acc ++ [y]))) D = some (.lst (R (i + 1))) else Same H1 H3 ∧ H3 D = some (.lst (R (i + 1))))
    (hd : ∀ H, Same H1 H → H D = some (.lst (R xs.length)) → Qd H) :
    ∃ W : Nat → Nat → Hp → Prop, (∃ m, W 0 m (upd H1 D (.lst []))) ∧ ∀ i m H, W i m H →
      ((Itl K a).stop i H ∧ Qd H) ∨ ((Itl K a).go i H ∧ ∃ Nx : Hp → Prop, (∀ H', Nx H' → ∃ m', m' < m ∧ W (i + 1) m' H') ∧ ∀ x H', (Itl K a).yld i H x H' → g x (wipe σ vs) H' fun σ2 H2 => wipe σ2 vs = wipe σ vs ∧ tt σ2 H2 fun b H3 =>
        if b = true then te σ2 H3 fun y H4 => ∃ acc, H4 D = some (.lst acc) ∧ acc.length < sizeLine ∧ Nx (upd H4 D (.lst (acc ++ [y]))) else Nx H3) := by
  have fin : ∀ {i : Nat} {H : Hp}, Same H1 H → H D = some (.lst (R i)) → ∀ y H4, R (i + 1) = R i ++ [y] → Same H H4 → ∃ acc, H4 D = some (.lst acc) ∧ acc.length < sizeLine ∧ Same H1 (upd H4 D (.lst (acc ++ [y]))) ∧ (upd H4 D (.lst (acc ++ [y]))) D = some (.lst (R (i + 1))) := fun s h => r_push (H4 := H1) hz hD s h
  have fin0 : ∀ {i : Nat} {H : Hp}, Same H1 H → H D = some (.lst (R i)) → ∀ H4, R (i + 1) = R i → Same H H4 → Same H1 H4 ∧ H4 D = some (.lst (R (i + 1))) := fun s h => r_keep s h
  exact lc_list (K := K) (a := a) (xs := xs) (fun i H' => Same H1 H' ∧ H' D = some (.lst (R i))) ⟨same_upd hD, by rw [upd_same, h0]⟩ (fun i H _ h => h.1.seq ha) (fun i x H hx h => hs i x H hx h.1 (fin h.1 h.2) (fin0 h.1 h.2)) (fun H h => hd H h.1 h.2)
theorem lc_rangeR {lo : Int} {n : Nat} {g : TG} {tt : TT} {te : TE} {vs : List Nat} {σ : L2.St} {H1 : Hp} {D : Addr} {Qd : Hp → Prop} (R : Nat → List V) (h0 : R 0 = []) (hz : ∀ i, (R i).length ≤ 100000) (hD : H1 D = none) 
    (hs : ∀ i H, i < n → Same H1 H → (∀ y H4, R (i + 1) = R i ++ [y] → Same H H4 → ∃ acc, H4 D = some (.lst acc) ∧ acc.length < sizeLine ∧ Same H1 (upd H4 D (.lst (acc ++ [y]))) ∧ (upd H4 D (.lst (acc ++ [y]))) D = some (.lst (R (i + 1)))) → (∀ H4, R (i + 1) = R i → Same H H4 → Same H1 H4 ∧ H4 D = some (.lst (R (i + 1)))) →
      g (.int (lo + (i : Nat))) (wipe σ vs) H fun σ2 H2 => wipe σ2 vs = wipe σ vs ∧ tt σ2 H2 fun b H3 => if b = true then te σ2 H3 fun y H4 => ∃ acc, H4 D = some (.lst acc) ∧ acc.length < sizeLine ∧ Same H1 (upd H4 D (.lst (acc ++ [y]))) ∧ (upd H4 D (.lst (acc ++ [y]))) D = some (.lst (R (i + 1))) else Same H1 H3 ∧ H3 D = some (.lst (R (i + 1))))
    (hd : ∀ H, Same H1 H → H D = some (.lst (R n)) → Qd H) :
    ∃ W : Nat → Nat → Hp → Prop, (∃ m, W 0 m (upd H1 D (.lst []))) ∧ ∀ i m H, W i m H →
      ((Itr lo n).stop i H ∧ Qd H) ∨ ((Itr lo n).go i H ∧ ∃ Nx : Hp → Prop, (∀ H', Nx H' → ∃ m', m' < m ∧ W (i + 1) m' H') ∧ ∀ x H', (Itr lo n).yld i H x H' → g x (wipe σ vs) H' fun σ2 H2 => wipe σ2 vs = wipe σ vs ∧ tt σ2 H2 fun b H3 =>
        if b = true then te σ2 H3 fun y H4 => ∃ acc, H4 D = some (.lst acc) ∧ acc.length < sizeLine ∧ Nx (upd H4 D (.lst (acc ++ [y]))) else Nx H3) := by
  have fin : ∀ {i : Nat} {H : Hp}, Same H1 H → H D = some (.lst (R i)) → ∀ y H4, R (i + 1) = R i ++ [y] → Same H H4 → ∃ acc, H4 D = some (.lst acc) ∧ acc.length < sizeLine ∧ Same H1 (upd H4 D (.lst (acc ++ [y]))) ∧ (upd H4 D (.lst (acc ++ [y]))) D = some (.lst (R (i + 1))) := fun s h => r_push (H4 := H1) hz hD s h
  have fin0 : ∀ {i : Nat} {H : Hp}, Same H1 H → H D = some (.lst (R i)) → ∀ H4, R (i + 1) = R i → Same H H4 → Same H1 H4 ∧ H4 D = some (.lst (R (i + 1))) := fun s h => r_keep s h
  exact lc_range (lo := lo) (n := n) (fun i H' => Same H1 H' ∧ H' D = some (.lst (R i))) ⟨same_upd hD, by rw [upd_same, h0]⟩  (fun i H hx h => hs i H hx h.1 (fin h.1 h.2) (fin0 h.1 h.2)) (fun H h => hd H h.1 h.2)
theorem lc_strR {z : Str} {g : TG} {tt : TT} {te : TE} {vs : List Nat} {σ : L2.St} {H1 : Hp} {D : Addr} {Qd : Hp → Prop} (R : Nat → List V) (h0 : R 0 = []) (hz : ∀ i, (R i).length ≤ 100000) (hD : H1 D = none) 
    (hs : ∀ i c H, z.cps[i]? = some c → Same H1 H → (∀ y H4, R (i + 1) = R i ++ [y] → Same H H4 → ∃ acc, H4 D = some (.lst acc) ∧ acc.length < sizeLine ∧ Same H1 (upd H4 D (.lst (acc ++ [y]))) ∧ (upd H4 D (.lst (acc ++ [y]))) D = some (.lst (R (i + 1)))) → (∀ H4, R (i + 1) = R i → Same H H4 → Same H1 H4 ∧ H4 D = some (.lst (R (i + 1)))) →
      g (.str ⟨#[c]⟩) (wipe σ vs) H fun σ2 H2 => wipe σ2 vs = wipe σ vs ∧ tt σ2 H2 fun b H3 => if b = true then te σ2 H3 fun y H4 => ∃ acc, H4 D = some (.lst acc) ∧ acc.length < sizeLine ∧ Same H1 (upd H4 D (.lst (acc ++ [y]))) ∧ (upd H4 D (.lst (acc ++ [y]))) D = some (.lst (R (i + 1))) else Same H1 H3 ∧ H3 D = some (.lst (R (i + 1))))
    (hd : ∀ H, Same H1 H → H D = some (.lst (R z.cps.size)) → Qd H) :
    ∃ W : Nat → Nat → Hp → Prop, (∃ m, W 0 m (upd H1 D (.lst []))) ∧ ∀ i m H, W i m H →
      ((Its z).stop i H ∧ Qd H) ∨ ((Its z).go i H ∧ ∃ Nx : Hp → Prop, (∀ H', Nx H' → ∃ m', m' < m ∧ W (i + 1) m' H') ∧ ∀ x H', (Its z).yld i H x H' → g x (wipe σ vs) H' fun σ2 H2 => wipe σ2 vs = wipe σ vs ∧ tt σ2 H2 fun b H3 =>
        if b = true then te σ2 H3 fun y H4 => ∃ acc, H4 D = some (.lst acc) ∧ acc.length < sizeLine ∧ Nx (upd H4 D (.lst (acc ++ [y]))) else Nx H3) := by
  have fin : ∀ {i : Nat} {H : Hp}, Same H1 H → H D = some (.lst (R i)) → ∀ y H4, R (i + 1) = R i ++ [y] → Same H H4 → ∃ acc, H4 D = some (.lst acc) ∧ acc.length < sizeLine ∧ Same H1 (upd H4 D (.lst (acc ++ [y]))) ∧ (upd H4 D (.lst (acc ++ [y]))) D = some (.lst (R (i + 1))) := fun s h => r_push (H4 := H1) hz hD s h
  have fin0 : ∀ {i : Nat} {H : Hp}, Same H1 H → H D = some (.lst (R i)) → ∀ H4, R (i + 1) = R i → Same H H4 → Same H1 H4 ∧ H4 D = some (.lst (R (i + 1))) := fun s h => r_keep s h
  exact lc_str (z := z) (fun i H' => Same H1 H' ∧ H' D = some (.lst (R i))) ⟨same_upd hD, by rw [upd_same, h0]⟩  (fun i c H hx h => hs i c H hx h.1 (fin h.1 h.2) (fin0 h.1 h.2)) (fun H h => hd H h.1 h.2)
theorem cut_whole {xs : List V} {lo hi : Option Int} (h : HT.sIx xs.length 0 lo = 0 ∧ HT.sIx xs.length xs.length hi = xs.length) : cutV xs lo hi = xs := by
  unfold cutV
  rw [h.1, h.2, List.drop_zero, Nat.sub_zero, List.take_length]
theorem slA_of {K : PySem.W.Frag} {H : Hp} {a : Addr} {xs : List V} {lo hi : Option Int} {Q : VK} (h : H a = some (.tup xs)) (k : ∀ p H', Same H H' → H' p = some (.tup (cutV xs lo hi)) → Q (.ref p) H') : rSlA K (.ref a) lo hi H Q := by
  refine ⟨a, xs, rfl, SqT.of h, fun e => ?_, fun _ p hp => k p _ (same_upd hp) upd_same⟩
  exact k a H (Same.refl _) (by rw [cut_whole e]; exact h)
theorem slA_lo {K : PySem.W.Frag} {H : Hp} {a : Addr} {xs : List V} {lo : Option Int} {σ : L2.St} {Q : VK} (h : H a = some (.tup xs)) (k : ∀ p H', Same H H' → H' p = some (.tup (cutV xs lo none)) → Q (.ref p) H') : tNoPart σ H (fun u H3 => rSlA K (.ref a) lo u H3 Q) := slA_of (hi := none) h k
theorem catA_of {K : PySem.W.Frag} {H : Hp} {a b : Addr} {xs ys : List V} {Q : VK} (ha : H a = some (.tup xs)) (hb : H b = some (.tup ys)) (hz : xs.length + ys.length ≤ sizeLine) (k : ∀ p H', Same H H' → H' p = some (.tup (xs ++ ys)) → Q (.ref p) H') : rCatA K (.ref a) (.ref b) H Q := by
  refine ⟨a, b, xs, ys, rfl, rfl, SqT.of ha, SqT.of hb, hz, fun e => ?_, fun _ e => ?_, fun _ _ p hp => k p _ (same_upd hp) upd_same⟩
  · exact k b H (Same.refl _) (by rw [e]; exact hb)
  · exact k a H (Same.refl _) (by rw [e, List.append_nil]; exact ha)
/-! ### plain data that draws leave -/
theorem RepJ.up {H : Hp} {v : V} {j : J} {n : Nat} (h : RepJ H v j n) : RepJ H v j (n + 1) := by
  induction h with
  | non => exact .non
  | bl b => exact .bl b
  | int i => exact .int i
  | str z => exact .str z
  | tup h z l _ ih => exact .tup h z l ih
  | lst h z l _ ih => exact .lst h z l ih
def Kp (a : Addr) (H : Hp) (v : V) (j : J) (n : Nat) : Prop := ∀ H', Keep a H H' → RepJ H' v j n
theorem Kp.rep {a : Addr} {H : Hp} {v : V} {j : J} {n : Nat} (h : Kp a H v j n) : RepJ H v j n := h H (Keep.refl a H)
theorem Kp.keep {a : Addr} {H H' : Hp} {v : V} {j : J} {n : Nat} (k : Keep a H H') (h : Kp a H v j n) : Kp a H' v j n := fun H2 k2 => h H2 (k.trans k2)
theorem Kp.same {a : Addr} {H H' : Hp} {v : V} {j : J} {n : Nat} (k : Same H H') (h : Kp a H v j n) : Kp a H' v j n := h.keep (Keep.same k)
theorem Kp.up {a : Addr} {H : Hp} {v : V} {j : J} {n : Nat} (h : Kp a H v j n) : Kp a H v j (n + 1) := fun H2 k2 => (h H2 k2).up
theorem Kp.tup {a p : Addr} {H : Hp} {xs : List V} {js : List J} {n : Nat} (hp : H p = some (.tup xs)) (ne : p ≠ a) (hz : xs.length ≤ 100000) (two : Two (fun x j => Kp a H x j n) xs js) : Kp a H (.ref p) (.tup js) (n + 1) := fun H2 k2 => .tup (k2 _ _ hp ne) hz two.len fun i x j hx hj => two.get2 hx hj H2 k2
theorem Kp.lst {a p : Addr} {H : Hp} {xs : List V} {js : List J} {n : Nat} (hp : H p = some (.lst xs)) (ne : p ≠ a) (hz : xs.length ≤ 100000) (two : Two (fun x j => Kp a H x j n) xs js) : Kp a H (.ref p) (.lst js) (n + 1) := fun H2 k2 => .lst (k2 _ _ hp ne) hz two.len fun i x j hx hj => two.get2 hx hj H2 k2
def Leaf (v : V) : Prop := v = .non ∨ (∃ b, v = .bl b) ∨ (∃ i, v = .int i) ∨ ∃ z, v = .str z
theorem Leaf.kp {a : Addr} {H : Hp} {v : V} (h : Leaf v) (n : Nat) : ∃ j, Kp a H v j n := by
  rcases h with rfl | ⟨b, rfl⟩ | ⟨i, rfl⟩ | ⟨z, rfl⟩
  · exact ⟨.non, fun _ _ => .non⟩
  · exact ⟨.bl b, fun _ _ => .bl b⟩
  · exact ⟨.int i, fun _ _ => .int i⟩
  · exact ⟨.str z, fun _ _ => .str z⟩
theorem kp_all {a : Addr} {H : Hp} {n : Nat} : ∀ {xs : List V}, (∀ x ∈ xs, ∃ j, Kp a H x j n) → ∃ js, Two (fun x j => Kp a H x j n) xs js
  | [], _ => ⟨[], .nil⟩
  | x :: xs, h => by
    obtain ⟨j, hj⟩ := h x (List.mem_cons_self ..)
    obtain ⟨js, hs⟩ := kp_all fun y hy => h y (List.mem_cons_of_mem _ hy)
    exact ⟨j :: js, .cons hj hs⟩
theorem kp_tup {a p : Addr} {H : Hp} {xs : List V} {n : Nat} (hs : Strm H a) (hp : H p = some (.tup xs)) (hz : xs.length ≤ 100000) (h : ∀ x ∈ xs, ∃ j, Kp a H x j n) : ∃ j, Kp a H (.ref p) j (n + 1) := by
  obtain ⟨js, two⟩ := kp_all h
  exact ⟨_, Kp.tup hp (hs.neT hp) hz two⟩
theorem kp_lst {a p : Addr} {H : Hp} {xs : List V} {n : Nat} (ne : p ≠ a) (hp : H p = some (.lst xs)) (hz : xs.length ≤ 100000) (h : ∀ x ∈ xs, ∃ j, Kp a H x j n) : ∃ j, Kp a H (.ref p) j (n + 1) := by
  obtain ⟨js, two⟩ := kp_all h
  exact ⟨_, Kp.lst hp ne hz two⟩
theorem mem_cut {xs : List V} {lo hi : Option Int} {x : V} (h : x ∈ cutV xs lo hi) : x ∈ xs := by
  unfold cutV at h
  exact List.mem_of_mem_drop (List.mem_of_mem_take h)
/-- an item that is drawn -/
theorem at_draw {xs : List V} {d : Int} {n : Nat} (hl : xs.length = n) (h0 : 0 ≤ d) (h1 : d < n) : ∃ v, atI xs d = some v ∧ v ∈ xs := by
  obtain ⟨v, hv⟩ : ∃ v, xs[d.toNat]? = some v := ⟨_, List.getElem?_eq_getElem (by omega)⟩
  exact ⟨v, at_of (j := d.toNat) (by omega) hv, List.mem_of_getElem? hv⟩
end My
namespace My
open PySem PySem.Spec PyProof.Rows L2
/-! ### name = {k: v for ..} -/
theorem sw_dict {kx vx : Expr} {gs : List Comprehension} {scope : Scope} {pos py : Pos} {y : Str} {l : Nat} {env : Env} (isf : env.scope.kind = .function) (own : env.scope.names.lookup y = some .local) (row : (py.line == pos.line) = true)
    (free : (scope.names.any fun (n, k) => n == y && (k == .local || k == .cell)) = false) : swapsWith (.DictComp kx vx gs scope pos) (some (.Name y py)) l env = pure true := by
  have k1 : env.kindOf y = some .local := own
  have k2 : env.blockKind = .function := by
    unfold Env.blockKind
    rw [isf]
    rfl
  unfold swapsWith
  simp only [k2, k1, free, Expr.pos, row]
  rfl
theorem ps_setDc {X : Cx} {i : Nat} {y : Str} {py : Pos} {kx vx tg iter : Expr} {ifs : List Expr} {scope : Scope} {own : List (Str × Nat)} {pos spos : Pos} {wi : TI} {g : TG} {tt : TT} {tk tv : TE} (calm : X.calm = true) (nd : X.N.Nodup) (at_y : X.N[i]? = some y) (own_y : X.env.scope.names.lookup y = some .local)
    (sw : swapsWith (.DictComp kx vx [⟨tg, iter, ifs, 0⟩] scope pos) (some (.Name y py)) spos.line X.env = pure true) (pi : PI X tg iter wi) (bo : BlkOk X.N X.env.scope scope own)
    (pg : ∀ (s : Shared) (H : Hp) (C : Addr) (cl : List (Str × Addr)) (fp : List Addr), PG (X.blk s H scope (compEnvC scope cl C X.env) fp) tg g) (pt : ∀ (s : Shared) (H : Hp) (C : Addr) (cl : List (Str × Addr)) (fp : List Addr), PTs (X.blk s H scope (compEnvC scope cl C X.env) fp) ifs tt)
    (pk : ∀ (s : Shared) (H : Hp) (C : Addr) (cl : List (Str × Addr)) (fp : List Addr), PE (X.blk s H scope (compEnvC scope cl C X.env) fp) kx tk) (pv : ∀ (s : Shared) (H : Hp) (C : Addr) (cl : List (Str × Addr)) (fp : List Addr), PE (X.blk s H scope (compEnvC scope cl C X.env) fp) vx tv)
    (fs : ∀ x, foldedSetIterable iter X.env x = pure x := by intro _; rfl) : PS X (.Assign [.Name y py] (.DictComp kx vx [⟨tg, iter, ifs, 0⟩] scope pos) spos) (tAsg (tDc wi g tt tk tv (own.map (·.2))) (gName i)) := by
  constructor
  intro pns s0 σ H D Iv hh
  rw [exec_Assign_Name_used (hs := sw)]
  refine wpAny_bind (wpAny_standAt ?_)
  refine wpAny_bind ?_
  show wpAny _ X.A (do let _ ← comprehension (.DictComp kx vx [⟨tg, iter, ifs, 0⟩] scope pos) scope X.env (firstIterPos [⟨tg, iter, ifs, 0⟩] pos) newDict false (eval iter X.env) (some (assign (.Name y py) X.env))) _ _ s0
  have h2 : tDc wi g tt tk tv (own.map (·.2)) σ H (fun x H1 => gName i x σ H1 D.nx) := hh
  refine wpAny_bind (thn (dc_core (Qf := fun _ s' => SP X pns D .next s') calm nd Iv pi bo pg pt pk pv fs h2 ?_) fun _ s' hq => wpAny_pure (wpAny_pure hq))
  intro L C s1 m H1 I1 q1 ns fo
  show wpAny _ _ (assign (.Name y py) X.env (.ref L)) _ _ _
  refine wpAny_assign_Name (store_ok2 (v := V.ref L) I1 nd at_y (.inl own_y) rfl ?_ (.inr own_y))
  rintro s2 I2 ⟨a, sb, ha⟩
  obtain ⟨f0, f1, f2, f3, f4, f5⟩ := fo
  have far : C ≠ a := by
    rcases ha with z | z
    · rw [z]
      exact f1
    · exact fun e => f4 y a z e.symm
  refine ⟨m, ns.sameBut sb far, ?_⟩
  intro h3 sb3
  exact ⟨_, H1, I2.turned (t' := s2.toks) (fun b o hb e => (sb3.2 b hb).trans e) f0 f1 f3 f4 f5, q1⟩
end My
namespace My
open PySem PySem.Spec PyProof.Rows L2
/-! ### (number, sign) <= (number, sign) -/
def leMix (i : Int) (c : Nat) (j : Int) (d : Nat) : Bool := if i = j then (if c = d then true else decide (c ≤ d)) else decide (i ≤ j)
def rLeMix (K : PySem.W.Frag) : R2 := fun x y H Q => ∃ (a b : Addr) (i j : Int) (c d : Nat), x = .ref a ∧ y = .ref b ∧ SqT K H a [.int i, .str ⟨#[c]⟩] ∧ SqT K H b [.int j, .str ⟨#[d]⟩] ∧ Q (.bl (leMix i c j d)) H
theorem sign_lt (c d : Nat) : decide ((⟨#[d]⟩ : Str).cps.toList < (⟨#[c]⟩ : Str).cps.toList) = decide (d < c) := by
  refine decide_eq_decide.mpr ?_
  show ([d] : List Nat) < [c] ↔ _
  rw [List.cons_lt_cons_iff]
  constructor
  · rintro (h | ⟨_, h⟩)
    · exact h
    · cases h
  · exact .inl
theorem op_leMix {X : Cx} (hu : X.A.units < cLine) : OpR X (compareOp .LtE) (rLeMix X.K) := by
  intro pins s σ H x y v u Q I rx ry h
  obtain ⟨a, b, i, j, c, d, rfl, rfl, ha, hb, q⟩ := h
  cases rx
  cases ry
  obtain ⟨its, r1, p1, _⟩ := I.tuple ha
  obtain ⟨its2, r2, p2, _⟩ := I.tuple hb
  obtain ⟨u1, u2, rfl, ri, rj⟩ := vals2 r1
  obtain ⟨w1, w2, rfl, si, sj⟩ := vals2 r2
  obtain ⟨t1, rfl⟩ := ri
  obtain ⟨t2, rfl⟩ := rj
  obtain ⟨t3, rfl⟩ := si
  obtain ⟨t4, rfl⟩ := sj
  have R := Ob.RcOp.tuples_le (A := X.A) (s := s) (e := fun k => if k = 0 then (i == j) else ((⟨#[c]⟩ : Str) == ⟨#[d]⟩)) (r := fun k => if k = 0 then decide (i ≤ j) else !decide ((⟨#[d]⟩ : Str).cps.toList < (⟨#[c]⟩ : Str).cps.toList)) p1 p2 hu (fun k h1 h2 => by
    match k, h1, h2 with
    | 0, _, _ => exact SeqAt.EqAt.int_int _ _ _ _
    | 1, _, _ => exact SeqAt.EqAt.str_str _ _ _ _
    | k + 2, h1, _ => exact absurd h1 (by simp)) (fun k h1 h2 _ => by
    match k, h1, h2 with
    | 0, _, _ => exact Ob.RcOp.le_int _ _ _ _
    | 1, _, _ => exact fun _ _ _ _ h => PySem.P.le_str h
    | k + 2, h1, _ => exact absurd h1 (by simp))
  have ev : Ob.lexAt (fun k => if k = 0 then (i == j) else ((⟨#[c]⟩ : Str) == ⟨#[d]⟩)) (fun k => if k = 0 then decide (i ≤ j) else !decide ((⟨#[d]⟩ : Str).cps.toList < (⟨#[c]⟩ : Str).cps.toList)) (decide ([Value.int i t1, Value.str ⟨#[c]⟩ t2].toArray.size ≤ [Value.int j t3, Value.str ⟨#[d]⟩ t4].toArray.size)) 0 (min [Value.int i t1, Value.str ⟨#[c]⟩ t2].toArray.size [Value.int j t3, Value.str ⟨#[d]⟩ t4].toArray.size) = leMix i c j d := by
    show Ob.lexAt _ _ (decide (2 ≤ 2)) 0 2 = _
    rw [Ob.lexAt_succ, Ob.lexAt_succ, Ob.lexAt_zero, sign_lt]
    unfold leMix
    by_cases e1 : i = j
    · have b1 : (i == j) = true := beq_iff_eq.mpr e1
      show (if (i == j) = true then (if ((⟨#[c]⟩ : Str) == ⟨#[d]⟩) = true then true else !decide (d < c)) else decide (i ≤ j)) = _
      rw [if_pos b1, if_pos e1]
      by_cases e2 : c = d
      · rw [if_pos e2, if_pos (by rw [e2]; exact beq_iff_eq.mpr rfl)]
      · have : ¬ ((⟨#[c]⟩ : Str) == ⟨#[d]⟩) = true := fun h => e2 (List.cons.inj (congrArg (fun s : Str => s.cps.toList) (beq_iff_eq.mp h))).1
        rw [if_neg e2, if_neg this, ← decide_not]
        exact decide_eq_decide.mpr (by omega)
    · have b1 : ¬ (i == j) = true := fun h => e1 (beq_iff_eq.mp h)
      show (if (i == j) = true then _ else decide (i ≤ j)) = _
      rw [if_neg b1, if_neg e1]
  rw [ev] at R
  have z : wpAny (model X.prog X.w) X.A (compareOp .LtE (.ref a) (.ref b)) (EP X pins σ Q) X.xe s := R X.prog X.w X.xe (EP X pins σ Q) ⟨.bl _, H, I, rfl, q⟩
  exact z
/-! ### systems -/
structure Sy where
  st : List Nat
  mv : List (Nat × Nat × Nat)
  ac : List Nat
def natsV (xs : List Nat) : List V := xs.map fun (i : Nat) => V.int (i : Int)
theorem natsV_len (xs : List Nat) : (natsV xs).length = xs.length := List.length_map _
theorem natsV_getB {xs : List Nat} {i : Nat} {v : V} (h : (natsV xs)[i]? = some v) : ∃ x, xs[i]? = some x ∧ v = V.int (x : Int) := by
  unfold natsV at h
  rw [List.getElem?_map] at h
  obtain ⟨x, hx, rfl⟩ := Option.map_eq_some_iff.mp h
  exact ⟨x, hx, rfl⟩
theorem natsV_getN {xs : List Nat} {i x : Nat} (h : xs[i]? = some x) : (natsV xs)[i]? = some (V.int (x : Int)) := by
  unfold natsV
  rw [List.getElem?_map, h]
  rfl
theorem natsV_snoc (xs : List Nat) (x : Nat) : natsV xs ++ [V.int (x : Int)] = natsV (xs ++ [x]) := by
  unfold natsV
  rw [List.map_append]
  rfl
theorem in_nats (x : Nat) (ys : List Nat) : inV (V.int (x : Int)) (natsV ys) = decide (x ∈ ys) := by
  unfold inV natsV
  rw [Bool.eq_iff_iff]
  simp [eqV]
  constructor
  · rintro ⟨y, hy, h⟩
    have e : y = x := by omega
    rw [← e]
    exact hy
  · exact fun h => ⟨x, h, rfl⟩
theorem flat_nats (ys : List Nat) : (natsV ys).all flatV = true := by
  rw [List.all_eq_true]
  intro v hv
  obtain ⟨i, _, rfl⟩ := List.mem_map.mp hv
  rfl
theorem take_snoc {α : Type} {l : List α} {i : Nat} {x : α} (h : l[i]? = some x) : l.take (i + 1) = l.take i ++ [x] := by
  rw [List.take_add_one, h]
  rfl
abbrev Mv := Nat × Nat × Nat
def MoveAt (H : Hp) (v : V) (m : Mv) : Prop := ∃ t, v = .ref t ∧ H t = some (.tup [.int (m.1 : Int), .str ⟨#[m.2.1]⟩, .int (m.2.2 : Int)])
structure SysAt (H : Hp) (p : Addr) (S : Sy) : Prop where
  ex : ∃ (a b c : Addr) (ts : List V), H p = some (.tup [.ref a, .ref b, .ref c]) ∧ H a = some (.tup (natsV S.st)) ∧ H b = some (.tup ts) ∧ Two (MoveAt H) ts S.mv ∧ H c = some (.tup (natsV S.ac))
theorem MoveAt.pers {H H' : Hp} {v : V} {m : Mv} (k : Pers H H') (h : MoveAt H v m) : MoveAt H' v m := by
  obtain ⟨t, e, h⟩ := h
  exact ⟨t, e, k.tup _ _ h⟩
theorem MoveAt.same {H H' : Hp} {v : V} {m : Mv} (k : Same H H') (h : MoveAt H v m) : MoveAt H' v m := h.pers (Pers.same k)
theorem SysAt.pers {H H' : Hp} {p : Addr} {S : Sy} (k : Pers H H') (h : SysAt H p S) : SysAt H' p S := by
  obtain ⟨a, b, c, ts, h1, h2, h3, h4, h5⟩ := h.ex
  exact ⟨a, b, c, ts, k.tup _ _ h1, k.tup _ _ h2, k.tup _ _ h3, h4.mono fun _ _ => MoveAt.pers k, k.tup _ _ h5⟩
theorem SysAt.same {H H' : Hp} {p : Addr} {S : Sy} (k : Same H H') (h : SysAt H p S) : SysAt H' p S := h.pers (Pers.same k)
structure Good (S : Sy) : Prop where
  ne : S.st ≠ []
  rise : S.st.Pairwise (· < ·)
  lt : ∀ x ∈ S.st, x < 40
  mrise : S.mv.Pairwise (fun m n => m.1 < n.1 ∨ (m.1 = n.1 ∧ m.2.1 < n.2.1))
  min : ∀ m ∈ S.mv, m.1 ∈ S.st ∧ m.2.2 ∈ S.st ∧ 97 ≤ m.2.1 ∧ m.2.1 ≤ 100
  ml : S.mv.length ≤ 1000
  arise : S.ac.Pairwise (· < ·)
  asub : ∀ x ∈ S.ac, x ∈ S.st
theorem rise_short : ∀ (xs : List Nat) (m k : Nat), xs.Pairwise (· < ·) → (∀ x ∈ xs, m ≤ x ∧ x < k) → xs.length ≤ k - m
  | [], m, k, _, _ => Nat.zero_le _
  | x :: xs, m, k, h, hb => by
    rw [List.pairwise_cons] at h
    have := rise_short xs (x + 1) k h.2 fun y hy => ⟨h.1 y hy, (hb y (List.mem_cons_of_mem _ hy)).2⟩
    have h1 := hb x (List.mem_cons_self ..)
    rw [List.length_cons]
    omega
theorem Good.len {S : Sy} (G : Good S) : S.st.length ≤ 40 := by
  have := rise_short S.st 0 40 G.rise fun x hx => ⟨Nat.zero_le _, G.lt x hx⟩
  omega
theorem Good.alen {S : Sy} (G : Good S) : S.ac.length ≤ 40 := by
  have := rise_short S.ac 0 40 G.arise fun x hx => ⟨Nat.zero_le _, G.lt x (G.asub x hx)⟩
  omega
theorem nodup_lenS : ∀ (n : Nat) (l : List Int), l.Nodup → (∀ x ∈ l, 0 ≤ x ∧ x < n) → l.length ≤ n
  | 0, l, _, h => by
    cases l with
    | nil => exact Nat.le_refl _
    | cons x l =>
      have := h x (List.mem_cons_self ..)
      omega
  | n + 1, l, hd, h => by
    by_cases c : (n : Int) ∈ l
    · have h1 := nodup_lenS n (l.erase (n : Int)) (hd.erase _) fun x hx => by
        have h2 := h x (List.mem_of_mem_erase hx)
        have h3 : x ≠ (n : Int) := fun e => by
          rw [e] at hx
          exact (List.Nodup.not_mem_erase hd) hx
        omega
      have h4 := List.length_erase_of_mem c
      omega
    · have h1 := nodup_lenS n l hd fun x hx => by
        have h2 := h x hx
        have h3 : x ≠ (n : Int) := fun e => c (e ▸ hx)
        omega
      omega
theorem nodup_one (x : Nat) : [x].Nodup := by simp
/-! ### what is reached -/
inductive Rch (S : Sy) : Nat → Nat → Prop where
  | refl (s : Nat) : Rch S s s
  | step {s t : Nat} {m : Mv} (h : Rch S s t) (hm : m ∈ S.mv) (e : m.1 = t) : Rch S s m.2.2
theorem Rch.trans {S : Sy} {a b c : Nat} (h : Rch S a b) (k : Rch S b c) : Rch S a c := by
  induction k with
  | refl => exact h
  | step _ hm e ih => exact .step ih hm e
theorem Rch.one {S : Sy} {m : Mv} (hm : m ∈ S.mv) : Rch S m.1 m.2.2 := .step (.refl _) hm rfl
theorem Rch.mem {S : Sy} (G : Good S) {a b : Nat} (ha : a ∈ S.st) (h : Rch S a b) : b ∈ S.st := by
  cases h with
  | refl => exact ha
  | step _ hm _ => exact (G.min _ hm).2.1
/-- what is closed under moves holds what is reached -/
theorem Rch.closed {S : Sy} {a b : Nat} {F : Nat → Prop} (h : Rch S a b) (ha : F a) (hc : ∀ m ∈ S.mv, F m.1 → F m.2.2) : F b := by
  induction h with
  | refl => exact ha
  | step _ hm e ih => exact hc _ hm (by rw [e]; exact ih)
noncomputable def dec (p : Prop) : Bool := @decide p (Classical.propDecidable p)
theorem dec_iff {p : Prop} : dec p = true ↔ p := by
  unfold dec
  exact @decide_eq_true_iff p (Classical.propDecidable p)
noncomputable def orbL (S : Sy) (s : Nat) : List Nat := S.st.filter fun o => dec (Rch S s o ∧ Rch S o s)
theorem mem_orb {S : Sy} {s o : Nat} : o ∈ orbL S s ↔ o ∈ S.st ∧ Rch S s o ∧ Rch S o s := by
  unfold orbL
  rw [List.mem_filter, dec_iff]
def endsL (S : Sy) (s : Nat) : List Nat := (S.mv.filter fun m => decide (m.1 = s)).map (·.2.2)
end My
set_option maxHeartbeats 1000000
namespace My
open PySem PySem.Spec PyProof.Rows L2
/-! ### reversed(text) -/
theorem vs_norev : typeLookup (.type "str") "__reversed__" = pure none := by rw [typeLookup_type, builtinLookup_eq_fast]; kernel_rfl
theorem vs_get : typeLookup (.type "str") "__getitem__" = pure (some (.builtin "str.__getitem__")) := by rw [typeLookup_type, builtinLookup_eq_fast]; kernel_rfl
theorem vs_sub : isSubtype (.type "str") (.type "dict") = pure false := by rw [isSubtype_type]; kernel_rfl
def vsObj (x : Str) (t : Tok) (i : Int) : Obj := { cls := .type "reversed", data := .fields #[.str x t, rawInt i] }
/-- reversed(x), the next place i -/
def IsVs (h : Heap) (a : Addr) (x : Str) (t : Tok) (i : Int) : Prop := ∃ o, h.get? a = some o ∧ o.cls = .type "reversed" ∧ o.data = .fields #[.str x t, rawInt i]
theorem IsVs.at {h h' : Heap} {a : Addr} {x : Str} {t : Tok} {i : Int} (y : IsVs h a x t i) (e : ∀ o, h.get? a = some o → h'.get? a = some o) : IsVs h' a x t i := let ⟨o, ho, r⟩ := y; ⟨o, e _ ho, r⟩
section
variable {prog : Program} {w : World} {A : Around} {E : Value → Shared → Prop} {s : Shared}
theorem IsVs.typeIs {a : Addr} {x : Str} {t : Tok} {i : Int} (y : IsVs s.heap a x t i) : s.TypeIs (.ref a) "reversed" := let ⟨o, ho, hc, _⟩ := y; ⟨o, ho, hc⟩
theorem vs_code {x : Str} {t : Tok} {Q₁ : Value → Shared → Prop} (hz : x.length ≤ sizeLine)
    (h : Q₁ (.ref s.heap.objs.size) { s with heap := s.heap.push (vsObj x t ((x.length : Int) - 1)), toks := s.toks + 1 + 1 }) :
    codeAny (model prog w) A (.call (.builtin "reversed.__new__") ⟨[.type "reversed", .str x t], []⟩) (wants Q₁ E) s := by
  have hT : s.TypeIs (.str x t) "str" := typeIs_str s x t
  have hn := line63
  refine codeAny_of_tree ?_
  show wpAny _ A.in1 (do checkBuiltinCall "reversed.__new__" ⟨[.type "reversed", .str x t], []⟩; again (.builtin "reversed.__new__" ⟨[.type "reversed", .str x t], []⟩)) _ _ s
  refine wpAny_bind (wpAny_of_eq (F.newCall_reversed_1 _) (wpAny_pure ⟨plainId_quiet F.plain_reversed_new _, codeAny_builtin F.entry_reversed_new ?_⟩))
  rw [Around.under_plainId F.plain_reversed_new _]
  unfold Builtin.«reversed.__new__»
  refine wpAny_bind (wpAny_of_eq (newClass_reversed _) ?_)
  try dsimp only
  refine wpAny_bind (wpAny_of_eq (a := ()) (by first | rfl | kernel_rfl) ?_)
  try dsimp only
  refine wpAny_bind (wpAny_of_eq (a := ()) (by first | rfl | kernel_rfl) ?_)
  try dsimp only
  refine wpAny_bind (wpAny_specialOf hT vs_norev ?_)
  try dsimp only
  refine wpAny_bind ?_
  wp_delta
  refine wpAny_bind (wpAny_isInstance (T := "str") (U := "dict") (b := false) hT vs_sub ?_)
  try dsimp only
  try rw [if_neg Bool.false_ne_true]
  try dsimp only
  refine wpAny_bind (wpAny_specialOf hT vs_get ?_)
  try dsimp only
  try rw [if_pos (by decide +kernel)]
  refine wpAny_pure ?_
  try dsimp only
  try rw [if_neg (by decide)]
  try dsimp only
  refine wpAny_bind (P.len_str (by omega) ?_)
  refine wpAny_bind (wpAny_of_eq (a := some ((x.length : Nat) : Int)) rfl ?_)
  try dsimp only
  refine wpAny_bind ?_
  show wpAny _ _ (newObj (.type "reversed") (.fields #[.str x t, rawInt ((x.length : Int) - 1)])) _ _ _
  refine wpAny_newObj_type ?_
  exact wpAny_pure h
theorem vs_call {x : Str} {t : Tok} {Q : Value → Shared → Prop} (hz : x.length ≤ sizeLine)
    (h : Q (.ref s.heap.objs.size) { s with heap := s.heap.push (vsObj x t ((x.length : Int) - 1)), toks := s.toks + 1 + 1 }) : wpAny (model prog w) A (call (.type "reversed") [.str x t]) Q E s := by
  refine callType_codes (Q₁ := fun obj s₁ => s₁.TypeIs obj "reversed" ∧ Q obj s₁) RT.called_rt (F.typeCall_reversed_1 _) F.entry_object_init
    (vs_code (A := A.in1) hz ⟨⟨_, Heap.get?_push_size _ rfl, rfl⟩, h⟩) fun obj s₁ h₁ => ?_
  exact ⟨h₁.1, F.args_object_init_2 obj _, object_init_meets RT.called_rt.init.lookup RT.called_rt.made (by decide) prog w A.in1 _ s₁ ⟨h₁.1, rfl, h₁.2⟩⟩
theorem vs_item {it : Addr} {x : Str} {t : Tok} {i c : Nat} {Q : Option Value → Shared → Prop} (hit : IsVs s.heap it x t (i : Int)) (hx : x.cps[i]? = some c) (hsz : x.length ≤ sizeLine)
    (hQ : ∀ h' tk tk', IsVs h' it x t ((i : Int) - 1) → Heap.SameBut it s.heap h' → Q (some (.str ⟨#[c]⟩ tk)) { s with heap := h', toks := tk' }) : wpAny (model prog w) A (pyNext (.ref it)) Q E s := by
  obtain ⟨o, ho, hc, hd⟩ := id hit
  have hi : i < x.length := (Array.getElem?_eq_some_iff.mp hx).1
  have hT : s.TypeIs (.str x t) "str" := typeIs_str s x t
  have hn := line63
  unfold pyNext
  refine wpAny_bind (wpAny_attempt (wpAny_callSpecial?_slot (name := Str.ofString "__next__") hit.typeIs RT.slot_rt_next
    (wpAny_call_entry RT.slot_rt_next hit.typeIs RT.entry_rt_next ?_ (RT.args_rt_next _))))
  unfold Builtin.«reversed.__next__»
  refine wpAny_bind (wpAny_of_eq (a := (Value.ref it, [])) rfl ?_)
  try dsimp only
  refine wpAny_bind (wpAny_field ho hd (x := .str x t) rfl ?_)
  try dsimp only
  refine wpAny_bind (wpAny_field ho hd (x := rawInt (i : Int)) rfl ?_)
  show wpAny _ _ (if (i : Int) < 0 then _ else _) _ _ s
  rw [if_neg (by omega)]
  try dsimp only
  refine wpAny_bind (wpAny_specialOf hT vs_get ?_)
  try dsimp only
  try rw [if_neg (by decide)]
  try dsimp only
  refine wpAny_bind (wpAny_mkInt ?_)
  refine wpAny_bind (wpAny_attempt ?_)
  have fin : seqIndex? (i : Int) x.length = some i := seqIndex_of (by omega) (by omega)
  refine P.getItem_str (s := { s with toks := s.toks + 1 }) (c := c) ?_ (by rw [fin]; exact hx) ?_
  · have e1 : decide ((i : Int) < -(2 ^ 63 : Int)) = false := decide_eq_false (by omega)
    have e2 : decide ((i : Int) ≥ 2 ^ 63) = false := decide_eq_false (by omega)
    rw [e1, e2, Bool.or_false]
  try dsimp only
  refine wpAny_bind (wpAny_field (s := { s with toks := s.toks + 1 + 1 }) ho hd (x := rawInt (i : Int)) rfl ?_)
  try dsimp only
  refine wpAny_bind (wpAny_setField (s := { s with toks := s.toks + 1 + 1 }) ho hd (by simp) ?_)
  first
  | refine wpAny_pure ⟨_, rfl, wpAny_pure (hQ _ _ _ ?_ (Heap.SameBut.update ..))⟩
  | refine wpAny_bind (wpAny_pure (wpAny_pure ⟨_, rfl, wpAny_pure (hQ _ _ _ ?_ (Heap.SameBut.update ..))⟩))
  exact ⟨_, Heap.get?_update_self _ ho (Obj.isFreed_of_fields (Obj.data_mapFields hd _)), (Obj.cls_mapFields ..).trans hc, by
    rw [Obj.data_mapFields hd]; simp⟩
theorem vs_end {it : Addr} {x : Str} {t : Tok} {Q : Option Value → Shared → Prop} (hh : A.handled = none) (hit : IsVs s.heap it x t (-1))
    (hQ : ∀ h', Heap.ExtBut it s.heap h' → Q none { s with heap := h' }) : wpAny (model prog w) A (pyNext (.ref it)) Q E s := by
  obtain ⟨o, ho, hc, hd⟩ := id hit
  unfold pyNext
  refine wpAny_bind (wpAny_attempt (wpAny_callSpecial?_slot (name := Str.ofString "__next__") hit.typeIs RT.slot_rt_next
    (wpAny_call_entry RT.slot_rt_next hit.typeIs RT.entry_rt_next ?_ (RT.args_rt_next _))))
  unfold Builtin.«reversed.__next__»
  refine wpAny_bind (wpAny_of_eq (a := (Value.ref it, [])) rfl ?_)
  try dsimp only
  refine wpAny_bind (wpAny_field ho hd (x := .str x t) rfl ?_)
  try dsimp only
  refine wpAny_bind (wpAny_field ho hd (x := rawInt (-1)) rfl ?_)
  show wpAny _ _ (if (-1 : Int) < 0 then _ else _) _ _ s
  rw [if_pos (by decide)]
  try dsimp only
  refine wpAny_bind (wpAny_rule ?_)
  refine wpAny_bind ?_
  wp_delta
  refine wpAny_bind (wpAny_setField ho hd (by simp) ?_)
  have ho2 := Heap.get?_update_self (Obj.mapFields (·.setIfInBounds 1 (rawInt (-1)))) ho (Obj.isFreed_of_fields (Obj.data_mapFields hd _))
  refine wpAny_setField (s := { s with heap := s.heap.update it (Obj.mapFields (·.setIfInBounds 1 (rawInt (-1)))) }) ho2 (Obj.data_mapFields hd _) (by simp) ?_
  try dsimp only
  first
  | show wpAny _ _ (newExc (.type "StopIteration") [] >>= _) _ _ _
  | (refine wpAny_bind ?_; show wpAny _ _ (newExc (.type "StopIteration") [] >>= _) _ _ _)
  | (refine wpAny_bind ?_; wp_delta; show wpAny _ _ (newExc (.type "StopIteration") [] >>= _) _ _ _)
  refine wpAny_bind ?_
  simp only [newExc, newTuple]
  refine wpAny_bind (wpAny_newObj_type ?_ (by size_fits))
  refine wpAny_bind (m := firstArgMember _ _) (wpAny_of_eq (a := Value.none) (by first | rfl | (simp only [firstArgMember]; rfl)) ?_)
  refine wpAny_newObj_type ?_ (by size_fits)
  simp only [raiseNew]
  refine wpAny_bind (wpAny_handled ?_)
  first | rw [show A.in1.handled = none from hh] | rw [hh]
  refine wpAny_bind (wpAny_pure (wpAny_throw ?_))
  refine wpAny_bind (wpAny_isInstance (T := "StopIteration") (b := true) ⟨_, Heap.get?_push_size _ rfl, rfl⟩ isSubtype_stop ?_)
  refine wpAny_pure (hQ _ ?_)
  refine ((?_ : Heap.ExtBut it s.heap _).push _).push _
  exact fun b ob hb e => (Heap.get?_update_other _ _ (Ne.symm hb)).trans ((Heap.get?_update_other _ _ (Ne.symm hb)).trans e)
theorem vs_iter {it : Addr} {x : Str} {t : Tok} {i : Int} {Q : Value → Shared → Prop} (hit : IsVs s.heap it x t i) (h : Q (.ref it) s) : wpAny (model prog w) A (pyIter (.ref it)) Q E s := by
  refine wpAny_pyIter_slot hit.typeIs RT.slot_rt_iter (wpAny_call_entry RT.slot_rt_iter hit.typeIs RT.entry_rt_iter ?_ (RT.args_rt_iter _))
  show wpAny _ _ (ret (.ref it)) _ _ s
  exact wpAny_pure ⟨_, rfl, "reversed", _, hit.typeIs, RT.slot_rt_next.lookup, h⟩
end
/-- the letters of a text from its end -/
def Itvs (x : Str) : It := ⟨fun i _ => i < x.cps.size, fun i H v H' => H' = H ∧ ∃ c, x.cps[x.cps.size - 1 - i]? = some c ∧ v = .str ⟨#[c]⟩, fun i _ => x.cps.size ≤ i⟩
theorem vs_turn {P : Program} {w : World} {K : PySem.W.Frag} {tg : Expr} (it : Addr) (x : Str) (t : Tok) (hz : x.length ≤ sizeLine) : Turn P w K tg (Itvs x) [it] it (fun i h => i ≤ x.cps.size ∧ IsVs h it x t ((x.cps.size : Int) - 1 - (i : Nat))) where
  mem := by simp
  obj := fun i h st b hb => by
    have e : b = it := by simpa using hb
    subst e
    obtain ⟨_, o, e, c, d⟩ := st
    exact ⟨o, e, fun v z => by rw [d] at z; cases z⟩
  keep := fun i h h' st k => ⟨st.1, st.2.at fun o e => k it (by simp) o e⟩
  item := by
    intro X hP hw hK hc i pins s σ H E I hf st hg
    subst hP hw hK
    have hin : i < x.cps.size := hg
    obtain ⟨f0, f1, f2, f3, f4, f5⟩ := hf it (by simp)
    obtain ⟨_, hit⟩ := st
    have e1 : (x.cps.size : Int) - 1 - ((i : Nat) : Int) = ((x.cps.size - 1 - i : Nat) : Int) := by omega
    rw [e1] at hit
    have hx : x.cps[x.cps.size - 1 - i]? = some (x.cps[x.cps.size - 1 - i]'(by omega)) := Array.getElem?_eq_getElem _
    refine vs_item hit hx hz fun h' tk tk' st' sb => ?_
    have e2 : ((x.cps.size - 1 - i : Nat) : Int) - 1 = (x.cps.size : Int) - 1 - ((i + 1 : Nat) : Int) := by omega
    rw [e2] at st'
    have I1 : Inv X pins σ H { s with heap := h', toks := tk' } := I.turned (t' := tk') (fun b o hb e => (sb.2 b hb).trans e) f0 f1 f3 f4 f5
    obtain ⟨o, e, c, d⟩ := id st'
    exact ⟨_, rfl, go_of (s := { s with heap := h', toks := tk' }) e c d (by decide) ⟨.str ⟨#[x.cps[x.cps.size - 1 - i]'(by omega)]⟩, H, I1, ⟨tk, rfl⟩, ⟨rfl, _, hx, rfl⟩, ⟨hin, st'⟩, fun b hb => (hf b hb).1⟩⟩
  done := by
    intro X hP hw hK hc i pins s σ H E I hf st hg
    subst hP hw hK
    obtain ⟨f0, f1, f2, f3, f4, f5⟩ := hf it (by simp)
    obtain ⟨hin, hit⟩ := st
    have hge : x.cps.size ≤ i := hg
    have e1 : (x.cps.size : Int) - 1 - ((i : Nat) : Int) = -1 := by omega
    rw [e1] at hit
    exact vs_end (I.ok.hd hc) hit fun h' eb => ⟨rfl, I.turned (t' := s.toks) (fun b o hb e => eb b o hb e) f0 f1 f3 f4 f5⟩
  self := fun A i s Q E st h => vs_iter st.2 h
def iRevS (te : TE) : TI := fun σ H R => te σ H fun v H1 => ∃ x, v = .str x ∧ x.length ≤ sizeLine ∧ R (Itvs x) H1
theorem pi_revS {X : Cx} {tg e : Expr} {te : TE} {p pos : Pos} (hg : L2.Gl X "reversed") (hm : X.mg "reversed" = none) (he : PE X e te) (hs : starEach [e] X.env = (false, eval e X.env) :: starEach [] X.env := by rfl) : PI X tg (.Call (.Name "reversed" p) [e] [] pos) (iRevS te) := by
  refine ⟨fun pins s σ H R I h => ?_⟩
  refine Call_ (ld_blt I hg hm PyProof.Rows.boot_reversed (PyProof.Rows.callWith_type1 (args_cons (thn (he.run pins s σ H _ I h) fun u s1 ⟨v, H1, I1, r1, q1⟩ => args_nil ?_) hs) hs rfl))
  obtain ⟨x, ev, hz, q⟩ := q1
  subst ev
  obtain ⟨t, rfl⟩ := r1
  have e1 : ((x.length : Nat) : Int) - 1 = (x.cps.size : Int) - 1 - ((0 : Nat) : Int) := by
    show ((x.cps.size : Nat) : Int) - 1 = _
    omega
  refine vs_call hz (vs_iter (x := x) (t := t) (i := ((x.length : Nat) : Int) - 1) ⟨_, Heap.get?_push_size _ rfl, rfl, rfl⟩ ?_)
  refine pi_one (tk := s1.toks + 1 + 1) I1 _ (vs_turn _ x t hz) ⟨Nat.zero_le _, ?_⟩ q
  rw [← e1]
  exact ⟨_, Heap.get?_push_size _ rfl, rfl, rfl⟩
/-- a loop over a text from its end -/
theorem for_revS {z : Str} {g : TG} {tb : TS} {D : Ends} {σ : L2.St} {H : Hp} (Pv : Nat → L2.St → Hp → Prop) (h0 : Pv 0 σ H)
    (hs : ∀ i c σ H, i < z.cps.size → z.cps[z.cps.size - 1 - i]? = some c → Pv i σ H → g (.str ⟨#[c]⟩) σ H fun σ2 H2 => tb { D with nx := Pv (i + 1), ct := Pv (i + 1), bk := D.nx } σ2 H2) (hd : ∀ σ H, Pv z.cps.size σ H → D.nx σ H) :
    ∃ W : Nat → Nat → L2.St → Hp → Prop, (∃ m, W 0 m σ H) ∧ ∀ i m σ H, W i m σ H →
      ((Itvs z).stop i H ∧ D.nx σ H) ∨ ((Itvs z).go i H ∧ ∃ N : L2.St → Hp → Prop, (∀ σ' H', N σ' H' → ∃ m', m' < m ∧ W (i + 1) m' σ' H') ∧ ∀ x H', (Itvs z).yld i H x H' → g x σ H' fun σ2 H2 => tb { D with nx := N, ct := N, bk := D.nx } σ2 H2) := by
  refine ⟨fun i m σ H => m = z.cps.size - i ∧ i ≤ z.cps.size ∧ Pv i σ H, ⟨z.cps.size, by simp, Nat.zero_le _, h0⟩, ?_⟩
  rintro i m σ H ⟨rfl, hi, p⟩
  by_cases hlt : i < z.cps.size
  · refine .inr ⟨hlt, Pv (i + 1), fun σ' H' p' => ⟨z.cps.size - (i + 1), by omega, rfl, hlt, p'⟩, fun x H' y => ?_⟩
    obtain ⟨rfl, c, hc, rfl⟩ := y
    exact hs i c σ _ hlt hc p
  · have e : i = z.cps.size := by omega
    subst e
    exact .inl ⟨Nat.le_refl _, hd σ H p⟩
/-! ### enumerate(text) -/
theorem ve_draws {prog : Program} {w : World} {A : Around} (hh : A.handled = none) (it : Addr) (x : Str) (t : Tok) {ty : String} (hty : ty = "str_ascii_iterator" ∨ ty = "str_iterator") :
    Draws prog w A it [it] x.cps.size (fun i v => ∃ c u, x.cps[i]? = some c ∧ v = .str ⟨#[c]⟩ u) (fun i h => h.IsStrIter it ty x t i) := by
  rcases hty with e | e
  · subst e; exact Draws.strAscii hh it x t
  · subst e; exact Draws.strWide hh it x t
/-- the letters of a text, each with its place in a new pair -/
def Itve (x : Str) : It :=
  ⟨fun i _ => i < x.cps.size, fun i H v H' => ∃ T c, v = .ref T ∧ H T = none ∧ H' = upd H T (.tup [.int (i : Nat), .str ⟨#[c]⟩]) ∧ x.cps[i]? = some c, fun i _ => x.cps.size ≤ i⟩
theorem ve_turn {P : Program} {w : World} {K : PySem.W.Frag} {elts : List Expr} {kk : Nat} {tpos : Pos} (e it : Addr) (x : Str) (t : Tok) {ty : String} (hty : ty = "str_ascii_iterator" ∨ ty = "str_iterator") :
    Turn P w K (.Tuple elts kk tpos) (Itve x) [e, it] e (fun i h => i ≤ x.cps.size ∧ (∃ old, IsEnum h e it ((i : Nat) : Int) old) ∧ h.IsStrIter it ty x t i ∧ e ≠ it) where
  mem := by simp
  obj := fun i h st b hb => by
    obtain ⟨_, ⟨old, he⟩, ⟨o, ho, hc, hd⟩, _⟩ := st
    have e' : b = e ∨ b = it := by simpa using hb
    rcases e' with z | z
    · rw [z]; exact ⟨_, he, fun v q => nomatch q⟩
    · rw [z]; exact ⟨o, ho, fun v q => by rw [hd] at q; cases q⟩
  keep := fun i h h' st k => let ⟨hi, ⟨old, he⟩, ⟨o, ho, r⟩, hne⟩ := st; ⟨hi, ⟨old, k e (by simp) _ he⟩, ⟨o, k it (by simp) _ ho, r⟩, hne⟩
  item := by
    intro X hP hw hK hc i pins s σ H E I hf st hg
    subst hP hw hK
    obtain ⟨hi0, ⟨old, he⟩, hit, hne⟩ := st
    have hi : i < x.cps.size := hg
    have hel : e < s.heap.objs.size := Heap.lt_size he
    have hil : it < s.heap.objs.size := by obtain ⟨_, q, _⟩ := hit; exact Heap.lt_size q
    refine wpAny_pyNext_enum_itemD (ve_draws (A := X.A.in1) (I.ok.hd hc) it x t hty) he hit hi hne (fun h => hne (List.mem_singleton.mp h)) fun v h' tk hv ho hit' hT hsz hk => ?_
    obtain ⟨c, u, hxc, rfl⟩ := hv
    refine ⟨_, rfl, wpAny_letOwnedTupleGo_enum (s := { s with heap := h', toks := tk + 1 }) ho fun h'' he' sb => ?_⟩
    have hT2 : h''.get? s.heap.objs.size = some { cls := .type "tuple", data := .seq #[.int i tk, .str ⟨#[c]⟩ u] } := (sb.2 _ (Nat.ne_of_gt hel)).trans hT
    have new : ObjOk X.prog X.w (upd H s.heap.objs.size (.tup [.int (i : Nat), .str ⟨#[c]⟩])) h'' s.heap.objs.size (.tup [.int (i : Nat), .str ⟨#[c]⟩]) :=
      ⟨by show 2 ≤ sizeLine; decide, [.int i tk, .str ⟨#[c]⟩ u], .cons ⟨_, rfl⟩ (.cons ⟨u, rfl⟩ .nil), ⟨_, hT2, rfl, _, rfl⟩⟩
    have I1 : Inv X pins σ (upd H s.heap.objs.size (.tup [.int (i : Nat), .str ⟨#[c]⟩])) { s with heap := h'', toks := tk + 1 } :=
      I.turnedNew (ch := [e, it]) (fun b ob hb q => (sb.2 b (fun z => hb (by simp [z]))).trans (hk b ob (fun z => hb (by simp [z])) (fun z => hb (by simp [z])) q)) hf (Nat.le_refl _) new
    refine ⟨.ref s.heap.objs.size, _, I1, rfl, ⟨_, c, rfl, I.hok.fresh (Nat.le_refl _), rfl, hxc⟩, ⟨hi, ⟨.str ⟨#[c]⟩ u, ?_⟩, ?_, hne⟩, fun b hb => ?_⟩
    · have e1 : ((i + 1 : Nat) : Int) = (i : Int) + 1 := by omega
      rw [e1]; exact he'
    · obtain ⟨o, ho', r⟩ := hit'
      exact ⟨o, (sb.2 it (Ne.symm hne)).trans ho', r⟩
    · have hb' : b < s.heap.objs.size := by
        have e' : b = e ∨ b = it := by simpa using hb
        rcases e' with z | z
        · rw [z]; exact hel
        · rw [z]; exact hil
      rw [upd_ne (Nat.ne_of_lt hb')]
      exact (hf b hb).1
  done := by
    intro X hP hw hK hc i pins s σ H E I hf st hg
    subst hP hw hK
    obtain ⟨hi0, ⟨old, he⟩, hit, hne⟩ := st
    have hge : x.cps.size ≤ i := hg
    have hi : i = x.cps.size := by omega
    subst hi
    obtain ⟨f0, f1, f2, f3, f4, f5⟩ := hf it (by simp)
    exact wpAny_pyNext_enum_endD (ve_draws (A := X.A.in1) (I.ok.hd hc) it x t hty) he hit fun h' eb => ⟨rfl, I.turned (t' := s.toks) (fun b o hb q => eb b o hb q) f0 f1 f3 f4 f5⟩
  self := fun A i s Q E st h => let ⟨_, ⟨_, he⟩, _⟩ := st; wpAny_pyIter_enum he h
def iEnumS (ta : TA) : TI := fun σ H R => ta σ H fun vs H1 => ∃ x, vs = [.str x] ∧ R (Itve x) H1
theorem pi_enumS {X : Cx} {e : Expr} {ta : TA} {p pos tpos : Pos} {elts : List Expr} {kk : Nat} (hg : L2.Gl X "enumerate") (hm : X.mg "enumerate" = none) (ha : PA X [e] ta) (hs : starEach [e] X.env = [(false, eval e X.env)] := by rfl) :
    PI X (.Tuple elts kk tpos) (.Call (.Name "enumerate" p) [e] [] pos) (iEnumS ta) := by
  refine ⟨fun pins s σ H R I h => ?_⟩
  refine Call_ (ld_blt I hg hm boot_enumerate (PyProof.Rows.callWith_type1 (thn (ha.run pos pins s σ H _ I h) fun us s1 ⟨vs, H1, I1, r1, q1⟩ => ?_) hs rfl))
  obtain ⟨x, ex, q⟩ := q1
  subst ex
  cases r1 with
  | cons r rr =>
    cases rr
    obtain ⟨t, rfl⟩ := r
    have hty : strIterType x = "str_ascii_iterator" ∨ strIterType x = "str_iterator" := by
      unfold strIterType
      split
      · exact .inl rfl
      · exact .inr rfl
    refine call_enumerate_str fun h' he hit hsz hk => wpAny_pyIter_enum he ?_
    have I2 : Inv X pins σ H1 { s1 with heap := h' } := I1.kept (t' := s1.toks) hk
    refine ⟨s1.heap.objs.size + 1, [s1.heap.objs.size + 1, s1.heap.objs.size], _, _, H1, rfl, I2, ve_turn (s1.heap.objs.size + 1) s1.heap.objs.size x t hty, ⟨Nat.zero_le _, ⟨.none, he⟩, hit, Nat.succ_ne_self _⟩, fun b hb => ?_, q⟩
    have e' : b = s1.heap.objs.size + 1 ∨ b = s1.heap.objs.size := by simpa using hb
    have hle : s1.heap.objs.size ≤ b := by
      rcases e' with z | z
      · rw [z]; exact Nat.le_add_right _ _
      · rw [z]; exact Nat.le_refl _
    exact I1.fpOk hle (I1.hok.fresh hle)
theorem for_enumS {z : Str} {g : TG} {tb : TS} {D : Ends} {σ : L2.St} {H : Hp} (Pv : Nat → L2.St → Hp → Prop) (h0 : Pv 0 σ H)
    (hs : ∀ i c T σ H, z.cps[i]? = some c → Pv i σ H → H T = none → g (.ref T) σ (upd H T (.tup [.int (i : Nat), .str ⟨#[c]⟩])) fun σ2 H2 => tb { D with nx := Pv (i + 1), ct := Pv (i + 1), bk := D.nx } σ2 H2) (hd : ∀ σ H, Pv z.cps.size σ H → D.nx σ H) :
    ∃ W : Nat → Nat → L2.St → Hp → Prop, (∃ m, W 0 m σ H) ∧ ∀ i m σ H, W i m σ H →
      ((Itve z).stop i H ∧ D.nx σ H) ∨ ((Itve z).go i H ∧ ∃ N : L2.St → Hp → Prop, (∀ σ' H', N σ' H' → ∃ m', m' < m ∧ W (i + 1) m' σ' H') ∧ ∀ x H', (Itve z).yld i H x H' → g x σ H' fun σ2 H2 => tb { D with nx := N, ct := N, bk := D.nx } σ2 H2) := by
  refine ⟨fun i m σ H => m = z.cps.size - i ∧ i ≤ z.cps.size ∧ Pv i σ H, ⟨z.cps.size, by simp, Nat.zero_le _, h0⟩, ?_⟩
  rintro i m σ H ⟨rfl, hi, p⟩
  by_cases hlt : i < z.cps.size
  · refine .inr ⟨hlt, Pv (i + 1), fun σ' H' p' => ⟨z.cps.size - (i + 1), by omega, rfl, hlt, p'⟩, fun x H' y => ?_⟩
    obtain ⟨T, c, rfl, hT, rfl, hc⟩ := y
    exact hs i c T σ H hc p hT
  · have e : i = z.cps.size := by omega
    subst e
    exact .inl ⟨Nat.le_refl _, hd σ H p⟩
end My
set_option maxHeartbeats 1000000
namespace My
open PySem PySem.Spec PyProof.Rows L2
/-! ### enumerate(tuple) -/
theorem meets_enumT (l : Addr) (items : Array Value) (n : Nat) (dct : Option Addr) (sl : Array (Option Value)) :
    Meets (Builtin.«enumerate.__new__» ⟨[.type "enumerate", .ref l], []⟩) (fun _ R s => s.heap.get? l = some { cls := .type "tuple", dict := dct, data := .seq items n, slots := sl } ∧
      R (.ok (.ret (.ref (s.heap.push { cls := .type "tuple_iterator", data := .fields #[.ref l, .int 0 0] }).objs.size)))
        { s with heap := (s.heap.push { cls := .type "tuple_iterator", data := .fields #[.ref l, .int 0 0] }).push { cls := .type "enumerate", data := .fields #[.none, .bool false, .ref s.heap.objs.size, rawInt 0, .none, .none] } }) :=
  .of_wp fun prog w A R s h => by
    obtain ⟨hp, g, d, tk, os⟩ := s; obtain ⟨hl, h⟩ := h
    have hsub := sub_enumerate
    have hL : Heap.IsTuple (Shared.heap ⟨hp, g, d, tk, os⟩) l items := ⟨_, hl, rfl, n, rfl⟩
    wp_walk using AutoSeq1.wpAny_loadPart' hl
    refine wpAny_stack_any fun st => wpAny_pure ?_
    split
    · rename_i c _ _ _ _ _
      cases (c == Value.type "enumerate")
      · wp_walk using AutoSeq1.wpAny_loadPart' hl, wpAny_pyIter_tuple hL
        exact ⟨_, rfl, h⟩
      · wp_walk using AutoSeq1.wpAny_loadPart' hl, wpAny_pyIter_tuple hL
        exact ⟨_, rfl, h⟩
    · wp_walk using AutoSeq1.wpAny_loadPart' hl, wpAny_pyIter_tuple hL
      exact ⟨_, rfl, h⟩
theorem call_enumT {prog : Program} {w : World} {A : Around} {E : Value → Shared → Prop} {s : Shared} {l : Addr} {items : Array Value} {Q : Value → Shared → Prop} (hL : s.heap.IsTuple l items)
    (h : ∀ h', IsEnum h' (s.heap.objs.size + 1) s.heap.objs.size 0 .none → h'.IsTupleIter s.heap.objs.size l 0 → h'.objs.size = s.heap.objs.size + 2 →
      (∀ b o, s.heap.get? b = some o → h'.get? b = some o) → Q (.ref (s.heap.objs.size + 1)) { s with heap := h' }) :
    wpAny (model prog w) A (call (.type "enumerate") [.ref l]) Q E s := by
  obtain ⟨⟨c, dct, dt, sl⟩, hl, hc, n, hd⟩ := hL
  replace hc : c = .type "tuple" := hc
  replace hd : dt = .seq items n := hd
  subst hc hd
  refine callType_new F.called_enumerate (by decide) (F.typeCall_enumerate_1 _) (F.newCall_enumerate_1 _) (fun obj => F.args_object_init_2 obj _) F.entry_enumerate_new
    (meets_enumT l items n dct sl) ⟨hl, ?_⟩
  have hz : (s.heap.push { cls := .type "tuple_iterator", data := .fields #[.ref l, .int 0 0] }).objs.size = s.heap.objs.size + 1 := Heap.size_push ..
  show _ ∧ _
  rw [hz]
  have he : IsEnum ((s.heap.push { cls := .type "tuple_iterator", data := .fields #[.ref l, .int 0 0] }).push
      { cls := .type "enumerate", data := .fields #[.none, .bool false, .ref s.heap.objs.size, rawInt 0, .none, .none] }) (s.heap.objs.size + 1) s.heap.objs.size 0 .none := by
    have := Heap.get?_push_size (s.heap.push { cls := .type "tuple_iterator", data := .fields #[.ref l, .int 0 0] })
      (o := { cls := .type "enumerate", data := .fields #[.none, .bool false, .ref s.heap.objs.size, rawInt 0, .none, .none] }) rfl
    rw [hz] at this; exact this
  refine ⟨⟨_, he, rfl⟩, h _ he ⟨_, Heap.get?_push_of_some _ (Heap.get?_push_size _ rfl), rfl, rfl⟩ (by rw [Heap.size_push, hz]) fun b o x => Heap.get?_push_of_some _ (Heap.get?_push_of_some _ x)⟩
/-- the tuple at a, each item with its place in a new pair -/
def Itet (K : PySem.W.Frag) (a : Addr) : It :=
  ⟨fun i H => ∃ (xs : List V) (x : V), SqT K H a xs ∧ xs[i]? = some x, fun i H v H' => ∃ T x, v = .ref T ∧ H T = none ∧ H' = upd H T (.tup [.int (i : Nat), x]) ∧ ∀ xs, SqT K H a xs → xs[i]? = some x, fun i H => ∃ xs : List V, SqT K H a xs ∧ xs.length ≤ i⟩
theorem et_apart {h : Heap} {e it a : Addr} {i : Nat} {old : Value} {items : Array Value} {c : Int} (he : IsEnum h e it c old) (hit : h.IsTupleIter it a i) (ht : h.IsTuple a items) : e ≠ a ∧ a ≠ it := by
  obtain ⟨o, ho, hc, _⟩ := ht
  obtain ⟨o2, ho2, hc2, _⟩ := hit
  constructor
  · intro z
    rw [← z, (show h.get? e = _ from he)] at ho
    cases ho
    exact absurd (Value.type.inj hc) (by decide)
  · intro z
    rw [z, ho2] at ho
    cases ho
    rw [hc2] at hc
    exact absurd (Value.type.inj hc) (by decide)
theorem et_end {prog : Program} {w : World} {A : Around} {E : Value → Shared → Prop} {s : Shared} {e it a : Addr} {c : Int} {old : Value} {i : Nat} {items : Array Value} {Q : Option Value → Shared → Prop} (hh : A.in1.handled = none) (he : IsEnum s.heap e it c old) (hit : s.heap.IsTupleIter it a i) (ht : s.heap.IsTuple a items) (hx : items[i]? = none)
    (hQ : ∀ h', Heap.ExtBut it s.heap h' → Q none { s with heap := h' }) : wpAny (model prog w) A (pyNext (.ref e)) Q E s := by
  have hT : s.TypeIs (.ref e) "enumerate" := ⟨_, he, rfl⟩
  unfold pyNext
  refine wpAny_bind (wpAny_attempt (wpAny_callSpecial?_slot (name := Str.ofString "__next__") hT F.slot_enumerate_next
    (wpAny_call_entry F.slot_enumerate_next hT F.entry_enumerate_next ?_ (F.args_enumerate_next_1 _))))
  show wpAny _ _ (field (.ref e) 2 >>= _) _ _ _
  refine wpAny_bind (wpAny_field he rfl (x := .ref it) rfl ?_)
  refine wpAny_bind (wpAny_nextOf_tuple_end hh hit ht hx fun h' x he' hx' => ?_)
  obtain ⟨o, ho, hc⟩ := hx'
  refine wpAny_bind (wpAny_isInstance (T := "StopIteration") (b := true) ⟨o, ho, hc⟩ isSubtype_stop ?_)
  exact wpAny_pure (hQ _ he')
theorem et_turn {P : Program} {w : World} {K : PySem.W.Frag} {elts : List Expr} {kk : Nat} {tpos : Pos} (a e it : Addr) :
    Turn P w K (.Tuple elts kk tpos) (Itet K a) [e, it] e (fun i h => (∃ old, IsEnum h e it ((i : Nat) : Int) old) ∧ h.IsTupleIter it a i ∧ e ≠ it) where
  mem := by simp
  obj := fun i h st b hb => by
    obtain ⟨⟨old, he⟩, ⟨o, ho, hc, hd⟩, _⟩ := st
    have e' : b = e ∨ b = it := by simpa using hb
    rcases e' with z | z
    · rw [z]; exact ⟨_, he, fun v q => nomatch q⟩
    · rw [z]; exact ⟨o, ho, fun v q => by rw [hd] at q; cases q⟩
  keep := fun i h h' st k => let ⟨⟨old, he⟩, hi, hne⟩ := st; ⟨⟨old, k e (by simp) _ he⟩, hi.at fun o q => k it (by simp) o q, hne⟩
  item := by
    intro X hP hw hK hc i pins s σ H E I hf st hg
    subst hP hw hK
    obtain ⟨⟨old, he⟩, hit, hne⟩ := st
    obtain ⟨xs, x, hq, hx⟩ := hg
    obtain ⟨its, rv, p, hz⟩ := I.tuple hq
    have ht : s.heap.IsTuple a its.toArray := p
    obtain ⟨u, hu, ru⟩ := rv.get hx
    obtain ⟨ne1, ne2⟩ := et_apart he hit ht
    have hel : e < s.heap.objs.size := Heap.lt_size he
    have hil : it < s.heap.objs.size := by obtain ⟨_, q, _⟩ := hit; exact Heap.lt_size q
    refine wpAny_pyNext_enum_itemD (Draws.tuple (A := X.A.in1) (I.ok.hd hc) it a ne2 its.toArray) he ⟨hit, ht⟩ (by have := (List.getElem?_eq_some_iff.mp hu).1; simpa using this) hne (fun h => by
      rcases List.mem_cons.mp h with h | h
      · exact hne h
      · exact ne1 (List.mem_singleton.mp h)) fun v h' tk hv ho hit' hT hsz hk => ?_
    have hvu : v = u := by
      have : its.toArray[i]? = some u := by simpa using hu
      rw [this] at hv
      exact (Option.some.inj hv).symm
    subst hvu
    refine ⟨_, rfl, wpAny_letOwnedTupleGo_enum (s := { s with heap := h', toks := tk + 1 }) ho fun h'' he' sb => ?_⟩
    have hT2 : h''.get? s.heap.objs.size = some { cls := .type "tuple", data := .seq #[.int i tk, v] } := (sb.2 _ (Nat.ne_of_gt hel)).trans hT
    have new : ObjOk X.prog X.w (upd H s.heap.objs.size (.tup [.int (i : Nat), x])) h'' s.heap.objs.size (.tup [.int (i : Nat), x]) :=
      ⟨by show 2 ≤ sizeLine; decide, [.int i tk, v], .cons ⟨_, rfl⟩ (.cons ru .nil), ⟨_, hT2, rfl, _, rfl⟩⟩
    have I1 : Inv X pins σ (upd H s.heap.objs.size (.tup [.int (i : Nat), x])) { s with heap := h'', toks := tk + 1 } :=
      I.turnedNew (ch := [e, it]) (fun b ob hb q => (sb.2 b (fun z => hb (by simp [z]))).trans (hk b ob (fun z => hb (by simp [z])) (fun z => hb (by simp [z])) q)) hf (Nat.le_refl _) new
    refine ⟨.ref s.heap.objs.size, _, I1, rfl, ⟨_, x, rfl, I.hok.fresh (Nat.le_refl _), rfl, fun ys hy => by rw [I.tuple_inj hy hq]; exact hx⟩, ⟨⟨v, ?_⟩, hit'.1.at fun o q => (sb.2 it (Ne.symm hne)).trans q, hne⟩, fun b hb => ?_⟩
    · have e1 : ((i + 1 : Nat) : Int) = (i : Int) + 1 := by omega
      rw [e1]; exact he'
    · have hb' : b < s.heap.objs.size := by
        have e' : b = e ∨ b = it := by simpa using hb
        rcases e' with z | z
        · rw [z]; exact hel
        · rw [z]; exact hil
      rw [upd_ne (Nat.ne_of_lt hb')]
      exact (hf b hb).1
  done := by
    intro X hP hw hK hc i pins s σ H E I hf st hg
    subst hP hw hK
    obtain ⟨⟨old, he⟩, hit, hne⟩ := st
    obtain ⟨xs, hq, hx⟩ := hg
    obtain ⟨its, rv, p, hz⟩ := I.tuple hq
    have ht : s.heap.IsTuple a its.toArray := p
    obtain ⟨ne1, ne2⟩ := et_apart he hit ht
    obtain ⟨f0, f1, f2, f3, f4, f5⟩ := hf it (by simp)
    have hl := rv.length
    exact et_end (I.ok.hd hc) he hit ht (by simp; omega) fun h' eb => ⟨rfl, I.turned (t' := s.toks) (fun b o hb q => eb b o hb q) f0 f1 f3 f4 f5⟩
  self := fun A i s Q E st h => let ⟨⟨_, he⟩, _⟩ := st; wpAny_pyIter_enum he h
def iEnumT (K : PySem.W.Frag) (ta : TA) : TI := fun σ H R => ta σ H fun vs H1 => ∃ a xs, vs = [.ref a] ∧ SqT K H1 a xs ∧ R (Itet K a) H1
theorem pi_enumT {X : Cx} {e : Expr} {ta : TA} {p pos tpos : Pos} {elts : List Expr} {kk : Nat} (hg : L2.Gl X "enumerate") (hm : X.mg "enumerate" = none) (ha : PA X [e] ta) (hs : starEach [e] X.env = [(false, eval e X.env)] := by rfl) :
    PI X (.Tuple elts kk tpos) (.Call (.Name "enumerate" p) [e] [] pos) (iEnumT X.K ta) := by
  refine ⟨fun pins s σ H R I h => ?_⟩
  refine Call_ (ld_blt I hg hm boot_enumerate (PyProof.Rows.callWith_type1 (thn (ha.run pos pins s σ H _ I h) fun us s1 ⟨vs, H1, I1, r1, q1⟩ => ?_) hs rfl))
  obtain ⟨a, xs, ex, hq, q⟩ := q1
  subst ex
  cases r1 with
  | cons r rr =>
    cases rr
    cases r
    obtain ⟨its, rv, p', hz⟩ := I1.tuple hq
    refine call_enumT (show s1.heap.IsTuple a its.toArray from p') fun h' he hit hsz hk => wpAny_pyIter_enum he ?_
    have I2 : Inv X pins σ H1 { s1 with heap := h' } := I1.kept (t' := s1.toks) hk
    refine ⟨s1.heap.objs.size + 1, [s1.heap.objs.size + 1, s1.heap.objs.size], _, _, H1, rfl, I2, et_turn a (s1.heap.objs.size + 1) s1.heap.objs.size, ⟨⟨.none, he⟩, hit, Nat.succ_ne_self _⟩, fun b hb => ?_, q⟩
    have e' : b = s1.heap.objs.size + 1 ∨ b = s1.heap.objs.size := by simpa using hb
    have hle : s1.heap.objs.size ≤ b := by
      rcases e' with z | z
      · rw [z]; exact Nat.le_add_right _ _
      · rw [z]; exact Nat.le_refl _
    exact I1.fpOk hle (I1.hok.fresh hle)
theorem for_enumT {K : PySem.W.Frag} {a : Addr} {xs : List V} {g : TG} {tb : TS} {D : Ends} {σ : L2.St} {H : Hp} (Pv : Nat → L2.St → Hp → Prop) (h0 : Pv 0 σ H) (hl : ∀ i σ H, i ≤ xs.length → Pv i σ H → SqT K H a xs)
    (hs : ∀ i x T σ H, xs[i]? = some x → Pv i σ H → H T = none → g (.ref T) σ (upd H T (.tup [.int (i : Nat), x])) fun σ2 H2 => tb { D with nx := Pv (i + 1), ct := Pv (i + 1), bk := D.nx } σ2 H2) (hd : ∀ σ H, Pv xs.length σ H → D.nx σ H) :
    ∃ W : Nat → Nat → L2.St → Hp → Prop, (∃ m, W 0 m σ H) ∧ ∀ i m σ H, W i m σ H →
      ((Itet K a).stop i H ∧ D.nx σ H) ∨ ((Itet K a).go i H ∧ ∃ N : L2.St → Hp → Prop, (∀ σ' H', N σ' H' → ∃ m', m' < m ∧ W (i + 1) m' σ' H') ∧ ∀ x H', (Itet K a).yld i H x H' → g x σ H' fun σ2 H2 => tb { D with nx := N, ct := N, bk := D.nx } σ2 H2) := by
  refine ⟨fun i m σ H => m = xs.length - i ∧ i ≤ xs.length ∧ Pv i σ H, ⟨xs.length, by simp, Nat.zero_le _, h0⟩, ?_⟩
  rintro i m σ H ⟨rfl, hi, p⟩
  have hq := hl i σ H hi p
  by_cases hlt : i < xs.length
  · refine .inr ⟨⟨xs, _, hq, List.getElem?_eq_getElem hlt⟩, Pv (i + 1), fun σ' H' p' => ⟨xs.length - (i + 1), by omega, rfl, hlt, p'⟩, fun v H' y => ?_⟩
    obtain ⟨T, x, rfl, hT, rfl, hx⟩ := y
    exact hs i x T σ _ (hx xs hq) p hT
  · have e : i = xs.length := by omega
    subst e
    exact .inl ⟨⟨xs, hq, Nat.le_refl _⟩, hd σ H p⟩
end My
set_option maxHeartbeats 1000000
namespace My
open PySem PySem.Spec PyProof.Rows L2
/-! ### sorted(dict), int keys -/
theorem dk_len : typeLookup (.type "dict") "__len__" = pure (some (.builtin "dict.__len__")) := by rw [typeLookup_type, builtinLookup_eq_fast]; kernel_rfl
section
variable {prog : Program} {w : World} {A : Around} {E : Value → Shared → Prop} {s : Shared} {d : Addr} {es : Array DictEntry} {ep : Nat}
theorem dk_hint (hT : s.TypeIs (.ref d) "dict") {Q : Bool → Shared → Prop} (h : Q false s) : wpAny (model prog w) A (Builtin.List.listLengthHint (.ref d)) Q E s := by
  unfold Builtin.List.listLengthHint
  refine wpAny_bind (wpAny_specialOf hT dk_len ?_)
  generalize hid : ("dict.__len__" : String) = id0
  wp_delta
  rw [show splitId id0 = some ("dict", "__len__") from by subst hid; decide +kernel]
  subst hid
  refine wpAny_bind (wpAny_isInstance (T := "dict") (b := true) hT (by rw [isSubtype_type]; kernel_rfl) ?_)
  refine wpAny_ite_split (fun hab => absurd hab (by decide)) (fun _ => ?_)
  refine wpAny_ite_split (fun _ => ?_) (fun hab => absurd (by decide +kernel) hab)
  refine wpAny_bind (wpAny_typeOf hT ?_)
  exact wpAny_pure h
theorem raw_at {h h' : Heap} (x : h.DictRaw d es ep) (e : ∀ o, h.get? d = some o → h'.get? d = some o) : h'.DictRaw d es ep := let ⟨o, ho, r⟩ := x; ⟨o, e _ ho, r⟩
theorem raw_lt {h : Heap} (x : h.DictRaw d es ep) : d < h.objs.size := let ⟨_, ho, _⟩ := x; Heap.lt_size ho
theorem loopK {R : Result → Shared → Prop} {S I : Addr} (hh : A.handled = none) (hSI : S < I) (hSd : d ≠ S) (hId : d ≠ I) (hn : es.size ≤ sizeLine) (res : Value) {h₁ : Heap}
    (hR : ∀ h' acc c, (∀ b o, b ≠ S → b ≠ I → h₁.get? b = some o → h'.get? b = some o) → h'.get? S = some { cls := .type "list", dict := none, data := .seq acc c, slots := #[] } →
      acc.toList = es.toList.map (·.key) → R (.ok (.ret res)) { s with heap := h' }) :
    ∀ (k i : Nat) (h : Heap) (c : Nat) (acc : Array Value), es.size - i = k → i ≤ es.size → h.IsKeyIter I d i es.size ep → h.DictRaw d es ep → (∀ b o, b ≠ S → b ≠ I → h₁.get? b = some o → h.get? b = some o) →
      h.get? S = some { cls := .type "list", dict := none, data := .seq acc c, slots := #[] } → acc.toList = (es.toList.map (·.key)).take i →
      codeAny (model prog w) A (.builtin "list.extend.loop" ⟨[.ref S, .ref I, res], []⟩) R { s with heap := h } := by
  have hne : S ≠ I := Nat.ne_of_lt hSI
  intro k
  induction k with
  | zero =>
    intro i h c acc hk hi hst hD hkeep hS hacc
    refine codeAny_builtin PySem.F.entry_extend_loop ?_
    rw [Around.under_plainId PySem.F.plain_extend_loop _]
    show wpAny _ A.in1 (pyNext (.ref I) >>= _) _ _ _
    refine wpAny_bind (wpAny_pyNext_keys_end_raw (s := { s with heap := h }) (A := A.in1) hh hst hD (by omega) fun h' he => ?_)
    refine wpAny_pure (hR h' acc c (fun b o h1 h2 e => he b o h2 (hkeep b o h1 h2 e)) (he S _ hne hS) ?_)
    rw [hacc, List.take_of_length_le]
    rw [List.length_map, Array.length_toList]
    omega
  | succ k ih =>
    intro i h c acc hk hi hst hD hkeep hS hacc
    have hlt : i < es.size := by omega
    have hsz : acc.size = i := by rw [← Array.length_toList, hacc, List.length_take, List.length_map, Array.length_toList]; omega
    refine codeAny_builtin PySem.F.entry_extend_loop ?_
    rw [Around.under_plainId PySem.F.plain_extend_loop _]
    show wpAny _ A.in1 (pyNext (.ref I) >>= _) _ _ _
    refine wpAny_bind (wpAny_pyNext_keys_item_raw (s := { s with heap := h }) hst hD hlt fun h' hst' sb => ?_)
    have hkp : ∀ b o, b ≠ I → h.get? b = some o → h'.get? b = some o := fun b o hb e => (sb.2 b hb).trans e
    have hS' := hkp S _ hne hS
    have up : ∀ b o, b ≠ S → h'.get? b = some o → (h'.update S (Obj.mapSeq (·.push es[i].key))).get? b = some o := fun b o hb e => (Heap.get?_update_other _ _ (Ne.symm hb)).trans e
    show wpAny _ A.in1 (updateSeq S (·.push es[i].key) >>= _) _ _ _
    refine wpAny_bind ?_
    refine wpAny_updateSeq hS' rfl (wpAny_pure ⟨plainId_quiet PySem.F.plain_extend_loop _, ih (i + 1) _ _ (acc.push es[i].key) (by omega) hlt (hst'.at fun o e => up I o (Ne.symm hne) e) (raw_at hD fun o e => up d o hSd (hkp d o hId e))
      (fun b o h1 h2 e => up b o h1 (hkp b o h2 (hkeep b o h1 h2 e))) (Heap.get?_update_self _ hS' rfl) ?_⟩) (by rw [hsz]; omega) (by show (acc.push es[i].key).size ≤ sizeLine + 1; rw [Array.size_push]; omega)
    rw [Array.toList_push, hacc, List.take_add_one]
    congr 1
    rw [List.getElem?_map, Array.getElem?_toList, Array.getElem?_eq_getElem hlt]
    rfl
theorem extK {R : Result → Shared → Prop} (hh : A.handled = none) (hds : (d == sysModules) = false) (hm : s.heap.DictRaw d es ep) (S : Addr) (hSd : d ≠ S) (res : Value) (c₀ : Nat) (hS : s.heap.get? S = some { cls := .type "list", data := .seq #[] c₀ })
    (hR : ∀ h' acc c, (∀ b o, b ≠ S → s.heap.get? b = some o → h'.get? b = some o) → h'.get? S = some { cls := .type "list", dict := none, data := .seq acc c, slots := #[] } →
      acc.toList = es.toList.map (·.key) → R (.ok (.ret res)) { s with heap := h' }) (hn : es.size ≤ sizeLine) :
    wpAny (model prog w) A.in1 (Builtin.List.listExtendWith (.ref S) (.ref d) res)
      (fun fin s' => match fin with | .done f => R (.ok f) s' | .again c' => c'.quiet = true ∧ codeAny (model prog w) A c' R s') (fun e s' => R (.error e) s') s := by
  have hSI : S < s.heap.objs.size := Heap.lt_size hS
  have hdI : d < s.heap.objs.size := raw_lt hm
  have key : ∀ (h : Heap) (c₁ : Nat), (∀ b o, b ≠ S → (s.heap.push { cls := .type "dict_keyiterator", data := .fields #[.ref d, .int 0 0, .int es.size 0, .int ep 0] }).get? b = some o → h.get? b = some o) →
      h.get? S = some { cls := .type "list", data := .seq #[] c₁ } → codeAny (model prog w) A (.builtin "list.extend.loop" ⟨[.ref S, .ref s.heap.objs.size, res], []⟩) R { s with heap := h } := by
    intro h c₁ hk hS₁
    have hI := hk s.heap.objs.size _ (Nat.ne_of_gt hSI) (Heap.get?_push_size _ rfl)
    refine loopK (es := es) (ep := ep) (s := s) (h₁ := s.heap) hh hSI hSd (Nat.ne_of_lt hdI) hn res (fun h' acc c hk' hS' hacc => hR h' acc c (fun b o hb e => hk' b o hb (Nat.ne_of_lt (Heap.lt_size e)) e) hS' hacc)
      es.size 0 h c₁ #[] (Nat.sub_zero _) (Nat.zero_le _) ⟨_, hI, rfl, rfl⟩ (raw_at hm fun o e => hk d o hSd (Heap.get?_push_of_some _ e)) (fun b o hb _ e => hk b o hb (Heap.get?_push_of_some _ e)) hS₁ rfl
  unfold Builtin.List.listExtendWith
  refine wpAny_bind (wpAny_typeOf (T := "dict") hm.typeIs ?_)
  have h1 : Builtin.List.listSameRef (.ref S) (.ref d) = false := by simp [Builtin.List.listSameRef, Ne.symm hSd]
  have h2 : (Value.type "dict" == Value.type "list") = false := by decide
  have h3 : (Value.type "dict" == Value.type "tuple") = false := by decide
  simp only [h1, h2, h3, Bool.or_false, Bool.false_eq_true, if_false]
  refine wpAny_bind (wpAny_pyIter_dict_raw hds hm ?_)
  have hS₁ := Heap.get?_push_of_some { cls := .type "dict_keyiterator", data := .fields #[.ref d, .int 0 0, .int es.size 0, .int ep 0] } hS
  refine wpAny_bind (wpAny_holding (dk_hint (raw_at hm fun o e => Heap.get?_push_of_some _ e).typeIs ?_))
  refine wpAny_ite_split (fun _ => ?_) (fun _ => wpAny_pure ⟨plainId_quiet PySem.F.plain_extend_loop _, key _ c₀ (fun b o _ e => e) hS₁⟩)
  refine wpAny_bind (wpAny_rule ?_)
  refine wpAny_bind ?_
  show wpAny _ _ (updateSeq S (·.push .none) >>= fun _ => updateSeq S (·.pop)) _ _ _
  refine wpAny_bind (wpAny_updateSeq hS₁ rfl ?_)
  have hS₂ := Heap.get?_update_self (Obj.mapSeq (·.push Value.none)) hS₁ rfl
  refine wpAny_updateSeq (hz := by seq_fits) hS₂ rfl ?_
  have hS₃ := Heap.get?_update_self (Obj.mapSeq (·.pop)) hS₂ rfl
  refine wpAny_pure ⟨plainId_quiet PySem.F.plain_extend_loop _, key _ _ (fun b o hb e => ?_) hS₃⟩
  exact (Heap.get?_update_other _ _ (Ne.symm hb)).trans ((Heap.get?_update_other _ _ (Ne.symm hb)).trans e)
theorem collectK {R : List Value → Shared → Prop} (hh : A.handled = none) (hds : (d == sysModules) = false) (hm : s.heap.DictRaw d es ep) (hn : es.size ≤ sizeLine)
    (h : ∀ h' : Heap, (∀ b o, s.heap.get? b = some o → h'.get? b = some o) → s.heap.objs.size < h'.objs.size → R (es.toList.map (·.key)) { s with heap := h' }) :
    wpAny (model prog w) A (collect (.ref d)) R E s := by
  have hd : d < s.heap.objs.size := raw_lt hm
  unfold collect
  refine wpAny_bind (wpAny_runValue (codeAny_builtin entry_proto_collect' ?_))
  rw [Around.under_plainId PySem.F.plain_proto_collect _]
  show wpAny _ A.in1 (newList [] >>= fun l => again (.builtin "list.__iadd__" ⟨[l, .ref d], []⟩)) _ _ s
  refine wpAny_bind (wpAny_newObj_type ?_)
  refine wpAny_pure ⟨plainId_quiet PySem.F.plain_list_iadd _, codeAny_builtin entry_list_iadd' ?_⟩
  rw [Around.under_plainId PySem.F.plain_list_iadd _]
  have hS₁ : (s.heap.push { cls := .type "list", data := .seq ([] : List Value).toArray }).get? s.heap.objs.size = some { cls := .type "list", data := .seq #[] } := Heap.get?_push_size _ rfl
  show wpAny _ A.in1 (Builtin.List.listExtendWith (.ref s.heap.objs.size) (.ref d) (.ref s.heap.objs.size)) _ _ _
  have key := extK (prog := prog) (w := w) (A := A) (s := { s with heap := s.heap.push { cls := .type "list", data := .seq ([] : List Value).toArray } }) (es := es) (ep := ep)
    (R := fun (q : Result) (s' : Shared) => ∃ (h' : Heap) (acc' : Array Value) (c' : Nat), q = .ok (.ret (.ref s.heap.objs.size)) ∧ s' = { s with heap := h' } ∧
      (∀ b o, s.heap.get? b = some o → h'.get? b = some o) ∧ h'.get? s.heap.objs.size = some { cls := .type "list", dict := none, data := .seq acc' c', slots := #[] } ∧ acc'.toList = es.toList.map (·.key))
    hh hds (raw_at hm fun o e => Heap.get?_push_of_some _ e) s.heap.objs.size (Nat.ne_of_lt hd) (.ref s.heap.objs.size) 0 hS₁
    (fun h' acc' c' hk hS' hacc => ⟨h', acc', c', rfl, rfl, fun b o e => hk b o (Nat.ne_of_lt (Heap.lt_size e)) (Heap.get?_push_of_some _ e), hS', hacc⟩) hn
  refine wpAny_mono key (fun fin s' x => ?_) fun e s' x => ?_
  · cases fin with
    | done f =>
      obtain ⟨h', acc', c', e, rfl, hk, hS', hacc⟩ := x
      cases e
      show wpAny _ A (load s.heap.objs.size >>= _) _ _ _
      refine wpAny_bind (wpAny_load hS' ?_)
      refine wpAny_pure ?_
      show R acc'.toList _
      rw [hacc]
      exact h h' hk (Heap.lt_size hS')
    | again c₁ =>
      refine ⟨x.1, codeAny_mono x.2 fun q s₂ y => ?_⟩
      obtain ⟨h', acc', c', rfl, rfl, hk, hS', hacc⟩ := y
      show wpAny _ A (load s.heap.objs.size >>= _) _ _ _
      refine wpAny_bind (wpAny_load hS' ?_)
      refine wpAny_pure ?_
      show R acc'.toList _
      rw [hacc]
      exact h h' hk (Heap.lt_size hS')
  · obtain ⟨_, _, _, e', _⟩ := x
    cases e'
end
end My
namespace My
open PySem PySem.Spec PyProof.Rows L2
theorem ints_keys {P : Program} {w : World} : ∀ {es : List DictEntry} {xs : List (Key × Value)} {kvs : List (Key × V)} {ns : List Int}, Pairs (mixKind P w) es xs → KV kvs xs → kvs.map (·.1) = ns.map Sum.inl → IntsAre (es.map (·.key)) ns := by
  intro es xs kvs ns hp
  induction hp generalizing kvs ns with
  | nil =>
    intro kv hk
    cases kv
    cases ns with
    | nil => exact .nil
    | cons n ns => cases hk
  | @cons e x es xs h1 h2 _ ih =>
    intro kv hk
    cases kv with
    | @cons a _ l _ hh ht =>
      cases ns with
      | nil => cases hk
      | cons n ns =>
        rw [List.map_cons, List.map_cons] at hk
        have hk1 := (List.cons.inj hk).1
        have hk2 := (List.cons.inj hk).2
        rw [List.map_cons]
        have h1' : keyIs x.1 e.key = true := h1
        rw [← hh.1, hk1] at h1'
        rcases keyIs_shape h1' with ⟨i, t, e1, e2⟩ | ⟨y, t, e1, _⟩
        · rw [e2, Sum.inl.inj e1]
          exact .cons i t (ih ht hk2)
        · cases e1
section
variable {prog : Program} {w : World} {A : Around} {E : Value → Shared → Prop} {s : Shared} {d : Addr} {es : Array DictEntry} {ep : Nat}
theorem sortedK {Q : Value → Shared → Prop} {ns : List Int} (hh : A.handled = none) (hds : (d == sysModules) = false) (hm : s.heap.DictRaw d es ep) (hn : es.size ≤ sizeLine) (hI : IntsAre (es.toList.map (·.key)) ns)
    (h : ∀ (h' : Heap) (p : Addr) (out : List Value) (n : Nat), s.heap.objs.size ≤ p → (∀ b o, s.heap.get? b = some o → h'.get? b = some o) → h'.get? p = some (seqObj "list" out.toArray n) → SrtO.Srtd SrtO.ltIv out → SrtO.Stb SrtO.ltIv out (es.toList.map (·.key)) → Q (.ref p) { s with heap := h' }) :
    wpAny (model prog w) A (call (.builtin "sorted") [.ref d]) Q E s := by
  refine Calls.call_function_entry kind_sorted plain_sorted entry_sorted (args_sorted1 _) ?_
  unfold Builtin.«sorted»
  refine wpAny_bind (m := checkCount "sorted" 1 1 _) (wpAny_pure ?_)
  refine wpAny_bind (collectK (A := A.in1) (es := es) (ep := ep) hh hds hm hn fun h1 hk hlt => ?_)
  have hz : (es.toList.map (·.key)).length ≤ sizeLine := by rw [List.length_map, Array.length_toList]; exact hn
  refine wpAny_bind (wpAny_newList ?_ hz)
  have hoL : (h1.push { cls := .type "list", data := .seq (es.toList.map (·.key)).toArray }).get? h1.objs.size = some (seqObj "list" (es.toList.map (·.key)).toArray 0) := Heap.get?_push_size _ rfl
  have hle : s.heap.objs.size ≤ h1.objs.size := Nat.le_of_lt hlt
  refine wpAny_bind (wpAny_holding (wpAny_call_entry PyProof.Rows.slot_list_sort ⟨_, hoL, rfl⟩ PyProof.Rows.entry_list_sort (SrtO.list_sort_ord SrtO.swo_int hoL hz (fun h2 => SrtO.ints_sortable hI h2) fun out hs hb => ⟨_, rfl, ?_⟩) (PyProof.Rows.args_list_sort _)))
  obtain ⟨n, he⟩ := PyProof.Rows.sortedHeap_at (vs := es.toList.map (·.key)) (out := out.toArray) hoL
  refine wpAny_pure ⟨_, rfl, h _ h1.objs.size out n hle (fun b o hb => ?_) he hs hb⟩
  have hb1 := hk b o hb
  rw [PyProof.Rows.sortedHeap_old (Nat.ne_of_lt (Heap.lt_size hb1)) (by rw [Heap.size_push]; exact Nat.lt_succ_of_lt (Heap.lt_size hb1))]
  exact Heap.get?_push_of_some _ hb1
end
/-- sorted(d), a dict with int keys -/
def rSortedDI : List V → Hp → VK → Prop := fun vs H Q => ∃ (a : Addr) (kvs : List (Key × V)) (ns : List Int), vs = [V.ref a] ∧ H a = some (.dK kvs) ∧ kvs.map (·.1) = ns.map Sum.inl ∧
  ∀ (ns' : List Int) (p : Addr), ns'.Perm ns → ns'.Pairwise (· ≤ ·) → H p = none → Q (.ref p) (upd H p (.lst (ns'.map V.int)))
theorem cr_sortedDI {X : Cx} (hc : X.calm = true) : CallR X (.builtin "sorted") rSortedDI := by
  intro pins s σ H vs us Q I r h
  obtain ⟨a, kvs, ns, rfl, ha, hk, q⟩ := h
  obtain ⟨hz, hds, xs, kv, o, es, ep, ho, hx, hdat, _, hp, _⟩ := dk_of I.hok ha
  rw [Vals.ref1 r]
  have hI := ints_keys hp kv hk
  have l1 : kvs.length = ns.length := by
    have := congrArg List.length hk
    rw [List.length_map, List.length_map] at this
    exact this
  have hln : ∀ {vs : List Value} {ns : List Int}, IntsAre vs ns → vs.length = ns.length := fun h => by
    induction h with
    | nil => rfl
    | cons _ _ _ ih => rw [List.length_cons, List.length_cons, ih]
  have l2 := hln hI
  rw [List.length_map, Array.length_toList] at l2
  refine sortedK (ns := ns) (I.ok.hd hc) hds ⟨o, ho, hx, hdat⟩ (by omega) hI fun h' p out n hle hkp he h1 h2 => ?_
  obtain ⟨k1, k2, k3⟩ := SrtO.ints_out hI h1 h2
  have hlen : ((out.map SrtO.iv).map V.int).length ≤ sizeLine := by
    rw [List.length_map, k2.length_eq]
    omega
  exact ⟨.ref _, upd H p (.lst ((out.map SrtO.iv).map V.int)), I.laid (t' := s.toks) hkp hle ⟨hlen, out, n, vals_of_ints k1, he⟩, rfl, q _ _ k2 k3 (I.hok.fresh hle)⟩
end My
namespace My
open PySem PySem.Spec PyProof.Rows L2
/-! ### which places come first, last, behind one another -/
structure Gl where
  nul : Bool
  fst : List Nat
  lst : List Nat
  fol : List (Nat × Nat)
def prodL (xs ys : List Nat) : List (Nat × Nat) := (xs.map fun i => ys.map fun j => (i, j)).flatten
theorem mem_prodL {xs ys : List Nat} {i j : Nat} : (i, j) ∈ prodL xs ys ↔ i ∈ xs ∧ j ∈ ys := by
  unfold prodL
  rw [List.mem_flatten]
  constructor
  · rintro ⟨l, hl, h⟩
    obtain ⟨a, ha, rfl⟩ := List.mem_map.mp hl
    obtain ⟨b, hb, e⟩ := List.mem_map.mp h
    cases e
    exact ⟨ha, hb⟩
  · rintro ⟨h1, h2⟩
    exact ⟨_, List.mem_map.mpr ⟨i, h1, rfl⟩, List.mem_map.mpr ⟨j, h2, rfl⟩⟩
def Gl.one : Gl := ⟨true, [], [], []⟩
def Gl.non : Gl := ⟨false, [], [], []⟩
def Gl.seq (a b : Gl) : Gl := ⟨a.nul && b.nul, a.fst ++ (if a.nul then b.fst else []), (if b.nul then a.lst else []) ++ b.lst, a.fol ++ (prodL a.lst b.fst ++ b.fol)⟩
def Gl.par (a b : Gl) : Gl := ⟨a.nul || b.nul, a.fst ++ b.fst, a.lst ++ b.lst, a.fol ++ b.fol⟩
def gl : E → Nat → Gl
  | .eps, _ => .one
  | .sym _, o => ⟨false, [o], [o], []⟩
  | .maybe e, o => ⟨true, (gl e o).fst, (gl e o).lst, (gl e o).fol⟩
  | .many e, o => ⟨true, (gl e o).fst, (gl e o).lst, (gl e o).fol ++ prodL (gl e o).lst (gl e o).fst⟩
  | .join es, o => glJ es o
  | .alt es, o => glA es o
where
  glJ : List E → Nat → Gl
    | [], _ => .one
    | e :: es, o => (gl e o).seq (glJ es (o + e.places))
  glA : List E → Nat → Gl
    | [], _ => .non
    | e :: es, o => (gl e o).par (glA es (o + e.places))
/-- the same but for the sequence of the pairs -/
structure Eqv (a b : Gl) : Prop where
  nul : a.nul = b.nul
  fst : a.fst = b.fst
  lst : a.lst = b.lst
  fol : ∀ x, x ∈ a.fol ↔ x ∈ b.fol
theorem Eqv.refl (a : Gl) : Eqv a a := ⟨rfl, rfl, rfl, fun _ => Iff.rfl⟩
theorem Eqv.trans {a b c : Gl} (x : Eqv a b) (y : Eqv b c) : Eqv a c := ⟨x.nul.trans y.nul, x.fst.trans y.fst, x.lst.trans y.lst, fun z => (x.fol z).trans (y.fol z)⟩
theorem Eqv.seq {a b c : Gl} (h : Eqv b c) : Eqv (a.seq b) (a.seq c) where
  nul := by unfold Gl.seq; rw [h.nul]
  fst := by unfold Gl.seq; rw [h.fst]
  lst := by unfold Gl.seq; rw [h.lst, h.nul]
  fol x := by
    unfold Gl.seq
    simp only [List.mem_append]
    rw [h.fst, h.fol]
theorem seq_one (a : Gl) : Eqv (a.seq .one) a where
  nul := Bool.and_true _
  fst := by show a.fst ++ (if a.nul = true then [] else []) = _; split <;> simp
  lst := by show (if true = true then a.lst else []) ++ [] = _; simp
  fol x := by
    show x ∈ a.fol ++ (prodL a.lst [] ++ []) ↔ _
    obtain ⟨i, j⟩ := x
    rw [List.mem_append, List.append_nil, mem_prodL]
    simp
theorem one_seq (a : Gl) : Eqv (Gl.one.seq a) a where
  nul := rfl
  fst := rfl
  lst := by show (if a.nul = true then [] else []) ++ a.lst = _; split <;> rfl
  fol x := Iff.rfl
theorem seq_assoc (a b c : Gl) : Eqv ((a.seq b).seq c) (a.seq (b.seq c)) where
  nul := Bool.and_assoc ..
  fst := by
    show (a.fst ++ (if a.nul = true then b.fst else [])) ++ (if (a.nul && b.nul) = true then c.fst else []) = a.fst ++ (if a.nul = true then b.fst ++ (if b.nul = true then c.fst else []) else [])
    cases a.nul <;> cases b.nul <;> simp
  lst := by
    show (if c.nul = true then (if b.nul = true then a.lst else []) ++ b.lst else []) ++ c.lst = (if (b.nul && c.nul) = true then a.lst else []) ++ ((if c.nul = true then b.lst else []) ++ c.lst)
    cases b.nul <;> cases c.nul <;> simp
  fol x := by
    obtain ⟨i, j⟩ := x
    unfold Gl.seq
    simp only [List.mem_append, mem_prodL]
    cases a.nul <;> cases b.nul <;> cases c.nul <;> simp <;> grind
theorem par_assoc (a b c : Gl) : (a.par b).par c = a.par (b.par c) := by
  unfold Gl.par
  simp [Bool.or_assoc, List.append_assoc]
theorem par_non (a : Gl) : a.par .non = a := by
  unfold Gl.par Gl.non
  simp
theorem non_par (a : Gl) : Gl.non.par a = a := by
  unfold Gl.par Gl.non
  simp
theorem sumP_cons (e : E) (es : List E) : ((e :: es).map E.places).sum = e.places + (es.map E.places).sum := by
  rw [List.map_cons, List.sum_cons]
theorem glJ_snoc (es : List E) (e : E) : ∀ o, Eqv (gl.glJ (es ++ [e]) o) ((gl.glJ es o).seq (gl e (o + (es.map E.places).sum))) := by
  induction es with
  | nil =>
    intro o
    show Eqv ((gl e o).seq Gl.one) (Gl.one.seq (gl e (o + 0)))
    rw [Nat.add_zero]
    refine (seq_one _).trans ?_
    have := one_seq (gl e o)
    exact ⟨this.nul.symm, this.fst.symm, this.lst.symm, fun x => (this.fol x).symm⟩
  | cons a es ih =>
    intro o
    show Eqv ((gl a o).seq (gl.glJ (es ++ [e]) (o + a.places))) (((gl a o).seq (gl.glJ es (o + a.places))).seq _)
    refine ((ih (o + a.places)).seq).trans ?_
    have h := seq_assoc (gl a o) (gl.glJ es (o + a.places)) (gl e (o + a.places + (es.map E.places).sum))
    rw [sumP_cons, ← Nat.add_assoc]
    exact ⟨h.nul.symm, h.fst.symm, h.lst.symm, fun x => (h.fol x).symm⟩
theorem glA_snoc (es : List E) (e : E) : ∀ o, gl.glA (es ++ [e]) o = (gl.glA es o).par (gl e (o + (es.map E.places).sum)) := by
  induction es with
  | nil =>
    intro o
    show (gl e o).par Gl.non = Gl.non.par (gl e (o + 0))
    rw [Nat.add_zero, par_non, non_par]
  | cons a es ih =>
    intro o
    show (gl a o).par (gl.glA (es ++ [e]) (o + a.places)) = ((gl a o).par (gl.glA es (o + a.places))).par _
    rw [ih, par_assoc, sumP_cons, ← Nat.add_assoc]
/-- all places that are told lie within the expression's own -/
structure Within (g : Gl) (o n : Nat) : Prop where
  fst : ∀ i ∈ g.fst, o ≤ i ∧ i < o + n
  lst : ∀ i ∈ g.lst, o ≤ i ∧ i < o + n
  fol : ∀ i j, (i, j) ∈ g.fol → (o ≤ i ∧ i < o + n) ∧ o ≤ j ∧ j < o + n
theorem Within.wide {g : Gl} {o n o' n' : Nat} (h : Within g o n) (h1 : o' ≤ o) (h2 : o + n ≤ o' + n') : Within g o' n' where
  fst i hi := by have := h.fst i hi; omega
  lst i hi := by have := h.lst i hi; omega
  fol i j hi := by have := h.fol i j hi; omega
theorem Within.seq {a b : Gl} {o n : Nat} (x : Within a o n) (y : Within b o n) : Within (a.seq b) o n where
  fst i hi := by
    rcases List.mem_append.mp hi with h | h
    · exact x.fst i h
    · split at h
      · exact y.fst i h
      · cases h
  lst i hi := by
    rcases List.mem_append.mp hi with h | h
    · split at h
      · exact x.lst i h
      · cases h
    · exact y.lst i h
  fol i j hi := by
    rcases List.mem_append.mp hi with h | h
    · exact x.fol i j h
    · rcases List.mem_append.mp h with h | h
      · have := mem_prodL.mp h
        exact ⟨x.lst i this.1, y.fst j this.2⟩
      · exact y.fol i j h
theorem Within.par {a b : Gl} {o n : Nat} (x : Within a o n) (y : Within b o n) : Within (a.par b) o n where
  fst i hi := (List.mem_append.mp hi).elim (x.fst i) (y.fst i)
  lst i hi := (List.mem_append.mp hi).elim (x.lst i) (y.lst i)
  fol i j hi := (List.mem_append.mp hi).elim (x.fol i j) (y.fol i j)
mutual
theorem gl_within : ∀ (e : E) (o : Nat), Within (gl e o) o e.places
  | .eps, o => ⟨(fun i h => by cases h), (fun i h => by cases h), (fun i j h => by cases h)⟩
  | .sym c, o => ⟨(fun i h => by rw [gl, List.mem_singleton] at h; rw [E.places]; omega), (fun i h => by rw [gl, List.mem_singleton] at h; rw [E.places]; omega), (fun i j h => by cases h)⟩
  | .maybe e, o => by
    have h := gl_within e o
    rw [gl, E.places]
    exact ⟨h.fst, h.lst, h.fol⟩
  | .many e, o => by
    have h := gl_within e o
    rw [gl, E.places]
    refine ⟨h.fst, h.lst, fun i j hi => ?_⟩
    rcases List.mem_append.mp hi with c | c
    · exact h.fol i j c
    · have := mem_prodL.mp c
      exact ⟨h.lst i this.1, h.fst j this.2⟩
  | .join es, o => by
    rw [gl, E.places]
    exact glJ_within es o
  | .alt es, o => by
    rw [gl, E.places]
    exact glA_within es o
theorem glJ_within : ∀ (es : List E) (o : Nat), Within (gl.glJ es o) o (E.places.placess es)
  | [], o => ⟨(fun i h => by cases h), (fun i h => by cases h), (fun i j h => by cases h)⟩
  | e :: es, o => by
    rw [gl.glJ, E.places.placess]
    exact ((gl_within e o).wide (Nat.le_refl _) (by omega)).seq ((glJ_within es (o + e.places)).wide (by omega) (by omega))
theorem glA_within : ∀ (es : List E) (o : Nat), Within (gl.glA es o) o (E.places.placess es)
  | [], o => ⟨(fun i h => by cases h), (fun i h => by cases h), (fun i j h => by cases h)⟩
  | e :: es, o => by
    rw [gl.glA, E.places.placess]
    exact ((gl_within e o).wide (Nat.le_refl _) (by omega)).par ((glA_within es (o + e.places)).wide (by omega) (by omega))
end
/-! ### the letters of the places -/
def E.letters : E → List Nat
  | .eps => []
  | .sym c => [c]
  | .maybe e => e.letters
  | .many e => e.letters
  | .join es => letterss es
  | .alt es => letterss es
where letterss : List E → List Nat
  | [] => []
  | e :: es => e.letters ++ letterss es
theorem letterss_snoc (es : List E) (e : E) : E.letters.letterss (es ++ [e]) = E.letters.letterss es ++ e.letters := by
  induction es with
  | nil => show e.letters ++ [] = [] ++ e.letters; simp
  | cons a es ih =>
    show a.letters ++ E.letters.letterss (es ++ [e]) = (a.letters ++ E.letters.letterss es) ++ e.letters
    rw [ih, List.append_assoc]
mutual
theorem letters_len : ∀ e : E, e.letters.length = e.places
  | .eps => rfl
  | .sym c => rfl
  | .maybe e => by rw [E.letters, E.places]; exact letters_len e
  | .many e => by rw [E.letters, E.places]; exact letters_len e
  | .join es => by rw [E.letters, E.places]; exact letterss_len es
  | .alt es => by rw [E.letters, E.places]; exact letterss_len es
theorem letterss_len : ∀ es : List E, (E.letters.letterss es).length = E.places.placess es
  | [] => rfl
  | e :: es => by rw [E.letters.letterss, E.places.placess, List.length_append, letters_len e, letterss_len es]
end
structure Short (g : Gl) (n : Nat) : Prop where
  fst : g.fst.length ≤ n
  lst : g.lst.length ≤ n
theorem Short.seq {a b : Gl} {m n : Nat} (x : Short a m) (y : Short b n) : Short (a.seq b) (m + n) where
  fst := by
    show (a.fst ++ (if a.nul = true then b.fst else [])).length ≤ _
    rw [List.length_append]
    have := x.fst
    have := y.fst
    split
    · omega
    · show _ + 0 ≤ _; omega
  lst := by
    show ((if b.nul = true then a.lst else []) ++ b.lst).length ≤ _
    rw [List.length_append]
    have := x.lst
    have := y.lst
    split
    · omega
    · show 0 + _ ≤ _; omega
theorem Short.par {a b : Gl} {m n : Nat} (x : Short a m) (y : Short b n) : Short (a.par b) (m + n) where
  fst := by
    show (a.fst ++ b.fst).length ≤ _
    rw [List.length_append]
    have := x.fst
    have := y.fst
    omega
  lst := by
    show (a.lst ++ b.lst).length ≤ _
    rw [List.length_append]
    have := x.lst
    have := y.lst
    omega
mutual
theorem gl_len : ∀ (e : E) (o : Nat), Short (gl e o) e.places
  | .eps, o => ⟨Nat.zero_le _, Nat.zero_le _⟩
  | .sym c, o => ⟨Nat.le_refl _, Nat.le_refl _⟩
  | .maybe e, o => by
    rw [gl, E.places]
    exact ⟨(gl_len e o).fst, (gl_len e o).lst⟩
  | .many e, o => by
    rw [gl, E.places]
    exact ⟨(gl_len e o).fst, (gl_len e o).lst⟩
  | .join es, o => by
    rw [gl, E.places]
    exact glJ_len es o
  | .alt es, o => by
    rw [gl, E.places]
    exact glA_len es o
theorem glJ_len : ∀ (es : List E) (o : Nat), Short (gl.glJ es o) (E.places.placess es)
  | [], o => ⟨Nat.zero_le _, Nat.zero_le _⟩
  | e :: es, o => by
    rw [gl.glJ, E.places.placess]
    exact (gl_len e o).seq (glJ_len es (o + e.places))
theorem glA_len : ∀ (es : List E) (o : Nat), Short (gl.glA es o) (E.places.placess es)
  | [], o => ⟨Nat.zero_le _, Nat.zero_le _⟩
  | e :: es, o => by
    rw [gl.glA, E.places.placess]
    exact (gl_len e o).par (glA_len es (o + e.places))
end
end My
namespace My
open PySem PySem.Spec PyProof.Rows L2
/-! ### ways through the places, and words -/
def lastN : Nat → List Nat → Nat
  | x, [] => x
  | _, y :: ys => lastN y ys
def chn (F : List (Nat × Nat)) : Nat → List Nat → Prop
  | _, [] => True
  | x, y :: ys => (x, y) ∈ F ∧ chn F y ys
def Sfx (g : Gl) (x : Nat) (xs : List Nat) : Prop := chn g.fol x xs ∧ lastN x xs ∈ g.lst
def Acc (g : Gl) : List Nat → Prop
  | [] => g.nul = true
  | x :: xs => x ∈ g.fst ∧ Sfx g x xs
/-- any number of words that are not empty, one behind the other -/
inductive Star {α : Type} (L : List α → Prop) : List α → Prop where
  | nil : Star L []
  | cons {u v : List α} (h : L u) (n : u ≠ []) (t : Star L v) : Star L (u ++ v)
theorem Star.mono {α : Type} {L M : List α → Prop} (k : ∀ u, L u → M u) {w : List α} (h : Star L w) : Star M w := by
  induction h with
  | nil => exact .nil
  | cons h n _ ih => exact .cons (k _ h) n ih
def MP : E → Nat → List Nat → Prop
  | .eps, _, ps => ps = []
  | .sym _, o, ps => ps = [o]
  | .maybe e, o, ps => ps = [] ∨ MP e o ps
  | .many e, o, ps => Star (MP e o) ps
  | .join es, o, ps => mpJ es o ps
  | .alt es, o, ps => mpA es o ps
where
  mpJ : List E → Nat → List Nat → Prop
    | [], _, ps => ps = []
    | e :: es, o, ps => ∃ us vs, ps = us ++ vs ∧ MP e o us ∧ mpJ es (o + e.places) vs
  mpA : List E → Nat → List Nat → Prop
    | [], _, _ => False
    | e :: es, o, ps => MP e o ps ∨ mpA es (o + e.places) ps
def MW : E → List Nat → Prop
  | .eps, w => w = []
  | .sym c, w => w = [c]
  | .maybe e, w => w = [] ∨ MW e w
  | .many e, w => Star (MW e) w
  | .join es, w => mwJ es w
  | .alt es, w => mwA es w
where
  mwJ : List E → List Nat → Prop
    | [], w => w = []
    | e :: es, w => ∃ us vs, w = us ++ vs ∧ MW e us ∧ mwJ es vs
  mwA : List E → List Nat → Prop
    | [], _ => False
    | e :: es, w => MW e w ∨ mwA es w
theorem mp_eps (o : Nat) (ps : List Nat) : MP .eps o ps ↔ ps = [] := Iff.rfl
theorem mp_sym (c o : Nat) (ps : List Nat) : MP (.sym c) o ps ↔ ps = [o] := Iff.rfl
/-! #### one behind the other -/
theorem chn_mono {F G : List (Nat × Nat)} (k : ∀ x, x ∈ F → x ∈ G) : ∀ (ys : List Nat) (x : Nat), chn F x ys → chn G x ys
  | [], _, _ => trivial
  | y :: ys, x, h => ⟨k _ h.1, chn_mono k ys y h.2⟩
theorem chn_app {F : List (Nat × Nat)} : ∀ (us : List Nat) (x y : Nat) (vs : List Nat), chn F x us → (lastN x us, y) ∈ F → chn F y vs → chn F x (us ++ y :: vs)
  | [], _, _, _, _, h2, h3 => ⟨h2, h3⟩
  | _ :: us, _, _, _, h1, h2, h3 => ⟨h1.1, chn_app us _ _ _ h1.2 h2 h3⟩
theorem lastN_app : ∀ (us : List Nat) (x y : Nat) (vs : List Nat), lastN x (us ++ y :: vs) = lastN y vs
  | [], _, _, _ => rfl
  | u :: us, _, y, vs => lastN_app us u y vs
theorem lastN_app0 (x : Nat) (us : List Nat) : lastN x (us ++ []) = lastN x us := by rw [List.append_nil]
/-- a way that is within the later part stays there -/
theorem seq_right {a b : Gl} {o n m : Nat} (wa : Within a o n) (wb : Within b (o + n) m) : ∀ (xs : List Nat) (x : Nat), o + n ≤ x → Sfx (a.seq b) x xs → Sfx b x xs
  | [], x, hx, h => by
    refine ⟨trivial, ?_⟩
    have h2 : x ∈ (if b.nul = true then a.lst else []) ++ b.lst := h.2
    rcases List.mem_append.mp h2 with h2 | h2
    · split at h2
      · have := wa.lst x h2; omega
      · cases h2
    · exact h2
  | y :: ys, x, hx, h => by
    obtain ⟨⟨h1, h2⟩, h3⟩ := h
    have h1' : (x, y) ∈ a.fol ++ (prodL a.lst b.fst ++ b.fol) := h1
    rcases List.mem_append.mp h1' with c | c
    · have := (wa.fol x y c).1; omega
    · rcases List.mem_append.mp c with c | c
      · have := wa.lst x (mem_prodL.mp c).1; omega
      · have hy := (wb.fol x y c).2
        have r := seq_right wa wb ys y hy.1 ⟨h2, h3⟩
        exact ⟨⟨c, r.1⟩, r.2⟩
theorem seq_left {a b : Gl} {o n m : Nat} (wa : Within a o n) (wb : Within b (o + n) m) : ∀ (xs : List Nat) (x : Nat), x < o + n → Sfx (a.seq b) x xs → ∃ us vs, xs = us ++ vs ∧ Sfx a x us ∧ Acc b vs
  | [], x, hx, h => by
    have h2 : x ∈ (if b.nul = true then a.lst else []) ++ b.lst := h.2
    rcases List.mem_append.mp h2 with h2 | h2
    · split at h2
      · rename_i c
        exact ⟨[], [], rfl, ⟨trivial, h2⟩, c⟩
      · cases h2
    · have := wb.lst x h2; omega
  | y :: ys, x, hx, h => by
    obtain ⟨⟨h1, h2⟩, h3⟩ := h
    have h1' : (x, y) ∈ a.fol ++ (prodL a.lst b.fst ++ b.fol) := h1
    rcases List.mem_append.mp h1' with c | c
    · have hy := (wa.fol x y c).2
      obtain ⟨us, vs, e, r1, r2⟩ := seq_left wa wb ys y hy.2 ⟨h2, h3⟩
      subst e
      exact ⟨y :: us, vs, rfl, ⟨⟨c, r1.1⟩, r1.2⟩, r2⟩
    · rcases List.mem_append.mp c with c | c
      · obtain ⟨c1, c2⟩ := mem_prodL.mp c
        exact ⟨[], y :: ys, rfl, ⟨trivial, c1⟩, c2, seq_right wa wb ys y (wb.fst y c2).1 ⟨h2, h3⟩⟩
      · have := (wb.fol x y c).1; omega
theorem acc_seq {a b : Gl} {o n m : Nat} (wa : Within a o n) (wb : Within b (o + n) m) (ps : List Nat) : Acc (a.seq b) ps ↔ ∃ us vs, ps = us ++ vs ∧ Acc a us ∧ Acc b vs := by
  constructor
  · intro h
    cases ps with
    | nil =>
      have h' : (a.nul && b.nul) = true := h
      rw [Bool.and_eq_true] at h'
      exact ⟨[], [], rfl, h'.1, h'.2⟩
    | cons x xs =>
      obtain ⟨h1, h2⟩ := h
      have h1' : x ∈ a.fst ++ (if a.nul = true then b.fst else []) := h1
      rcases List.mem_append.mp h1' with c | c
      · obtain ⟨us, vs, e, r1, r2⟩ := seq_left wa wb xs x (wa.fst x c).2 h2
        subst e
        exact ⟨x :: us, vs, rfl, ⟨c, r1⟩, r2⟩
      · split at c
        · rename_i hn
          exact ⟨[], x :: xs, rfl, hn, c, seq_right wa wb xs x (wb.fst x c).1 h2⟩
        · cases c
  · rintro ⟨us, vs, rfl, h1, h2⟩
    cases us with
    | nil =>
      have h1' : a.nul = true := h1
      cases vs with
      | nil =>
        have h2' : b.nul = true := h2
        show (a.nul && b.nul) = true
        rw [h1', h2']
        rfl
      | cons y ys =>
        refine ⟨?_, chn_mono (fun x hx => List.mem_append_right _ (List.mem_append_right _ hx)) ys y h2.2.1, List.mem_append_right _ h2.2.2⟩
        show y ∈ a.fst ++ (if a.nul = true then b.fst else [])
        rw [if_pos h1']
        exact List.mem_append_right _ h2.1
    | cons x xs =>
      have ca := chn_mono (G := (a.seq b).fol) (fun z hz => List.mem_append_left _ hz) xs x h1.2.1
      cases vs with
      | nil =>
        have h2' : b.nul = true := h2
        rw [List.append_nil]
        refine ⟨List.mem_append_left _ h1.1, ca, ?_⟩
        show _ ∈ (if b.nul = true then a.lst else []) ++ b.lst
        rw [if_pos h2']
        exact List.mem_append_left _ h1.2.2
      | cons y ys =>
        refine ⟨List.mem_append_left _ h1.1, chn_app xs x y ys ca ?_ (chn_mono (fun z hz => List.mem_append_right _ (List.mem_append_right _ hz)) ys y h2.2.1), ?_⟩
        · exact List.mem_append_right _ (List.mem_append_left _ (mem_prodL.mpr ⟨h1.2.2, h2.1⟩))
        · show lastN x (xs ++ y :: ys) ∈ _
          rw [lastN_app]
          exact List.mem_append_right _ h2.2.2
/-! #### one or the other -/
theorem par_left {a b : Gl} {o n m : Nat} (wa : Within a o n) (wb : Within b (o + n) m) : ∀ (xs : List Nat) (x : Nat), x < o + n → Sfx (a.par b) x xs → Sfx a x xs
  | [], x, hx, h => by
    refine ⟨trivial, ?_⟩
    have h2 : x ∈ a.lst ++ b.lst := h.2
    rcases List.mem_append.mp h2 with h2 | h2
    · exact h2
    · have := wb.lst x h2; omega
  | y :: ys, x, hx, h => by
    obtain ⟨⟨h1, h2⟩, h3⟩ := h
    have h1' : (x, y) ∈ a.fol ++ b.fol := h1
    rcases List.mem_append.mp h1' with c | c
    · have r := par_left wa wb ys y (wa.fol x y c).2.2 ⟨h2, h3⟩
      exact ⟨⟨c, r.1⟩, r.2⟩
    · have := (wb.fol x y c).1; omega
theorem par_right {a b : Gl} {o n m : Nat} (wa : Within a o n) (wb : Within b (o + n) m) : ∀ (xs : List Nat) (x : Nat), o + n ≤ x → Sfx (a.par b) x xs → Sfx b x xs
  | [], x, hx, h => by
    refine ⟨trivial, ?_⟩
    have h2 : x ∈ a.lst ++ b.lst := h.2
    rcases List.mem_append.mp h2 with h2 | h2
    · have := wa.lst x h2; omega
    · exact h2
  | y :: ys, x, hx, h => by
    obtain ⟨⟨h1, h2⟩, h3⟩ := h
    have h1' : (x, y) ∈ a.fol ++ b.fol := h1
    rcases List.mem_append.mp h1' with c | c
    · have := (wa.fol x y c).1; omega
    · have r := par_right wa wb ys y (wb.fol x y c).2.1 ⟨h2, h3⟩
      exact ⟨⟨c, r.1⟩, r.2⟩
theorem acc_par {a b : Gl} {o n m : Nat} (wa : Within a o n) (wb : Within b (o + n) m) (ps : List Nat) : Acc (a.par b) ps ↔ Acc a ps ∨ Acc b ps := by
  cases ps with
  | nil =>
    show (a.nul || b.nul) = true ↔ _
    rw [Bool.or_eq_true]
    exact Iff.rfl
  | cons x xs =>
    constructor
    · rintro ⟨h1, h2⟩
      have h1' : x ∈ a.fst ++ b.fst := h1
      rcases List.mem_append.mp h1' with c | c
      · exact .inl ⟨c, par_left wa wb xs x (wa.fst x c).2 h2⟩
      · exact .inr ⟨c, par_right wa wb xs x (wb.fst x c).1 h2⟩
    · rintro (⟨h1, h2, h3⟩ | ⟨h1, h2, h3⟩)
      · exact ⟨List.mem_append_left _ h1, chn_mono (fun z hz => List.mem_append_left _ hz) xs x h2, List.mem_append_left _ h3⟩
      · exact ⟨List.mem_append_right _ h1, chn_mono (fun z hz => List.mem_append_right _ hz) xs x h2, List.mem_append_right _ h3⟩
/-! #### again and again -/
def Gl.rep (a : Gl) : Gl := ⟨true, a.fst, a.lst, a.fol ++ prodL a.lst a.fst⟩
theorem rep_sfx {a : Gl} : ∀ (xs : List Nat) (x : Nat), Sfx a.rep x xs → ∃ us vs, xs = us ++ vs ∧ Sfx a x us ∧ Star (Acc a) vs
  | [], x, h => ⟨[], [], rfl, ⟨trivial, h.2⟩, .nil⟩
  | y :: ys, x, h => by
    obtain ⟨⟨h1, h2⟩, h3⟩ := h
    obtain ⟨us, vs, e, r1, r2⟩ := rep_sfx ys y ⟨h2, h3⟩
    subst e
    have h1' : (x, y) ∈ a.fol ++ prodL a.lst a.fst := h1
    rcases List.mem_append.mp h1' with c | c
    · exact ⟨y :: us, vs, rfl, ⟨⟨c, r1.1⟩, r1.2⟩, r2⟩
    · obtain ⟨c1, c2⟩ := mem_prodL.mp c
      refine ⟨[], y :: (us ++ vs), rfl, ⟨trivial, c1⟩, ?_⟩
      have : Star (Acc a) ((y :: us) ++ vs) := .cons (u := y :: us) ⟨c2, r1⟩ (by simp) r2
      exact this
theorem rep_star {a : Gl} {ps : List Nat} (h : Star (Acc a) ps) : Acc a.rep ps := by
  induction h with
  | nil => rfl
  | @cons u v hu hn _ ih =>
    cases u with
    | nil => exact absurd rfl hn
    | cons x xs =>
      have ca := chn_mono (G := a.rep.fol) (fun z hz => List.mem_append_left _ hz) xs x hu.2.1
      cases v with
      | nil =>
        rw [List.append_nil]
        exact ⟨hu.1, ca, hu.2.2⟩
      | cons y ys =>
        refine ⟨hu.1, chn_app xs x y ys ca (List.mem_append_right _ (mem_prodL.mpr ⟨hu.2.2, ih.1⟩)) ih.2.1, ?_⟩
        show lastN x (xs ++ y :: ys) ∈ _
        rw [lastN_app]
        exact ih.2.2
theorem acc_rep (a : Gl) (ps : List Nat) : Acc a.rep ps ↔ Star (Acc a) ps := by
  refine ⟨fun h => ?_, rep_star⟩
  cases ps with
  | nil => exact .nil
  | cons x xs =>
    obtain ⟨us, vs, e, r1, r2⟩ := rep_sfx xs x h.2
    subst e
    exact .cons (u := x :: us) ⟨h.1, r1⟩ (by simp) r2
mutual
theorem acc_mp : ∀ (e : E) (o : Nat) (ps : List Nat), Acc (gl e o) ps ↔ MP e o ps
  | .eps, o, ps => by
    rw [gl, MP]
    cases ps with
    | nil => exact ⟨fun _ => rfl, fun _ => rfl⟩
    | cons x xs => exact ⟨fun h => (by cases h.1), fun h => by cases h⟩
  | .sym c, o, ps => by
    rw [gl, MP]
    cases ps with
    | nil => exact ⟨fun h => (by cases h), fun h => by cases h⟩
    | cons x xs =>
      constructor
      · rintro ⟨h1, h2, h3⟩
        have h1' := List.mem_singleton.mp h1
        subst h1'
        cases xs with
        | nil => rfl
        | cons y ys => exact absurd h2.1 (by intro c; cases c)
      · intro h
        cases h
        exact ⟨List.mem_singleton.mpr rfl, trivial, List.mem_singleton.mpr rfl⟩
  | .maybe e, o, ps => by
    have ih := acc_mp e o ps
    rw [gl, MP, ← ih]
    cases ps with
    | nil => exact ⟨fun _ => .inl rfl, fun _ => rfl⟩
    | cons x xs => exact ⟨fun h => .inr h, fun h => h.elim (fun c => by cases c) id⟩
  | .many e, o, ps => by
    have ih := acc_mp e o
    have e1 : Star (MP e o) ps ↔ Star (Acc (gl e o)) ps := ⟨Star.mono fun u h => (ih u).mpr h, Star.mono fun u h => (ih u).mp h⟩
    rw [MP, e1, ← acc_rep]
    exact Iff.rfl
  | .join es, o, ps => by
    rw [gl, MP]
    exact acc_mpJ es o ps
  | .alt es, o, ps => by
    rw [gl, MP]
    exact acc_mpA es o ps
theorem acc_mpJ : ∀ (es : List E) (o : Nat) (ps : List Nat), Acc (gl.glJ es o) ps ↔ MP.mpJ es o ps
  | [], o, ps => by
    rw [MP.mpJ]
    cases ps with
    | nil => exact ⟨fun _ => rfl, fun _ => rfl⟩
    | cons x xs => exact ⟨fun h => (by cases h.1), fun h => by cases h⟩
  | e :: es, o, ps => by
    rw [gl.glJ, MP.mpJ, acc_seq (gl_within e o) (glJ_within es (o + e.places))]
    exact exists_congr fun us => exists_congr fun vs => and_congr Iff.rfl (and_congr (acc_mp e o us) (acc_mpJ es _ vs))
theorem acc_mpA : ∀ (es : List E) (o : Nat) (ps : List Nat), Acc (gl.glA es o) ps ↔ MP.mpA es o ps
  | [], o, ps => by
    rw [MP.mpA]
    cases ps with
    | nil => exact ⟨fun h => (by cases h), fun h => h.elim⟩
    | cons x xs => exact ⟨fun h => (by cases h.1), fun h => h.elim⟩
  | e :: es, o, ps => by
    rw [gl.glA, MP.mpA, acc_par (gl_within e o) (glA_within es (o + e.places))]
    exact or_congr (acc_mp e o ps) (acc_mpA es _ ps)
end
/-! #### from places to letters -/
theorem map_split {α β : Type} {f : α → β} : ∀ {ps : List α} {u v : List β}, ps.map f = u ++ v → ∃ p1 p2, ps = p1 ++ p2 ∧ p1.map f = u ∧ p2.map f = v := by
  intro ps u v h
  exact ⟨ps.take u.length, ps.drop u.length, (List.take_append_drop ..).symm, by rw [List.map_take, h]; simp, by rw [List.map_drop, h]; simp⟩
theorem some_inj {u v : List Nat} (h : u.map some = v.map some) : u = v := by
  have := congrArg (List.map fun (o : Option Nat) => o.getD 0) h
  rw [List.map_map, List.map_map] at this
  have e : ((fun (o : Option Nat) => o.getD 0) ∘ some) = id := rfl
  rw [e, List.map_id, List.map_id] at this
  exact this
mutual
theorem mw_mp : ∀ (e : E) (o : Nat) (f : Nat → Option Nat), (∀ i, i < e.places → f (o + i) = e.letters[i]?) → ∀ w, MW e w ↔ ∃ ps, MP e o ps ∧ ps.map f = w.map some
  | .eps, o, f, hf, w => by
    rw [MW]
    constructor
    · rintro rfl
      exact ⟨[], rfl, rfl⟩
    · rintro ⟨ps, h, e⟩
      have h' : ps = [] := h
      subst h'
      cases w with
      | nil => rfl
      | cons c w => cases e
  | .sym c, o, f, hf, w => by
    have h0 := hf 0 (by rw [E.places]; exact Nat.one_pos)
    rw [Nat.add_zero] at h0
    have h0' : f o = some c := h0
    rw [MW]
    constructor
    · rintro rfl
      exact ⟨[o], rfl, by rw [List.map_singleton, List.map_singleton, h0']⟩
    · rintro ⟨ps, h, e⟩
      have h' : ps = [o] := h
      subst h'
      rw [List.map_singleton, h0'] at e
      exact (some_inj (u := [c]) e).symm
  | .maybe e, o, f, hf, w => by
    have ih := mw_mp e o f hf w
    rw [MW, ih]
    constructor
    · rintro (rfl | ⟨ps, h, e⟩)
      · exact ⟨[], .inl rfl, rfl⟩
      · exact ⟨ps, .inr h, e⟩
    · rintro ⟨ps, h | h, e⟩
      · subst h
        cases w with
        | nil => exact .inl rfl
        | cons c w => cases e
      · exact .inr ⟨ps, h, e⟩
  | .many e, o, f, hf, w => by
    have ih := mw_mp e o f hf
    rw [MW]
    constructor
    · intro h
      induction h with
      | nil => exact ⟨[], .nil, rfl⟩
      | cons h n _ ihv =>
        obtain ⟨p1, h1, e1⟩ := (ih _).mp h
        obtain ⟨p2, h2, e2⟩ := ihv
        refine ⟨p1 ++ p2, .cons h1 (fun c => n ?_) h2, by rw [List.map_append, List.map_append, e1, e2]⟩
        subst c
        exact some_inj e1.symm
    · rintro ⟨ps, h, e⟩
      have h' : Star (MP _ o) ps := h
      clear h
      induction h' generalizing w with
      | nil =>
        cases w with
        | nil => exact .nil
        | cons c w => cases e
      | @cons u v hu hn _ ihv =>
        rw [List.map_append] at e
        obtain ⟨w1, w2, rfl, e1, e2⟩ := map_split e.symm
        refine .cons ((ih _).mpr ⟨u, hu, e1.symm⟩) (fun c => hn ?_) (ihv w2 e2.symm)
        subst c
        cases u with
        | nil => rfl
        | cons x u => cases e1
  | .join es, o, f, hf, w => by
    rw [MW]
    exact mw_mpJ es o f hf w
  | .alt es, o, f, hf, w => by
    rw [MW]
    exact mw_mpA es o f hf w
theorem mw_mpJ : ∀ (es : List E) (o : Nat) (f : Nat → Option Nat), (∀ i, i < E.places.placess es → f (o + i) = (E.letters.letterss es)[i]?) → ∀ w, MW.mwJ es w ↔ ∃ ps, MP.mpJ es o ps ∧ ps.map f = w.map some
  | [], o, f, hf, w => by
    rw [MW.mwJ]
    constructor
    · rintro rfl
      exact ⟨[], rfl, rfl⟩
    · rintro ⟨ps, h, e⟩
      have h' : ps = [] := h
      subst h'
      cases w with
      | nil => rfl
      | cons c w => cases e
  | e :: es, o, f, hf, w => by
    have hl := letters_len e
    have i1 := mw_mp e o f (fun i hi => by
      rw [hf i (by rw [E.places.placess]; omega), E.letters.letterss, List.getElem?_append_left (by omega)])
    have i2 := mw_mpJ es (o + e.places) f (fun i hi => by
      rw [Nat.add_assoc, hf (e.places + i) (by rw [E.places.placess]; omega), E.letters.letterss, List.getElem?_append_right (by omega), hl, Nat.add_sub_cancel_left])
    rw [MW.mwJ]
    constructor
    · rintro ⟨us, vs, rfl, h1, h2⟩
      obtain ⟨p1, g1, e1⟩ := (i1 _).mp h1
      obtain ⟨p2, g2, e2⟩ := (i2 _).mp h2
      exact ⟨p1 ++ p2, ⟨p1, p2, rfl, g1, g2⟩, by rw [List.map_append, List.map_append, e1, e2]⟩
    · rintro ⟨ps, ⟨p1, p2, rfl, g1, g2⟩, ee⟩
      rw [List.map_append] at ee
      obtain ⟨w1, w2, rfl, e1, e2⟩ := map_split ee.symm
      exact ⟨w1, w2, rfl, (i1 _).mpr ⟨p1, g1, e1.symm⟩, (i2 _).mpr ⟨p2, g2, e2.symm⟩⟩
theorem mw_mpA : ∀ (es : List E) (o : Nat) (f : Nat → Option Nat), (∀ i, i < E.places.placess es → f (o + i) = (E.letters.letterss es)[i]?) → ∀ w, MW.mwA es w ↔ ∃ ps, MP.mpA es o ps ∧ ps.map f = w.map some
  | [], o, f, hf, w => by
    rw [MW.mwA]
    exact ⟨fun h => h.elim, fun ⟨_, h, _⟩ => h.elim⟩
  | e :: es, o, f, hf, w => by
    have hl := letters_len e
    have i1 := mw_mp e o f (fun i hi => by
      rw [hf i (by rw [E.places.placess]; omega), E.letters.letterss, List.getElem?_append_left (by omega)]) w
    have i2 := mw_mpA es (o + e.places) f (fun i hi => by
      rw [Nat.add_assoc, hf (e.places + i) (by rw [E.places.placess]; omega), E.letters.letterss, List.getElem?_append_right (by omega), hl, Nat.add_sub_cancel_left]) w
    rw [MW.mwA, i1, i2]
    constructor
    · rintro (⟨ps, h, e⟩ | ⟨ps, h, e⟩)
      · exact ⟨ps, .inl h, e⟩
      · exact ⟨ps, .inr h, e⟩
    · rintro ⟨ps, h | h, e⟩
      · exact .inl ⟨ps, h, e⟩
      · exact .inr ⟨ps, h, e⟩
end
/-- a word is right: some way through the places has its letters -/
theorem mw_acc (e : E) (w : List Nat) : MW e w ↔ ∃ ps, Acc (gl e 0) ps ∧ ps.map (fun p => e.letters[p]?) = w.map some := by
  rw [mw_mp e 0 (fun p => e.letters[p]?) (fun i _ => by rw [Nat.zero_add])]
  exact exists_congr fun ps => and_congr (acc_mp e 0 ps).symm Iff.rfl
end My
namespace My
open PySem PySem.Spec PyProof.Rows L2
def keysD (ms : List Int) : List (Key × V) := ms.map fun x => (Sum.inl x, V.bl true)
theorem putK_keys (ms : List Int) (x : Int) : putK (keysD ms) (Sum.inl x : Key) (V.bl true) = keysD (if x ∈ ms then ms else ms ++ [x]) := by
  unfold putK keysD
  have e1 : ((ms.map fun x => ((Sum.inl x : Key), V.bl true)).any fun kv => decide (kv.1 = Sum.inl x)) = decide (x ∈ ms) := by
    induction ms with
    | nil => simp
    | cons m ms ih =>
      rw [List.map_cons, List.any_cons, ih]
      by_cases c : m = x
      · subst c
        simp
      · have : ¬ ((Sum.inl m : Key) = Sum.inl x) := fun h => c (Sum.inl.inj h)
        rw [decide_eq_false this, Bool.false_or]
        by_cases d : x ∈ ms
        · rw [decide_eq_true d, decide_eq_true (List.mem_cons_of_mem _ d)]
        · rw [decide_eq_false d, decide_eq_false]
          intro h
          rcases List.mem_cons.mp h with h | h
          · exact c h.symm
          · exact d h
  rw [e1]
  by_cases c : x ∈ ms
  · rw [if_pos (decide_eq_true c), if_pos c, List.map_map]
    refine List.map_congr_left fun y _ => ?_
    show (if (Sum.inl y : Key) = Sum.inl x then ((Sum.inl y : Key), V.bl true) else ((Sum.inl y : Key), V.bl true)) = _
    split <;> rfl
  · rw [if_neg (by rw [decide_eq_false c]; exact Bool.false_ne_true), if_neg c, List.map_append]
    rfl
theorem keysD_vals (ms : List Int) : (keysD ms).map (fun kv => kV kv.1) = ms.map V.int := by
  unfold keysD
  rw [List.map_map]
  rfl
theorem keysD_len (ms : List Int) : (keysD ms).length = ms.length := List.length_map _
/-- a new key beside the others, once -/
def addK (ms : List Int) (x : Int) : List Int := if x ∈ ms then ms else ms ++ [x]
theorem mem_addK {ms : List Int} {x y : Int} : y ∈ addK ms x ↔ y ∈ ms ∨ y = x := by
  unfold addK
  split
  · rename_i h
    constructor
    · exact .inl
    · rintro (c | rfl)
      · exact c
      · exact h
  · rw [List.mem_append, List.mem_singleton]
theorem nodup_addK {ms : List Int} {x : Int} (h : ms.Nodup) : (addK ms x).Nodup := by
  unfold addK
  split
  · exact h
  · rename_i c
    rw [List.nodup_append]
    exact ⟨h, by simp, fun a ha b hb e => c (by rw [List.mem_singleton] at hb; rw [← hb, ← e]; exact ha)⟩
theorem len_addK (ms : List Int) (x : Int) : (addK ms x).length ≤ ms.length + 1 := by
  unfold addK
  split
  · omega
  · rw [List.length_append]; exact Nat.le_refl _
theorem nodup_len : ∀ (n : Nat) (l : List Int), l.Nodup → (∀ x ∈ l, 0 ≤ x ∧ x < n) → l.length ≤ n
  | 0, l, _, h => by
    cases l with
    | nil => exact Nat.le_refl _
    | cons x l =>
      have := h x (List.mem_cons_self ..)
      omega
  | n + 1, l, hd, h => by
    by_cases c : (n : Int) ∈ l
    · have h1 := nodup_len n (l.erase (n : Int)) (hd.erase _) fun x hx => by
        have h2 := h x (List.mem_of_mem_erase hx)
        have h3 : x ≠ (n : Int) := fun e => by
          rw [e] at hx
          exact (List.Nodup.not_mem_erase hd) hx
        omega
      have h4 := List.length_erase_of_mem c
      omega
    · have h1 := nodup_len n l hd fun x hx => by
        have h2 := h x hx
        have h3 : x ≠ (n : Int) := fun e => c (e ▸ hx)
        omega
      omega
end My
namespace My
open PySem PySem.Spec PyProof.Rows L2
/-! ### words, listed -/
theorem str_ext {a b : Str} (h : a.cps.toList = b.cps.toList) : a = b := by
  obtain ⟨⟨x⟩⟩ := a
  obtain ⟨⟨y⟩⟩ := b
  have e : x = y := h
  rw [e]
theorem cps_app (a b : Str) : (a ++ b).cps.toList = a.cps.toList ++ b.cps.toList := by
  show (a.cps ++ b.cps).toList = _
  simp
theorem len_app (a b : Str) : (a ++ b).length = a.length + b.length := by
  show (a.cps ++ b.cps).size = _
  rw [Array.size_append]
  rfl
theorem len_cps (z : Str) : z.length = z.cps.toList.length := Array.length_toList.symm
theorem cps_no : sNo.cps.toList = [] := by decide +kernel
theorem no_of_cps {z : Str} (h : z.cps.toList = []) : z = sNo := str_ext (h.trans cps_no.symm)
theorem len_no : sNo.length = 0 := by decide +kernel
/-- at most so many words, snoc by snoc -/
def Pw (L : List Nat → Prop) : Nat → List Nat → Prop
  | 0, w => w = []
  | n + 1, w => Pw L n w ∨ ∃ u v, w = u ++ v ∧ Pw L n u ∧ L v
theorem Pw.up {L : List Nat → Prop} {n : Nat} {w : List Nat} (h : Pw L n w) : ∀ k, Pw L (n + k) w
  | 0 => h
  | k + 1 => .inl (Pw.up h k)
theorem Pw.le {L : List Nat → Prop} {n m : Nat} {w : List Nat} (h : Pw L n w) (l : n ≤ m) : Pw L m w := by
  have := h.up (m - n)
  rw [show n + (m - n) = m by omega] at this
  exact this
theorem Pw.cons {L : List Nat → Prop} {u : List Nat} (hu : L u) : ∀ (n : Nat) (w : List Nat), Pw L n w → Pw L (n + 1) (u ++ w)
  | 0, w, h => by
    have h' : w = [] := h
    subst h'
    exact .inr ⟨[], u, by simp, rfl, hu⟩
  | n + 1, w, h => by
    rcases h with h | ⟨a, b, rfl, h1, h2⟩
    · exact .inl (Pw.cons hu n w h)
    · exact .inr ⟨u ++ a, b, by simp, Pw.cons hu n a h1, h2⟩
theorem star_snoc {L : List Nat → Prop} {u v : List Nat} (h : Star L u) (hv : L v) : Star L (u ++ v) := by
  induction h with
  | nil =>
    by_cases c : v = []
    · subst c
      exact .nil
    · have : Star L (v ++ []) := .cons hv c .nil
      rw [List.append_nil] at this
      exact this
  | cons h n _ ih =>
    rw [List.append_assoc]
    exact .cons h n ih
theorem star_pw {L : List Nat → Prop} {w : List Nat} (h : Star L w) : Pw L w.length w := by
  induction h with
  | nil => rfl
  | @cons u v h n _ ih =>
    have : 0 < u.length := List.length_pos_iff.mpr n
    refine (Pw.cons h _ v ih).le ?_
    rw [List.length_append]
    omega
theorem pw_star {L : List Nat → Prop} : ∀ (n : Nat) (w : List Nat), Pw L n w → Star L w
  | 0, w, h => by
    have h' : w = [] := h
    subst h'
    exact .nil
  | n + 1, w, h => by
    rcases h with h | ⟨a, b, rfl, h1, h2⟩
    · exact pw_star n w h
    · exact star_snoc (pw_star n a h1) h2
theorem star_iff {L : List Nat → Prop} {w : List Nat} {n : Nat} (h : w.length ≤ n) : Star L w ↔ Pw L n w := ⟨fun s => (star_pw s).le h, pw_star n w⟩
theorem mwJ_snoc (e : E) : ∀ (es : List E) (w : List Nat), MW.mwJ (es ++ [e]) w ↔ ∃ u v, w = u ++ v ∧ MW.mwJ es u ∧ MW e v
  | [], w => by
    show (∃ us vs, w = us ++ vs ∧ MW e us ∧ vs = []) ↔ ∃ u v, w = u ++ v ∧ u = [] ∧ MW e v
    constructor
    · rintro ⟨us, vs, rfl, h, rfl⟩
      exact ⟨[], us, by simp, rfl, h⟩
    · rintro ⟨u, v, rfl, rfl, h⟩
      exact ⟨v, [], by simp, h, rfl⟩
  | k :: es, w => by
    show (∃ us vs, w = us ++ vs ∧ MW k us ∧ MW.mwJ (es ++ [e]) vs) ↔ ∃ u v, w = u ++ v ∧ (∃ us vs, u = us ++ vs ∧ MW k us ∧ MW.mwJ es vs) ∧ MW e v
    constructor
    · rintro ⟨us, vs, rfl, h, g⟩
      obtain ⟨x, y, rfl, h1, h2⟩ := (mwJ_snoc e es vs).mp g
      exact ⟨us ++ x, y, by simp, ⟨us, x, rfl, h, h1⟩, h2⟩
    · rintro ⟨u, v, rfl, ⟨us, vs, rfl, h, g⟩, h2⟩
      exact ⟨us, vs ++ v, by simp, h, (mwJ_snoc e es _).mpr ⟨vs, v, rfl, g, h2⟩⟩
theorem mwA_iff : ∀ (es : List E) (w : List Nat), MW.mwA es w ↔ ∃ e ∈ es, MW e w
  | [], w => ⟨fun h => h.elim, fun ⟨_, h, _⟩ => by cases h⟩
  | k :: es, w => by
    show (MW k w ∨ MW.mwA es w) ↔ _
    rw [mwA_iff es w]
    simp
/-! #### the letters of right words -/
mutual
theorem mw_lets : ∀ (e : E), e.ok = true → ∀ w, MW e w → ∀ c ∈ w, c ∈ e.letters ∧ 97 ≤ c ∧ c ≤ 100
  | .eps, _, w, h, c, hc => by
    rw [MW] at h
    subst h
    cases hc
  | .sym d, ho, w, h, c, hc => by
    rw [MW] at h
    subst h
    rw [List.mem_singleton] at hc
    subst hc
    rw [E.ok] at ho
    simp only [Bool.and_eq_true, decide_eq_true_eq] at ho
    exact ⟨List.mem_singleton.mpr rfl, ho⟩
  | .maybe e, ho, w, h, c, hc => by
    rw [MW] at h
    rcases h with rfl | h
    · cases hc
    · exact mw_lets e (by rw [E.ok] at ho; exact ho) w h c hc
  | .many e, ho, w, h, c, hc => by
    rw [MW] at h
    have ih := mw_lets e (by rw [E.ok] at ho; exact ho)
    induction h with
    | nil => cases hc
    | cons h n _ ih2 =>
      rcases List.mem_append.mp hc with hc | hc
      · exact ih _ h c hc
      · exact ih2 hc
  | .join es, ho, w, h, c, hc => by
    rw [MW] at h
    rw [E.ok, oks_eq] at ho
    simp only [Bool.and_eq_true] at ho
    exact mw_letsJ es ho.1.2 w h c hc
  | .alt es, ho, w, h, c, hc => by
    rw [MW] at h
    rw [E.ok, oks_eq] at ho
    simp only [Bool.and_eq_true] at ho
    exact mw_letsA es ho.1.2 w h c hc
theorem mw_letsJ : ∀ (es : List E), es.all E.ok = true → ∀ w, MW.mwJ es w → ∀ c ∈ w, c ∈ E.letters.letterss es ∧ 97 ≤ c ∧ c ≤ 100
  | [], _, w, h, c, hc => by
    rw [MW.mwJ] at h
    subst h
    cases hc
  | e :: es, ho, w, h, c, hc => by
    rw [List.all_cons, Bool.and_eq_true] at ho
    obtain ⟨u, v, rfl, h1, h2⟩ := h
    rw [E.letters.letterss, List.mem_append]
    rcases List.mem_append.mp hc with hc | hc
    · have := mw_lets e ho.1 u h1 c hc
      exact ⟨.inl this.1, this.2⟩
    · have := mw_letsJ es ho.2 v h2 c hc
      exact ⟨.inr this.1, this.2⟩
theorem mw_letsA : ∀ (es : List E), es.all E.ok = true → ∀ w, MW.mwA es w → ∀ c ∈ w, c ∈ E.letters.letterss es ∧ 97 ≤ c ∧ c ≤ 100
  | [], _, w, h, c, hc => h.elim
  | e :: es, ho, w, h, c, hc => by
    rw [List.all_cons, Bool.and_eq_true] at ho
    rw [E.letters.letterss, List.mem_append]
    rcases h with h | h
    · have := mw_lets e ho.1 w h c hc
      exact ⟨.inl this.1, this.2⟩
    · have := mw_letsA es ho.2 w h c hc
      exact ⟨.inr this.1, this.2⟩
end
/-! #### how many words there are -/
def codeW : List Nat → Nat
  | [] => 0
  | c :: w => (c - 96) + 5 * codeW w
theorem codeW_lt : ∀ (w : List Nat), (∀ c ∈ w, 97 ≤ c ∧ c ≤ 100) → codeW w < 5 ^ w.length
  | [], _ => by show 0 < 1; omega
  | c :: w, h => by
    have := codeW_lt w fun x hx => h x (List.mem_cons_of_mem _ hx)
    have := h c (List.mem_cons_self ..)
    show (c - 96) + 5 * codeW w < 5 ^ (w.length + 1)
    rw [Nat.pow_succ]
    omega
theorem codeW_inj : ∀ (u w : List Nat), (∀ c ∈ u, 97 ≤ c ∧ c ≤ 100) → (∀ c ∈ w, 97 ≤ c ∧ c ≤ 100) → codeW u = codeW w → u = w
  | [], [], _, _, _ => rfl
  | [], c :: w, _, h, e => by
    have := h c (List.mem_cons_self ..)
    have e' : 0 = (c - 96) + 5 * codeW w := e
    omega
  | c :: u, [], h, _, e => by
    have := h c (List.mem_cons_self ..)
    have e' : (c - 96) + 5 * codeW u = 0 := e
    omega
  | c :: u, d :: w, h, g, e => by
    have h1 := h c (List.mem_cons_self ..)
    have g1 := g d (List.mem_cons_self ..)
    have e' : (c - 96) + 5 * codeW u = (d - 96) + 5 * codeW w := e
    have e2 : codeW u = codeW w := by omega
    have e3 : c = d := by omega
    rw [e3, codeW_inj u w (fun x hx => h x (List.mem_cons_of_mem _ hx)) (fun x hx => g x (List.mem_cons_of_mem _ hx)) e2]
def LetW (z : Str) : Prop := ∀ c ∈ z.cps.toList, 97 ≤ c ∧ c ≤ 100
theorem words_len {ms : List Str} (nd : ms.Nodup) (hl : ∀ z ∈ ms, z.length ≤ 5) (hc : ∀ z ∈ ms, LetW z) : ms.length ≤ 3125 := by
  have h := nodup_len 3125 (ms.map fun z => ((codeW z.cps.toList : Nat) : Int)) ?_ ?_
  · rw [List.length_map] at h
    exact h
  · refine (List.pairwise_map.mpr (List.Pairwise.imp_of_mem (fun {a b} ha hb hab e => hab ?_) nd))
    have e' : codeW a.cps.toList = codeW b.cps.toList := by exact_mod_cast e
    exact str_ext (codeW_inj _ _ (hc a ha) (hc b hb) e')
  · intro x hx
    obtain ⟨z, hz, rfl⟩ := List.mem_map.mp hx
    have h1 := codeW_lt _ (hc z hz)
    have h2 := hl z hz
    rw [len_cps] at h2
    have h3 : 5 ^ z.cps.toList.length ≤ 5 ^ 5 := Nat.pow_le_pow_right (by decide) h2
    constructor
    · exact Int.ofNat_nonneg _
    · have : codeW z.cps.toList < 3125 := Nat.lt_of_lt_of_le h1 h3
      exact_mod_cast this
/-- the right words of at most so many letters, each once -/
structure WordsOf (L : List Nat → Prop) (most : Nat) (ms : List Str) : Prop where
  nd : ms.Nodup
  mem : ∀ x, x ∈ ms ↔ x.length ≤ most ∧ L x.cps.toList
theorem WordsOf.len {L : List Nat → Prop} {most : Nat} {ms : List Str} (h : WordsOf L most ms) (hm : most ≤ 5) (hL : ∀ w, L w → ∀ c ∈ w, 97 ≤ c ∧ c ≤ 100) : ms.length ≤ 3125 :=
  words_len h.nd (fun z hz => Nat.le_trans ((h.mem z).mp hz).1 hm) fun z hz => hL _ ((h.mem z).mp hz).2
def addA {α : Type} [DecidableEq α] (ms : List α) (x : α) : List α := if x ∈ ms then ms else ms ++ [x]
theorem mem_addA {α : Type} [DecidableEq α] {ms : List α} {x y : α} : y ∈ addA ms x ↔ y ∈ ms ∨ y = x := by
  unfold addA
  split
  · rename_i h
    constructor
    · exact .inl
    · rintro (c | rfl)
      · exact c
      · exact h
  · rw [List.mem_append, List.mem_singleton]
theorem nodup_addA {α : Type} [DecidableEq α] {ms : List α} {x : α} (h : ms.Nodup) : (addA ms x).Nodup := by
  unfold addA
  split
  · exact h
  · rename_i c
    rw [List.nodup_append]
    exact ⟨h, by simp, fun a ha b hb e => c (by rw [List.mem_singleton] at hb; rw [← hb, ← e]; exact ha)⟩
theorem len_addA {α : Type} [DecidableEq α] (ms : List α) (x : α) : (addA ms x).length ≤ ms.length + 1 := by
  unfold addA
  split
  · omega
  · rw [List.length_append]; exact Nat.le_refl _
def keysS (ms : List Str) : List (Key × V) := ms.map fun x => (Sum.inr x, V.bl true)
theorem putK_keysS (ms : List Str) (x : Str) : putK (keysS ms) (Sum.inr x : Key) (V.bl true) = keysS (addA ms x) := by
  unfold putK keysS addA
  have e1 : ((ms.map fun x => ((Sum.inr x : Key), V.bl true)).any fun kv => decide (kv.1 = Sum.inr x)) = decide (x ∈ ms) := by
    induction ms with
    | nil => simp
    | cons m ms ih =>
      rw [List.map_cons, List.any_cons, ih]
      by_cases c : m = x
      · subst c
        simp
      · have : ¬ ((Sum.inr m : Key) = Sum.inr x) := fun h => c (Sum.inr.inj h)
        rw [decide_eq_false this, Bool.false_or]
        by_cases d : x ∈ ms
        · rw [decide_eq_true d, decide_eq_true (List.mem_cons_of_mem _ d)]
        · rw [decide_eq_false d, decide_eq_false]
          intro h
          rcases List.mem_cons.mp h with h | h
          · exact c h.symm
          · exact d h
  rw [e1]
  by_cases c : x ∈ ms
  · rw [if_pos (decide_eq_true c), if_pos c, List.map_map]
    refine List.map_congr_left fun y _ => ?_
    show (if (Sum.inr y : Key) = Sum.inr x then ((Sum.inr y : Key), V.bl true) else ((Sum.inr y : Key), V.bl true)) = _
    split <;> rfl
  · rw [if_neg (by rw [decide_eq_false c]; exact Bool.false_ne_true), if_neg c, List.map_append]
    rfl
theorem keysS_vals (ms : List Str) : (keysS ms).map (fun kv => kV kv.1) = ms.map V.str := by
  unfold keysS
  rw [List.map_map]
  rfl
theorem keysS_len (ms : List Str) : (keysS ms).length = ms.length := List.length_map _
end My
namespace My
open PySem L2
/-! ### values that may be rows: plain data -/
def nV (xs : List Nat) : List V := xs.map fun (i : Nat) => V.int (i : Int)
def intJ : J → Option Int
  | .int i => some i
  | _ => none
def tupJ : J → Option (List J)
  | .tup js => some js
  | _ => none
def isIntJ : J → Bool
  | .int _ => true
  | .bl _ => true
  | _ => false
def isBlJ : J → Bool
  | .bl _ => true
  | _ => false
def isTupJ : J → Bool
  | .tup _ => true
  | _ => false
theorem RepJ.ty {K : PySem.W.Frag} {H : Hp} {v : V} {j : J} {n : Nat} (h : RepJ H v j n) : ∃ t : String, TyX K H v (.type t) ∧ PySem.W.kitOne K (.type t) (.type "int") = some (isIntJ j) ∧ PySem.W.kitOne K (.type t) (.type "bool") = some (isBlJ j) ∧ PySem.W.kitOne K (.type t) (.type "tuple") = some (isTupJ j) := by
  cases h with
  | non => exact ⟨"NoneType", .base .non, kit_ty (r := false) (by decide +kernel), kit_ty (r := false) (by decide +kernel), kit_ty (r := false) (by decide +kernel)⟩
  | bl b => exact ⟨"bool", .base (.bl _), kit_ty (r := true) (by decide +kernel), kit_ty (r := true) (by decide +kernel), kit_ty (r := false) (by decide +kernel)⟩
  | int i => exact ⟨"int", .base (.int _), kit_ty (r := true) (by decide +kernel), kit_ty (r := false) (by decide +kernel), kit_ty (r := false) (by decide +kernel)⟩
  | str z => exact ⟨"str", .base (.str _), kit_ty (r := false) (by decide +kernel), kit_ty (r := false) (by decide +kernel), kit_ty (r := false) (by decide +kernel)⟩
  | tup h _ _ _ => exact ⟨"tuple", .base (.tup h), kit_ty (r := false) (by decide +kernel), kit_ty (r := false) (by decide +kernel), kit_ty (r := true) (by decide +kernel)⟩
  | lst h _ _ _ => exact ⟨"list", .base (.lst h), kit_ty (r := false) (by decide +kernel), kit_ty (r := false) (by decide +kernel), kit_ty (r := false) (by decide +kernel)⟩
theorem RepJ.untup {H : Hp} {v : V} {js : List J} {n : Nat} (h : RepJ H v (.tup js) n) : ∃ (p : Addr) (xs : List V) (m : Nat), v = .ref p ∧ H p = some (.tup xs) ∧ xs.length ≤ 100000 ∧ Two (fun x j => RepJ H x j m) xs js := by
  cases h with
  | tup h z l k => exact ⟨_, _, _, rfl, h, z, Two.of_get l k⟩
/-! ### evidence that a word is wrong -/
/-- the places of a row, if it is one: ascending places -/
def rowFrom (m : Nat) : Int → List J → Option (List Nat)
  | _, [] => some []
  | b, j :: js => match intJ j with
    | some i => if 0 ≤ i ∧ i < m ∧ b < i then (rowFrom m i js).map (i.toNat :: ·) else none
    | none => none
def rowN (m : Nat) (j : J) : Option (List Nat) := match tupJ j with
  | some js => rowFrom m (-1) js
  | none => none
def plJ (m : Nat) (j : J) : Bool := match intJ j with
  | some i => decide (0 ≤ i ∧ i < m)
  | none => false
theorem rowFrom_cons (m : Nat) (b : Int) (j : J) (js : List J) : rowFrom m b (j :: js) = match intJ j with
    | some i => if 0 ≤ i ∧ i < m ∧ b < i then (rowFrom m i js).map (i.toNat :: ·) else none
    | none => none := rfl
theorem intJ_rep {H : Hp} {v : V} {j : J} {n : Nat} {i : Int} (h : RepJ H v j n) (e : intJ j = some i) : v = .int i := by
  cases h with
  | int i' => cases e; rfl
  | non => cases e
  | bl b => cases e
  | str z => cases e
  | tup _ _ _ _ => cases e
  | lst _ _ _ _ => cases e
theorem rowFrom_vals {H : Hp} {m n : Nat} : ∀ {js : List J} {vs : List V} {b : Int} {xs : List Nat}, Two (fun x j => RepJ H x j n) vs js → rowFrom m b js = some xs → vs = nV xs ∧ (∀ x ∈ xs, x < m) ∧ xs.Pairwise (· < ·) ∧ (∀ x ∈ xs, b < (x : Int))
  | [], _, b, xs, .nil, h => by
    cases h
    exact ⟨rfl, fun x h => (nomatch h), .nil, fun x h => (nomatch h)⟩
  | j :: js, _, b, xs, .cons (a := v) (as := vs) h t, e => by
    rw [rowFrom_cons] at e
    cases hi : intJ j with
    | none => rw [hi] at e; cases e
    | some i =>
      rw [hi] at e
      have e : (if 0 ≤ i ∧ i < m ∧ b < i then (rowFrom m i js).map (i.toNat :: ·) else none) = some xs := e
      by_cases c : 0 ≤ i ∧ i < m ∧ b < i
      · rw [if_pos c] at e
        obtain ⟨ys, hy, rfl⟩ := Option.map_eq_some_iff.mp e
        obtain ⟨r1, r2, r3, r4⟩ := rowFrom_vals t hy
        have hv := intJ_rep h hi
        have hc : ((i.toNat : Nat) : Int) = i := by omega
        refine ⟨?_, fun x hx => ?_, List.pairwise_cons.mpr ⟨fun x hx => ?_, r3⟩, fun x hx => ?_⟩
        · rw [hv, r1]
          show _ = V.int ((i.toNat : Nat) : Int) :: nV ys
          rw [hc]
        · rcases List.mem_cons.mp hx with rfl | hx
          · omega
          · exact r2 x hx
        · have := r4 x hx
          omega
        · rcases List.mem_cons.mp hx with rfl | hx
          · omega
          · have := r4 x hx
            omega
      · rw [if_neg c] at e
        cases e
/-- whole numbers within, in any sequence -/
def allIn (m : Nat) (js : List J) : Bool := js.all (plJ m)
theorem allIn_vals {H : Hp} {m n : Nat} : ∀ {js : List J} {vs : List V}, Two (fun x j => RepJ H x j n) vs js → allIn m js = true → ∃ ns : List Nat, vs = nV ns ∧ (∀ x ∈ ns, x < m) ∧ js = ns.map fun (x : Nat) => J.int (x : Int)
  | [], _, .nil, _ => ⟨[], rfl, fun x h => (nomatch h), rfl⟩
  | j :: js, _, .cons (a := v) (as := vs) h t, e => by
    unfold allIn at e
    rw [List.all_cons, Bool.and_eq_true] at e
    obtain ⟨ns, r1, r2, r3⟩ := allIn_vals t e.2
    have e1 := e.1
    unfold plJ at e1
    cases hi : intJ j with
    | none => rw [hi] at e1; cases e1
    | some i =>
      rw [hi] at e1
      have e2 : 0 ≤ i ∧ i < m := of_decide_eq_true e1
      have hc : ((i.toNat : Nat) : Int) = i := by omega
      have hv := intJ_rep h hi
      refine ⟨i.toNat :: ns, ?_, fun x hx => ?_, ?_⟩
      · rw [hv, r1]
        show _ = V.int ((i.toNat : Nat) : Int) :: nV ns
        rw [hc]
      · rcases List.mem_cons.mp hx with rfl | hx
        · omega
        · exact r2 x hx
      · rw [List.map_cons, ← r3, hc]
        have : j = J.int i := by cases j <;> first | (cases hi; rfl) | cases hi
        rw [this]
theorem rowFrom_none {m : Nat} : ∀ {js : List J} {b : Int}, allIn m js = false → rowFrom m b js = none
  | [], b, h => by cases h
  | j :: js, b, h => by
    rw [rowFrom_cons]
    unfold allIn at h
    rw [List.all_cons] at h
    cases hi : intJ j with
    | none => rfl
    | some i =>
      show (if 0 ≤ i ∧ i < m ∧ b < i then (rowFrom m i js).map (i.toNat :: ·) else none) = none
      by_cases c : 0 ≤ i ∧ i < m ∧ b < i
      · rw [if_pos c]
        have : plJ m j = true := by
          unfold plJ
          rw [hi]
          exact decide_eq_true ⟨c.1, c.2.1⟩
        rw [this, Bool.true_and] at h
        rw [rowFrom_none h]
        rfl
      · rw [if_neg c]
theorem rowFrom_nats {m : Nat} : ∀ (ns : List Nat) (b : Int), (∀ x ∈ ns, x < m) → rowFrom m b (ns.map fun (x : Nat) => J.int (x : Int)) = if ns.Pairwise (· < ·) ∧ ∀ x ∈ ns, b < (x : Int) then some ns else none
  | [], b, _ => by
    rw [if_pos ⟨.nil, fun x h => (nomatch h)⟩]
    rfl
  | x :: ns, b, h => by
    have ih := rowFrom_nats ns (x : Int) fun y hy => h y (List.mem_cons_of_mem _ hy)
    rw [List.map_cons, rowFrom_cons]
    show (if 0 ≤ (x : Int) ∧ (x : Int) < m ∧ b < (x : Int) then (rowFrom m (x : Int) (ns.map fun (x : Nat) => J.int (x : Int))).map ((x : Int).toNat :: ·) else none) = _
    have hx := h x (List.mem_cons_self ..)
    rw [ih]
    by_cases c : b < (x : Int)
    · rw [if_pos ⟨by omega, by omega, c⟩]
      by_cases d : ns.Pairwise (· < ·) ∧ ∀ y ∈ ns, (x : Int) < (y : Int)
      · rw [if_pos d, if_pos ⟨List.pairwise_cons.mpr ⟨fun y hy => by have := d.2 y hy; omega, d.1⟩, fun y hy => by
          rcases List.mem_cons.mp hy with rfl | hy
          · exact c
          · have := d.2 y hy
            omega⟩]
        rfl
      · rw [if_neg d, if_neg fun e => d ⟨(List.pairwise_cons.mp e.1).2, fun y hy => by have := (List.pairwise_cons.mp e.1).1 y hy; omega⟩]
        rfl
    · rw [if_neg fun e => c e.2.2, if_neg fun e => c (e.2 x (List.mem_cons_self ..))]
theorem rowN_nats {m : Nat} (ns : List Nat) (h : ∀ x ∈ ns, x < m) : rowN m (.tup (ns.map fun (x : Nat) => J.int (x : Int))) = if ns.Pairwise (· < ·) then some ns else none := by
  show rowFrom m (-1) _ = _
  rw [rowFrom_nats ns (-1) h]
  by_cases c : ns.Pairwise (· < ·)
  · rw [if_pos c, if_pos ⟨c, fun x _ => by omega⟩]
  · rw [if_neg c, if_neg fun e => c e.1]
/-- adjacent numbers tell -/
theorem rise_adj : ∀ (ns : List Nat), ns.Pairwise (· < ·) ↔ ∀ i x y, ns[i]? = some x → ns[i + 1]? = some y → x < y
  | [] => ⟨fun _ i x y h => (by cases h), fun _ => .nil⟩
  | [a] => ⟨fun _ i x y _ h => (by cases h), fun _ => List.pairwise_singleton _ _⟩
  | a :: b :: ns => by
    have ih := rise_adj (b :: ns)
    constructor
    · intro h i x y hx hy
      rw [List.pairwise_cons] at h
      cases i with
      | zero => cases hx; cases hy; exact h.1 b (List.mem_cons_self ..)
      | succ i => exact ih.mp h.2 i x y hx hy
    · intro h
      have h2 := ih.mpr fun i x y hx hy => h (i + 1) x y hx hy
      have hab := h 0 a b rfl rfl
      refine List.pairwise_cons.mpr ⟨fun z hz => ?_, h2⟩
      rcases List.mem_cons.mp hz with rfl | hz
      · exact hab
      · have := (List.pairwise_cons.mp h2).1 z hz
        omega
end My
namespace My
open PySem PySem.Spec PyProof.Rows L2
/-! ### sorted() of a list of tuples of ints, any number of them -/
def TI (h : Heap) (v : Value) (ns : List Int) : Prop := ∃ (t : Addr) (items : Array Value), v = .ref t ∧ IsTup h t items ∧ IntsAre items.toList ns
theorem TI.keeps {h h' : Heap} {v : Value} {ns : List Int} (x : TI h v ns) (kp : ∀ b o, h.get? b = some o → o.cls = .type "tuple" → h'.get? b = some o) : TI h' v ns := by
  obtain ⟨t, items, e, ⟨o, ho, hc, hd⟩, hi⟩ := x
  exact ⟨t, items, e, ⟨o, kp t o ho hc, hc, hd⟩, hi⟩
section
variable {prog : Program} {w : World} {A : Around} {E : Value → Shared → Prop} {s : Shared}
theorem kt_ints {b : Bool} {Q : Bool → Shared → Prop} : ∀ {xs ys : List Value} {ns ms : List Int} {i : Nat} {fin : Bool}, IntsAre xs ns → IntsAre ys ms → fin = decide (ns.length < ms.length) → Q (HT.lexLt ns ms) s → PySem.W.KatLex prog w A b fin Q (xs.zip ys) i s
  | [], [], _, _, _, _, .nil, .nil, hf, h => by
    refine PySem.W.kat_nil ?_
    rw [hf]
    exact h
  | [], _ :: _, _, _, _, _, .nil, .cons _ _ _, hf, h => by
    refine PySem.W.kat_nil ?_
    rw [hf]
    exact h
  | _ :: _, [], _, _, _, _, .cons _ _ _, .nil, hf, h => by
    refine PySem.W.kat_nil ?_
    rw [hf]
    exact h
  | _ :: xs, _ :: ys, _, _, i, fin, .cons x t r, .cons y u r2, hf, h => by
    rw [List.zip_cons_cons]
    refine PySem.W.kat_cons (SeqAt.EqAt.int_int x t y u prog w _ _ ?_)
    rw [HT.lexLt_cons] at h
    refine PySem.W.kat_go (fun e1 => ?_) (fun e1 => ?_)
    · have ex : x = y := by simpa using e1
      rw [if_pos ex] at h
      refine PySem.W.kat_yes (kt_ints r r2 ?_ h)
      rw [hf]
      exact decide_eq_decide.mpr (by rw [List.length_cons, List.length_cons]; omega)
    · have ex : ¬ x = y := by simpa using e1
      rw [if_neg ex] at h
      exact PySem.W.kat_no (TS.oneLt_ints _ h)
theorem ti_cmp {vs : List Value} {k : Value → List Int} (hp : ∀ v ∈ vs, TI s.heap v (k v)) : SrtO.Cmp prog w A s (tuples' true) (fun p => p.1 ∈ vs) (SrtO.lt2 fun v u => HT.lexLt (k v) (k u)) := by
  intro p q m1 m2
  obtain ⟨t1, i1, e1, ⟨o1, g1, _, n1, d1⟩, j1⟩ := hp _ m1
  obtain ⟨t2, i2, e2, ⟨o2, g2, _, n2, d2⟩, j2⟩ := hp _ m2
  show wpAny (model prog w) A (keyLt' (tuples' true) p.1 q.1) (fun r s' => s' = s ∧ r = HT.lexLt (k p.1) (k q.1)) (fun _ _ => False) s
  generalize k p.1 = ns at j1 ⊢
  generalize k q.1 = ms at j2 ⊢
  rw [e1, e2]
  refine PySem.W.kat_lt g1 d1 g2 d2 (kt_ints j1 j2 ?_ ⟨rfl, rfl⟩)
  rw [← j1.length, ← j2.length, Array.length_toList, Array.length_toList]
theorem ti_lt {v u : Value} {ns ms : List Int} {Q : Bool → Shared → Prop} (hu : A.units < cLine) (h1 : TI s.heap v ns) (h2 : TI s.heap u ms) (q : Q (HT.lexLt ns ms) s) : wpAny (model prog w) A (keyLt' oneType' v u) Q E s := by
  obtain ⟨t1, i1, rfl, p1, j1⟩ := h1
  obtain ⟨t2, i2, rfl, p2, j2⟩ := h2
  obtain ⟨⟨cls, dd, data, sl⟩, ho, hc, n, hd⟩ := id p1
  obtain ⟨⟨cls2, dd2, data2, sl2⟩, ho2, hc2, n2, hd2⟩ := id p2
  simp only at hc hd hc2 hd2
  subst hc hd hc2 hd2
  rw [keyLt'_oneType, oneLt'_eq]
  simp only [if_true]
  have tt : s.TypeIs (.ref t1) "tuple" := ⟨_, ho, rfl⟩
  refine wpAny_bind (wpAny_cRoomFor hu (wpAny_bind (wpAny_callSpecialIfBound?_slot tt PySem.F.slot_tuple_lt ?_)))
  exact call_meets PySem.F.slot_tuple_lt tt PySem.F.entry_tuple_lt (PySem.F.args_tuple_lt_2 _ _) (HT.tuple_lt_ints t1 t2 i1 i2 n n2 dd dd2 sl sl2 ns ms j1 j2) ⟨ho, ho2, wpAny_truthy_bool q⟩
theorem ti_cmp1 {vs : List Value} {k : Value → List Int} (hu : A.units < cLine) (hp : ∀ v ∈ vs, TI s.heap v (k v)) : SrtO.Cmp prog w A s oneType' (fun p => p.1 ∈ vs) (SrtO.lt2 fun v u => HT.lexLt (k v) (k u)) :=
  fun p q m1 m2 => ti_lt (Q := fun r s' => s' = s ∧ r = HT.lexLt (k p.1) (k q.1)) (E := fun _ _ => False) hu (hp p.1 m1) (hp q.1 m2) ⟨rfl, rfl⟩
theorem ti_type {M : Model} {v : Value} {ns : List Int} (h : TI s.heap v ns) : PySem.W.Looks M s.heap (typeOf v) (.type "tuple") := by
  obtain ⟨t, i, rfl, ⟨o, ho, hc, _⟩, _⟩ := h
  have : PySem.W.Looks M s.heap (typeOf (.ref t)) o.cls := (PySem.W.Looks.ld ho).andThen .now
  rw [hc] at this
  exact this
theorem ti_firsts {h : Heap} : ∀ (vs : List Value), (∀ v ∈ vs, ∃ n ns, TI h v (n :: ns)) → ∃ fs, PySem.W.KatTups h vs fs ∧ fs.length = vs.length ∧ ∀ f ∈ fs, ∃ n t, f = Value.int n t
  | [], _ => ⟨[], .nil, rfl, fun f z => by cases z⟩
  | v :: vs, H => by
    obtain ⟨fs, a1, a2, a3⟩ := ti_firsts vs fun u hu => H u (List.mem_cons_of_mem _ hu)
    obtain ⟨n, ns, t, items, rfl, ⟨o, ho, hc, k, hd⟩, hi⟩ := H v (List.mem_cons_self ..)
    obtain ⟨xs⟩ := items
    cases hi with
    | cons _ tk r =>
      refine ⟨_ :: fs, PySem.W.KatTups.cons ho hc hd rfl a1, by rw [List.length_cons, List.length_cons, a2], fun f hf => ?_⟩
      rcases List.mem_cons.mp hf with rfl | hf
      · exact ⟨n, tk, rfl⟩
      · exact a3 f hf
theorem ti_mapM {M : Model} : ∀ (vs : List Value) {Q : List (Option Value) → Shared → Prop}, (∀ v ∈ vs, ∃ ns, TI s.heap v ns) → (∀ fs, Q fs s) → wpAny M A (vs.mapM firstOfTuple') Q E s
  | [], Q, _, q => by
    rw [List.mapM_nil]
    exact wpAny_pure (q [])
  | v :: vs, Q, H, q => by
    obtain ⟨ns, hv⟩ := H v (List.mem_cons_self ..)
    have ty := ti_type (M := M) hv
    obtain ⟨t, items, rfl, ⟨o, ho, hc, k, hd⟩, hi⟩ := hv
    rw [List.mapM_cons, PySem.W.kas_first_eq]
    refine wpAny_bind (wpAny_bind (ty.here ?_))
    rw [if_neg (by decide)]
    exact wpAny_bind (PyProof.Rows.listItems_at ho hd (wpAny_pure (wpAny_bind (ti_mapM vs (Q := fun bs s' => wpAny M A (pure (_ :: bs)) Q E s') (fun u hu => H u (List.mem_cons_of_mem _ hu)) fun fs => wpAny_pure (q _)))))
theorem ti_kind1 {M : Model} {v : Value} {vs : List Value} {Q : SortKind → Shared → Prop} (h0 : TI s.heap v []) (H : ∀ u ∈ vs, ∃ ns, TI s.heap u ns) (q : Q oneType' s) : wpAny M A (keyKind' (v :: vs).toArray) Q E s := by
  have ty : ∀ u ∈ v :: vs, PySem.W.Looks M s.heap (typeOf u) (.type "tuple") := fun u hu => by
    rcases List.mem_cons.mp hu with rfl | hu
    · exact ti_type h0
    · obtain ⟨ns, h⟩ := H u hu
      exact ti_type h
  have tv := ty v (List.mem_cons_self ..)
  obtain ⟨t, items, rfl, ⟨o, ho, hc, k, hd⟩, hi⟩ := h0
  obtain ⟨xs⟩ := items
  cases hi
  rw [keyKind'_eq, List.mapM_toArray, map_eq_pure_bind, List.mapM_cons, PySem.W.kas_first_eq]
  refine wpAny_bind (wpAny_bind (wpAny_bind (wpAny_bind (tv.here ?_))))
  rw [if_neg (by decide)]
  refine wpAny_bind (PyProof.Rows.listItems_at ho hd (wpAny_pure ?_))
  refine wpAny_bind (ti_mapM vs H fun fs => wpAny_pure (wpAny_pure ?_))
  rw [if_neg (by simp), if_neg (by simp)]
  rw [oneTypeOnly'_eq, List.mapM_toArray, map_eq_pure_bind]
  refine wpAny_bind (wpAny_bind (wpAny_bind (PySem.W.kas_mapM (r := Value.type "tuple") _ (fun u hu Q' hq => (ty u hu).here hq) (wpAny_pure ?_))))
  have z0 : (List.map (fun _ => Value.type "tuple") (Value.ref t :: vs)).toArray[0]? = some (Value.type "tuple") := by simp
  rw [z0]
  have z1 : ((List.map (fun _ => Value.type "tuple") (Value.ref t :: vs)).toArray.all fun x => x == Value.type "tuple") = true := by
    simp only [List.all_toArray, List.all_map, List.all_eq_true]
    intro _ _
    exact beq_self_eq_true _
  simp only [z1, if_true]
  exact wpAny_pure (wpAny_pure q)
theorem ti_sortable {a : Addr} {vs : List Value} {k : Value → List Int} (hu : A.units < cLine) (h0 : 0 < vs.length) (hp : ∀ v ∈ vs, TI s.heap v (k v)) (hk : (∀ v ∈ vs, k v ≠ []) ∨ ∃ v r, vs = v :: r ∧ k v = []) (ha : ∀ o, s.heap.get? a = some o → o.cls ≠ .type "tuple") : SrtO.SortableO prog w A s a vs fun v u => HT.lexLt (k v) (k u) := by
  intro h' keep
  have hp' : ∀ v ∈ vs, TI h' v (k v) := fun v hm => (hp v hm).keeps fun b o e c => keep b o (fun z => ha o (by rw [← z]; exact e) c) e
  rcases hk with hk | ⟨v, r, rfl, hv⟩
  · obtain ⟨fs, a1, a2, a3⟩ := ti_firsts (h := h') vs fun v hv => by
      have h1 := hp' v hv
      have h2 := hk v hv
      cases hh : k v with
      | nil => exact absurd hh h2
      | cons n ns =>
        rw [hh] at h1
        exact ⟨n, ns, h1⟩
    refine ⟨tuples' true, fun Q E hq => ?_, ti_cmp (s := { s with heap := h' }) hp'⟩
    refine PySem.W.kat_kind (T := .type "int") a1 (by omega) (fun f hm => ?_) (by rfl) ?_
    · obtain ⟨n, t, rfl⟩ := a3 f hm
      exact PySem.W.Looks.now
    · rw [show (Value.type "int" != Value.type "tuple") = true by decide]
      exact hq
  · refine ⟨oneType', fun Q E hq => ?_, ti_cmp1 (s := { s with heap := h' }) hu hp'⟩
    refine ti_kind1 (s := { s with heap := h' }) ?_ (fun u hu => ⟨_, hp' u (List.mem_cons_of_mem _ hu)⟩) hq
    have := hp' v (List.mem_cons_self ..)
    rw [hv] at this
    exact this
end
def bkW : Value → V
  | .ref a => .ref a
  | _ => .non
theorem bkW_refs : ∀ {xs : List V} {us : List Value}, Vals xs us → (∀ x ∈ xs, ∃ a, x = V.ref a) → xs = us.map bkW ∧ ∀ u ∈ us, ∃ a, u = Value.ref a
  | _, _, .nil, _ => ⟨rfl, fun u hu => by cases hu⟩
  | x :: xs, _ :: us, .cons r t, h => by
    obtain ⟨a, rfl⟩ := h x (List.mem_cons_self ..)
    cases r
    obtain ⟨h1, h2⟩ := bkW_refs t fun y hy => h y (List.mem_cons_of_mem _ hy)
    refine ⟨by rw [List.map_cons, ← h1]; rfl, fun u hu => ?_⟩
    rcases List.mem_cons.mp hu with rfl | hu
    · exact ⟨a, rfl⟩
    · exact h2 u hu
theorem bkW_vals : ∀ {us : List Value}, (∀ u ∈ us, ∃ a, u = Value.ref a) → Vals (us.map bkW) us
  | [], _ => .nil
  | u :: us, h => by
    obtain ⟨a, rfl⟩ := h u (List.mem_cons_self ..)
    exact .cons (show RelV (.ref a) (.ref a) from rfl) (bkW_vals fun y hy => h y (List.mem_cons_of_mem _ hy))
/-- sorted(xs), xs a list of tuples of ints of any number and lengths (none of them empty, or the first one) -/
def rSortedTs (K : PySem.W.Frag) : List V → Hp → VK → Prop := fun vs H Q => ∃ (a : Addr) (xs : List V) (k : V → List Int), vs = [V.ref a] ∧ SqL K H a xs ∧ (∀ x ∈ xs, ∃ t, x = V.ref t ∧ SqT K H t ((k x).map V.int)) ∧ ((∀ x ∈ xs, k x ≠ []) ∨ ∃ x r, xs = x :: r ∧ k x = []) ∧
  ∀ ys p, ys.Perm xs → ys.Pairwise (fun x y => HT.lexLt (k y) (k x) = false) → H p = none → Q (.ref p) (upd H p (.lst ys))
theorem cr_sortedTs {X : Cx} (hu : X.A.units + 64 < cLine) : CallR X (.builtin "sorted") (rSortedTs X.K) := by
  intro pins s σ H vs us Q I r h
  obtain ⟨a, xs, k, rfl, hs, hx, hk, q⟩ := h
  obtain ⟨its, rv, hl, hz⟩ := I.list hs
  obtain ⟨u, rfl, ru⟩ := vals1 r
  obtain rfl : u = Value.ref a := ru
  obtain ⟨e1, e2⟩ := bkW_refs rv fun x m => by
    obtain ⟨t, e, _⟩ := hx x m
    exact ⟨t, e⟩
  have ht : ∀ v ∈ its, TI s.heap v (k (bkW v)) := fun v hv => by
    obtain ⟨t, rfl⟩ := e2 v hv
    have hm : V.ref t ∈ xs := by
      rw [e1]
      exact List.mem_map.mpr ⟨_, hv, rfl⟩
    obtain ⟨t', e, h1⟩ := hx _ hm
    cases e
    obtain ⟨is, r2, hT, _⟩ := I.tuple h1
    exact ⟨t, is.toArray, rfl, hT, show IntsAre is.toArray.toList (k (V.ref t)) by simpa using r2.ints⟩
  have hk' : (∀ v ∈ its, k (bkW v) ≠ []) ∨ ∃ v r, its = v :: r ∧ k (bkW v) = [] := by
    rcases hk with hk | ⟨x, r, e, hx⟩
    · exact .inl fun v hv => hk _ (by rw [e1]; exact List.mem_map_of_mem hv)
    · cases its with
      | nil =>
        rw [e] at e1
        cases e1
      | cons v vs =>
        rw [e1, List.map_cons] at e
        refine .inr ⟨v, vs, rfl, ?_⟩
        rw [(List.cons.inj e).1]
        exact hx
  refine SrtO.sorted_ord (NtL.swo_lexL fun u => k (bkW u)) hl.isList (by rw [← rv.length]; exact hz) (fun h2 h₁ a ha kk => ?_) fun out hs hb => ?_
  · refine ti_sortable (s := { s with heap := h₁ }) (by show X.A.units + 1 + 1 < cLine; omega) (by omega) (fun v hm => (ht v hm).keeps fun b o e _ => (kk b o e).2) hk' fun o e => ?_
    have e' : some o = some (seqObj "list" its.toArray 0) := e.symm.trans ha
    cases e'
    intro c
    exact absurd (Value.type.inj c) (by decide)
  · have h3 : ∀ u ∈ out, ∃ a, u = Value.ref a := fun u hu => e2 u (hb.perm.mem_iff.mp hu)
    have hp : (out.map bkW).Perm xs := by
      rw [e1]
      exact hb.perm.map bkW
    obtain ⟨n, hn⟩ := PyProof.Rows.sortedAll_at s.heap its out.toArray
    refine ⟨.ref _, upd H (s.heap.objs.size + 1) (.lst (out.map bkW)), I.laid (t' := s.toks) (fun _ _ => PyProof.Rows.sortedAll_old) (Nat.le_succ _) ⟨?_, out, n, bkW_vals h3, hn⟩, rfl, q _ _ hp ?_ (I.hok.fresh (Nat.le_succ _))⟩
    · rw [hp.length_eq]
      exact hz
    · rw [List.pairwise_map]
      exact hs
end My
namespace My
open PySem PySem.Spec PyProof.Rows L2
/-! ### a tuple or a text, from its end: x[::-1] -/
section
variable {prog : Program} {w : World} {A : Around} {E : Value → Shared → Prop} {s : Shared}
theorem rv_adjust (n : Nat) : Builtin.Slice.sliceAdjust none none (-1) (n : Int) = ((n : Int) - 1, -1) := rfl
theorem rv_places (n : Nat) : Builtin.Slice.slicePlaces ((n : Int) - 1) (-1) (-1) = n := by
  unfold Builtin.Slice.slicePlaces
  have no : ¬ ((-1 : Int) > 0) := by omega
  have one : (- -1 : Int) = 1 := rfl
  rw [if_neg no, one, Int.ediv_one]
  split <;> omega
theorem fm_congr {α β : Type} {f g : α → Option β} : ∀ (l : List α), (∀ m ∈ l, f m = g m) → l.filterMap f = l.filterMap g
  | [], _ => rfl
  | m :: l, h => by
    have h1 := h m (List.mem_cons_self ..)
    have h2 := fm_congr l fun x hx => h x (List.mem_cons_of_mem _ hx)
    rw [List.filterMap_cons, List.filterMap_cons, h1, h2]
theorem rv_pick (xs : Array Value) : ((List.range xs.size).filterMap fun (m : Nat) => xs[(((xs.size : Int) - 1) + (m : Int) * -1).toNat]?).toArray = xs.toList.reverse.toArray := by
  have e1 : ((List.range xs.size).filterMap fun (m : Nat) => xs[(((xs.size : Int) - 1) + (m : Int) * -1).toNat]?) = ((List.range xs.size).map fun m => xs.size - 1 - m).filterMap (xs[·]?) := by
    rw [List.filterMap_map]
    refine fm_congr _ fun m hm => ?_
    have lt := List.mem_range.mp hm
    have e2 : (((xs.size : Int) - 1) + (m : Int) * -1).toNat = xs.size - 1 - m := by omega
    rw [e2]
    rfl
  rw [e1, PySem.W.krv_range, List.filterMap_reverse, PySem.W.krv_all]
theorem rv_applied {sl : Addr} {step : Value} {n : Nat} {Q : Int × Int × Nat → Shared → Prop} (isS : s.heap.IsSliceOf sl .none .none step) (pS : IsPart step (some (-1))) (fin : Q ((n : Int) - 1, -1, n) s) : wpAny (model prog w) A (Builtin.Slice.sliceApplied (.ref sl) (pure (n : Int))) Q E s := by
  obtain ⟨ob, ob1, ob2, ob3⟩ := id isS
  unfold Builtin.Slice.sliceApplied Builtin.Slice.sliceFields
  refine wpAny_bind (wpAny_bind (wpAny_field ob1 ob3 (x := .none) rfl ?_))
  refine wpAny_bind (wpAny_field ob1 ob3 (x := .none) rfl ?_)
  refine wpAny_bind (wpAny_field ob1 ob3 (x := step) rfl ?_)
  refine wpAny_pure (wpAny_bind (HT.slicePart_ pS ?_))
  show wpAny _ _ (if ((-1 : Int) == 0) = true then _ else _) _ _ s
  rw [if_neg (by decide)]
  refine wpAny_bind (HT.slicePart_ IsPart.none ?_)
  refine wpAny_bind (HT.slicePart_ IsPart.none ?_)
  refine wpAny_bind (wpAny_pure ?_)
  show wpAny _ _ (pure ((n : Int) - 1, (-1 : Int), Builtin.Slice.slicePlaces ((n : Int) - 1) (-1) (-1))) _ _ s
  rw [rv_places]
  exact wpAny_pure fin
theorem rv_tuple {t sl : Addr} {xs : Array Value} {step : Value} {Q : Value → Shared → Prop} (isT : IsTup s.heap t xs) (isS : s.heap.IsSliceOf sl .none .none step) (pS : IsPart step (some (-1))) (sz : xs.size ≤ sizeLine)
    (fin : Q (.ref s.heap.objs.size) { s with heap := s.heap.push { cls := .type "tuple", data := .seq xs.toList.reverse.toArray } }) : wpAny (model prog w) A (getItem (.ref t) (.ref sl)) Q E s := by
  have fits : sizeOk (.seq xs.toList.reverse.toArray) := by
    show xs.toList.reverse.toArray.size ≤ sizeLine
    rw [List.size_toArray, List.length_reverse]
    exact sz
  obtain ⟨ob, ob1, ob2, ob3⟩ := id isS
  have tyS : s.TypeIs (.ref sl) "slice" := ⟨ob, ob1, ob2⟩
  unfold getItem
  try with_reducible apply wpAny_holding
  try apply wpAny_bind (wpAny_pure _)
  refine wpAny_bind (wpAny_sequenceKey isT.typeIs (by decide) ?_)
  refine wpAny_bind (wpAny_callSpecial?_slot (name := Str.ofString "__getitem__") isT.typeIs PyProof.Rows.slot_tuple_getitem (wpAny_call_entry PyProof.Rows.slot_tuple_getitem isT.typeIs entry_tuple_getitem ?_ (args_tuple_getitem _ _)))
  show wpAny _ _ (Builtin.Tuple.tupleItemsOf (.ref t) >>= _) _ _ _
  refine wpAny_bind (tupleItemsOf_ isT ?_)
  refine wpAny_bind (wpAny_typeOf tyS ?_)
  rw [if_pos (by decide)]
  refine wpAny_bind (rv_applied isS pS ?_)
  have no : ¬ ((((xs.size : Int) - 1 == 0) && ((-1 : Int) == 1) && (xs.size == xs.size)) = true) := by
    intro c
    rw [Bool.and_eq_true, Bool.and_eq_true] at c
    exact absurd c.1.2 (by decide)
  show wpAny _ _ (if ((((xs.size : Int) - 1 == 0) && ((-1 : Int) == 1) && (xs.size == xs.size)) = true) then _ else _) _ _ _
  rw [if_neg no, rv_pick]
  first
    | exact wpAny_bind (m := Builtin.Tuple.tupleExact _) (wpAny_newObj_type (wpAny_pure ⟨_, rfl, wpAny_pure fin⟩) fits)
    | exact wpAny_bind (m := Builtin.Tuple.tupleExact _) (wpAny_newObj_type (wpAny_bind (wpAny_pure (wpAny_pure ⟨_, rfl, wpAny_pure fin⟩))) fits)
    | exact wpAny_bind (wpAny_bind (m := Builtin.Tuple.tupleExact _) (wpAny_newObj_type (wpAny_pure (wpAny_pure ⟨_, rfl, wpAny_pure fin⟩)) fits))
    | exact wpAny_bind (wpAny_bind (m := Builtin.Tuple.tupleExact _) (wpAny_newObj_type (wpAny_pure ⟨_, rfl, wpAny_pure fin⟩) fits))
end
section
variable {X : Cx}
/-- what x[::-1] gives of x -/
def RvR (X : Cx) (r : V → Hp → VK → Prop) : Prop := ∀ (pns : List (Addr × Obj)) (s : Shared) (σ : L2.St) (H : Hp) (x : V) (u st : Value) (sl : Addr) (Q : VK), Inv X pns σ H s → RelV x u → s.heap.IsSliceOf sl .none .none st → IsPart st (some (-1)) → r x H Q →
  ∃ T id, typeLookup (.type T) "__getitem__" = pure (some (.builtin id)) ∧ s.TypeIs u T ∧ wpAny (model X.prog X.w) X.A (getItem u (.ref sl)) (EP X pns σ Q) X.xe s
def tRv (r : V → Hp → VK → Prop) (te : TE) : TE := fun σ H Q => te σ H fun x H1 => r x H1 Q
theorem pe_rev {r : V → Hp → VK → Prop} (hr : RvR X r) {e : Expr} {te : TE} {k : Nat} {p1 p2 p3 pos : Pos} (ee : PE X e te) : PE X (.Subscript e (.Slice none none (some (.UnaryOp .USub (.Constant (.int 1) k p1) p2)) p3) pos) (tRv r te) := by
  constructor
  intro pns s0 σ H Q Iv hh
  refine Subscript_ (thn (ee.run pns s0 σ H _ Iv hh) ?_)
  rintro u s1 ⟨x, H1, I1, r1, q1⟩
  have less : PO X (some (.UnaryOp .USub (.Constant (.int 1) k p1) p2)) (tPart (tUn (rU fun i => .int (-i)) (tC (.int 1)))) := po_some (pe_un un_neg pe_int)
  refine wpAny_Slice (thn (po_none.run pns s1 σ H1 (fun o Hx => o = none ∧ Hx = H1) I1 ⟨rfl, rfl⟩) ?_)
  rintro ul s2 ⟨l, H2, I2, pl, el, e2⟩
  subst el e2
  refine thn (po_none.run pns s2 σ H2 (fun o Hx => o = none ∧ Hx = H2) I2 ⟨rfl, rfl⟩) ?_
  rintro uh s3 ⟨h, H3, I3, ph, eh, e3⟩
  subst eh e3
  refine thn (less.run pns s3 σ H3 (fun o Hx => o = some (-1) ∧ Hx = H3) I3 ⟨1, rfl, -1, rfl, rfl, rfl⟩) ?_
  rintro us s4 ⟨o, H4, I4, pz, eo, e4⟩
  subst eo e4
  cases pl
  cases ph
  have I5 : Inv X pns σ H4 { s4 with heap := s4.heap.push { cls := .type "slice", data := .fields #[.none, .none, us] } } := I4.kept (t' := s4.toks) fun b ob z => Heap.get?_push_of_some _ z
  obtain ⟨T, id, hT, ht, hg⟩ := hr pns { s4 with heap := s4.heap.push { cls := .type "slice", data := .fields #[.none, .none, us] } } σ H4 x u us s4.heap.objs.size Q I5 r1 (Heap.IsSliceOf.new ..) pz q1
  exact tail_any (ops := [u, .ref s4.heap.objs.size]) ht hT hg (by with_unfolding_all rfl)
def rRvT (K : PySem.W.Frag) : V → Hp → VK → Prop := fun x H Q => ∃ a xs, x = .ref a ∧ SqT K H a xs ∧ ∀ p, H p = none → Q (.ref p) (upd H p (.tup xs.reverse))
theorem rv_tup {K : PySem.W.Frag} (hK : X.K = K) : RvR X (rRvT K) := by
  subst hK
  intro pns s σ H x u st sl Q Iv rx hs ps h
  obtain ⟨a, xs, rfl, hx, q⟩ := h
  cases rx
  obtain ⟨its, r, ht, hz⟩ := Iv.tuple hx
  have hl : its.toArray.size = xs.length := by rw [List.size_toArray]; exact r.length.symm
  refine ⟨"tuple", _, PyProof.Rows.slot_tuple_getitem.lookup, ht.typeIs, rv_tuple ht hs ps (by rw [hl]; exact hz) ?_⟩
  refine ⟨.ref s.heap.objs.size, _, Iv.laid (t' := s.toks) (o := .tup xs.reverse) (fun b ob z => Heap.get?_push_of_some _ z) (Nat.le_refl _) ?_, rfl, q _ (Iv.hok.fresh (Nat.le_refl _))⟩
  exact ⟨by rw [List.length_reverse]; exact hz, _, r.reverse, IsTup.new _ _⟩
theorem pe_bmB {K : PySem.W.Frag} (hK : X.K = K) {o e : Expr} {es : List Expr} {to : TE} {t : TA} {name : Str} {apos cpos : Pos} {T id : String} {r : V → List V → Hp → VK → Prop} (pa : PlainAttrs T) (sl : Slot T name id) (ty : typeOf (.builtin id) = pure (.type "method_descriptor")) (mt : MtR X id r) (ho : PE X o to) (ha : PA X (e :: es) t)
    (h1 : attributeBase o name X.env (eval o X.env) = eval o X.env := by rfl) (h2 : (((backTo cpos (starEach (e :: es) X.env)).all fun x => !x.fst) && (backToKw cpos (keywordEach [] X.env)).all (fun x => x.fst.isSome) && decide (((e :: es).length + ([] : List Keyword).length + if ([] : List Keyword).isEmpty = true then 0 else 1) < 30)) = true := by rfl) (h3 : (apos.endLine == cpos.line) = true := by rfl)
    (h4 : starEach (e :: es) X.env = (false, eval e X.env) :: starEach es X.env := by rfl) (h5 : ((backTo cpos (starEach es X.env)).any fun x => x.fst) = false := by rfl) : PE X (.Call (.Attribute o name apos) (e :: es) [] cpos) (tBM K T r to t) := by
  subst hK
  exact pe_bm pa sl ty mt ho ha h1 h2 h3 h4 h5
def revS (z : Str) : Str := ⟨z.cps.toList.reverse.toArray⟩
theorem revS_cps (z : Str) : (revS z).cps.toList = z.cps.toList.reverse := by
  show z.cps.toList.reverse.toArray.toList = _
  simp
theorem revS_picked (z : Str) (t : Tok) : ((PySem.slicePicked z none none (some (-1, t))).filterMap (z.cps[·]?)).toArray = z.cps.toList.reverse.toArray := by
  show ((Builtin.Str.strSliceIndices none none (-1) z.length).filterMap (z.cps[·]?)).toArray = _
  rw [picked_rev]
  show (((List.range z.cps.size).map fun k => z.cps.size - 1 - k).filterMap (z.cps[·]?)).toArray = _
  rw [PySem.W.krv_range, List.filterMap_reverse, PySem.W.krv_all]
def rRvS : V → Hp → VK → Prop := fun x H Q => ∃ z : Str, x = .str z ∧ z.length ≤ sizeLine ∧ Q (.str (revS z)) H
theorem rv_str : RvR X rRvS := by
  intro pns s σ H x u st sl Q Iv rx hs ps h
  obtain ⟨z, rfl, hz, q⟩ := h
  obtain ⟨t, rfl⟩ := rx
  obtain ⟨ob, ob1, ob2, ob3⟩ := hs
  cases ps with
  | int i ts =>
  refine ⟨"str", _, F.slot_str_getitem.lookup, typeIs_str _ _ _, ?_⟩
  refine wpAny_getItem_str_slice (l := none) (u := none) (st := some (-1, ts)) ⟨ob, ob1, ob2, ob3⟩ rfl ?_
  have e : sliceMade z t none none (some (-1, ts)) = .str (revS z) := by
    unfold sliceMade
    rw [if_neg (by
      intro c
      rw [Bool.and_eq_true] at c
      exact absurd (show ((-1 : Int) == 1) = true from c.1) (by decide)), revS_picked]
    rfl
  rw [e]
  refine ⟨?_, .str _, H, Iv.tok _, ⟨_, rfl⟩, q⟩
  have e2 : (revS z).length = z.length := by
    have e3 : (revS z).length = (revS z).cps.toList.length := Array.length_toList.symm
    have e4 : z.length = z.cps.toList.length := Array.length_toList.symm
    rw [e3, e4, revS_cps, List.length_reverse]
  rw [e2]
  exact hz
end
end My
namespace My
open PySem PySem.Spec PyProof.Rows L2
def topS (i : Nat) : Stmt := PySem.Challenge.pw_nodoubt_k54_whole_reasons_by_whomever.main.body.getD i (.Pass ⟨0, 0, 0, 0⟩)
abbrev s_is_number : Stmt := topS 4
abbrev s_is_letter : Stmt := topS 7
abbrev s_are_moves : Stmt := topS 11
abbrev s__is_move : Stmt := topS 12
abbrev s_is_system : Stmt := topS 14
abbrev s__are_states : Stmt := topS 15
abbrev s_check_system : Stmt := topS 16
abbrev s_is_state : Stmt := topS 17
abbrev s__ends_by_state : Stmt := topS 18
abbrev s__reached_from : Stmt := topS 19
abbrev s_orbits_of : Stmt := topS 20
abbrev s_orbit_at : Stmt := topS 21
abbrev s_is_round : Stmt := topS 22
abbrev s_gates_of : Stmt := topS 23
abbrev s_exits_of : Stmt := topS 24
abbrev s_unlike_gates_of : Stmt := topS 25
abbrev s_are_alike : Stmt := topS 26
abbrev s_consistent_of : Stmt := topS 27
abbrev s_cut_of : Stmt := topS 28
abbrev s__entered : Stmt := topS 31
abbrev s_inner_of : Stmt := topS 32
abbrev s__behind : Stmt := topS 33
abbrev s__is_stuck : Stmt := topS 34
abbrev s_is_smooth : Stmt := topS 35
abbrev s__systems_inward : Stmt := topS 36
abbrev s_first_reason : Stmt := topS 37
abbrev s_find_reason : Stmt := topS 38
abbrev s__first_of : Stmt := topS 39
abbrev s_accepts_reason : Stmt := topS 40
abbrev s__are_unlike : Stmt := topS 41
abbrev s__law_stream : Stmt := topS 43
abbrev s__law_next : Stmt := topS 44
abbrev s__law_is_integer : Stmt := topS 45
abbrev s__law_equal : Stmt := topS 46
abbrev s__law_system : Stmt := topS 47
abbrev s__law_reached : Stmt := topS 48
abbrev s__law_orbits : Stmt := topS 49
abbrev s__law_orbit : Stmt := topS 50
abbrev s__law_round : Stmt := topS 51
abbrev s__law_exits : Stmt := topS 52
abbrev s__law_gates : Stmt := topS 53
abbrev s__law_alike : Stmt := topS 54
abbrev s__law_consistent : Stmt := topS 55
abbrev s__law_cut : Stmt := topS 56
abbrev s__law_entered : Stmt := topS 57
abbrev s__law_behind : Stmt := topS 58
abbrev s__law_stuck : Stmt := topS 59
abbrev s__law_is_reason : Stmt := topS 60
abbrev s__law_drawn : Stmt := topS 61
abbrev s__law_turned : Stmt := topS 62
abbrev s_law : Stmt := topS 63
abbrev s_BadValue___init__ : Stmt := inClass (topS 2) 0
theorem boot_isinstance : bootBuiltins "isinstance" = some (.builtin "isinstance") := by decide +kernel
theorem boot_all : bootBuiltins "all" = some (.builtin "all") := by decide +kernel
theorem boot_any : bootBuiltins "any" = some (.builtin "any") := by decide +kernel
theorem boot_sum : bootBuiltins "sum" = some (.builtin "sum") := by decide +kernel
theorem boot_len : bootBuiltins "len" = some (.builtin "len") := by decide +kernel
theorem boot_abs : bootBuiltins "abs" = some (.builtin "abs") := by decide +kernel
theorem boot_min : bootBuiltins "min" = some (.builtin "min") := by decide +kernel
theorem boot_max : bootBuiltins "max" = some (.builtin "max") := by decide +kernel
theorem boot_int : bootBuiltins "int" = some (.type "int") := by decide +kernel
theorem boot_str : bootBuiltins "str" = some (.type "str") := by decide +kernel
theorem boot_bool : bootBuiltins "bool" = some (.type "bool") := by decide +kernel
theorem boot_list : bootBuiltins "list" = some (.type "list") := by decide +kernel
theorem boot_sorted : bootBuiltins "sorted" = some (.builtin "sorted") := by decide +kernel
theorem boot_set : bootBuiltins "set" = some (.type "set") := by decide +kernel
theorem boot_tuple : bootBuiltins "tuple" = some (.type "tuple") := by decide +kernel
/-- the built-ins' names as the module leaves them, its constants -/
structure Bt (K : PySem.W.Frag) (mg : Str → Option Value) (tL tM tV : Tok) : Prop where
  b_ValueError : mg "ValueError" = none
  b_abs : mg "abs" = none
  b_all : mg "all" = none
  b_any : mg "any" = none
  b_bool : mg "bool" = none
  b_enumerate : mg "enumerate" = none
  b_int : mg "int" = none
  b_isinstance : mg "isinstance" = none
  b_len : mg "len" = none
  b_list : mg "list" = none
  b_max : mg "max" = none
  b_min : mg "min" = none
  b_range : mg "range" = none
  b_reversed : mg "reversed" = none
  b_str : mg "str" = none
  b_super : mg "super" = none
  b_tuple : mg "tuple" = none
  g_LETTERS : mg "LETTERS" = some (.str "abcd" tL)
  g_MOST_STATES : mg "MOST_STATES" = some (.int 40 tM)
  g_MOST_STATES_OF_A_VALUE : mg "MOST_STATES_OF_A_VALUE" = some (.int 300 tV)
  e_P : ∃ t, mg "MOST_PATH_STATES" = some (.int 40 t)
section
variable {P : Program} {w : World} {K : PySem.W.Frag} {mg : Str → Option Value} {base : Heap} {tL tM tV : Tok}
abbrev N__law_stream : List Str := ["script"]
theorem sc__law_stream : FnScope ["script"] ["script"] (defScope s__law_stream) := ⟨rfl, rfl, rfl, by decide +kernel, rfl, by decide +kernel, by decide +kernel⟩
theorem ok_stream {f : Addr} {fd : FuncData} (B : Bt K mg tL tM tV) (D : Df K mg "_law_stream" s__law_stream ["script"] f fd) : FnOk P w K mg base CX0 1 f fd ["script"] (spStream K) := by
  refine D.F.ok sc__law_stream (fun vs H Q E h => ?_) (fun cdv A outer s H vs Q E hr h => ?_)
  · obtain ⟨a, ns, rfl, _⟩ := h
    rfl
  obtain ⟨a, ns, rfl, hS, h63, q⟩ := h
  refine ⟨_, (pss_one (ps_ret (pe_lst (pa_cons (pe_callTy call_list_of rfl B.b_list boot_list (pa_cons (pv 0) pa_nil)) (pa_cons pe_int (pa_cons pe_int pa_nil)))))), ?_⟩
  refine ⟨_, rfl, a, _, rfl, .inl hS, fun l hl => ⟨by show 3 ≤ sizeLine; decide, fun p hp => ?_⟩⟩
  have n : l ≠ p := fun e => by
    rw [← e, upd_same] at hp
    cases hp
  exact q p _ ((same_upd hl).trans (same_upd hp)) ((same_upd hl).free hp) ⟨l, 0, 0, ns, upd_same, by rw [upd_ne n]; exact upd_same, n, Int.le_refl 0⟩
abbrev N__law_next : List Str := ["stream", "many", "k", "cell", "digit"]
theorem sc__law_next : FnScope ["stream", "many", "k", "cell", "digit"] ["stream", "many"] (defScope s__law_next) := ⟨rfl, rfl, rfl, by decide +kernel, rfl, by decide +kernel, by decide +kernel⟩
theorem ok_next {f : Addr} {fd : FuncData} (B : Bt K mg tL tM tV) (D : Df K mg "_law_next" s__law_next ["stream", "many"] f fd) : FnOk P w K mg base CX0 1 f fd ["stream", "many"] spNext := by
  refine D.F.ok sc__law_next (fun vs H Q E h => ?_) (fun cdv A outer s H vs Q E hr h => ?_)
  · obtain ⟨a, m, rfl, _⟩ := h
    rfl
  obtain ⟨a, m, rfl, hS, hm0, hm1, q⟩ := h
  obtain ⟨l, c, k, ns, h1, h2, h3, h4⟩ := id hS
  refine ⟨_, (C8.pss_cut (ps_if (pt_cmpR op_eq (pe_ix (r := rIxL K) ix_list (pv 0) pe_int (fun _ _ => rfl)) pe_int (nomark _)) (pss_cons (ps_set (i := 2) sc__law_next.nd rfl (Or.inl rfl) (pe_ix (r := rIxL K) ix_list (pv 0) pe_int (fun _ _ => rfl)))
    (pss_cons (ps_set (i := 3) sc__law_next.nd rfl (Or.inl rfl) (pe_op op_add pe_int (pv 2)))
    (C8.pss_cut (ps_if (pt_cmpR op_lt (pv 2) (pe_callB call_len rfl B.b_len boot_len (pa_cons (pe_ix (r := rIxL K) ix_list (pv 0) pe_int (fun _ _ => rfl)) pa_nil)) (nomark _)) (pss_one (ps_set (i := 3) sc__law_next.nd rfl (Or.inl rfl) (pe_callB call_abs rfl B.b_abs boot_abs (pa_cons (pe_ix (r := rIxL K) ix_list (pe_ix (r := rIxL K) ix_list (pv 0) pe_int (fun _ _ => rfl)) (pv 2) (fun _ _ => rfl)) pa_nil)))) pss_nil)
    (C8.pss_cut (ps_if (pt_cmpR op_lt (pv 3) (pe_op op_pow pe_int pe_int) (nomark _)) (pss_cons (ps_set (i := 3) sc__law_next.nd rfl (Or.inl rfl) (pe_op op_mod (pe_callTy call_int1 rfl B.b_int boot_int (pa_cons (pe_op op_add (pe_op op_add (pe_op op_mul (pv 3) pe_int) (pe_op op_mul (pv 2) pe_int)) pe_int) pa_nil)) pe_int))
    (pss_one (ps_set (i := 3) sc__law_next.nd rfl (Or.inl rfl) (pe_op op_add (pe_op op_mul (pe_op op_mod (pe_callTy call_int1 rfl B.b_int boot_int (pa_cons (pe_op op_add (pe_op op_mul (pv 3) pe_int) pe_int) pa_nil)) pe_int) pe_int) (pv 3))))) pss_nil)
    (pss_cons (ps_asg (pv 3) (pg_sub (pv 0) pe_int set_list))
    (pss_one (ps_asg (pe_op op_add (pv 2) pe_int) (pg_sub (pv 0) pe_int set_list)))))))) pss_nil)
    (pss_cons (ps_set (i := 4) sc__law_next.nd rfl (Or.inl rfl) (pe_op op_mod (pe_callTy call_int1 rfl B.b_int boot_int (pa_cons (pe_ix (r := rIxL K) ix_list (pv 0) pe_int (fun _ _ => rfl)) pa_nil)) (pv 1)))
    (pss_cons (ps_asg (pe_op op_fdiv (pe_ix (r := rIxL K) ix_list (pv 0) pe_int (fun _ _ => rfl)) (pv 1)) (pg_sub (pv 0) pe_int set_list))
    (pss_one (ps_ret (pv 4)))))), ?_⟩
  have m0 : ¬ m = 0 := by omega
  have at0 : ∀ (x y z : V), atI [x, y, z] 0 = some x := fun x y z => rfl
  have at1 : ∀ (x y z : V), atI [x, y, z] 1 = some y := fun x y z => rfl
  have at2 : ∀ (x y z : V), atI [x, y, z] 2 = some z := fun x y z => rfl
  refine ⟨fun σ' H' => ∃ kk cc c k, σ' = [some (.ref a), some (.int m), kk, cc, none] ∧ StrmW H' a l c k ns ∧ Keep a H H', ?_, ?_⟩
  · refine ⟨_, rfl, a, _, _, _, rfl, rfl, SqL.of h1, at1 _ _ _, rfl, _, rfl, ite2 (fun e => ?_) (fun e => ?_)⟩
    · -- a new cell
      refine ⟨_, rfl, a, _, _, _, rfl, rfl, SqL.of h1, at2 _ _ _, ?_⟩
      refine ⟨_, rfl, _, _, rfl, rfl, ?_⟩
      refine ⟨fun σ' H' => ∃ cc : Int, σ' = [some (.ref a), some (.int m), some (.int k), some (.int cc), none] ∧ H' = H, ?_, ?_⟩
      · refine ⟨_, rfl, _, rfl, a, _, _, _, rfl, rfl, SqL.of h1, at0 _ _ _, _, _, rfl, .inl ⟨_, SqL.of h2, rfl⟩, _, _, rfl, rfl, _, rfl, ite2 (fun e2 => ?_) (fun e2 => ?_)⟩
        · have e3 : k < ((ns.map V.int).length : Int) := of_decide_eq_true e2
          rw [List.length_map] at e3
          have hk : k.toNat < ns.length := by omega
          refine ⟨_, rfl, a, _, _, _, rfl, rfl, SqL.of h1, at0 _ _ _, _, rfl, l, _, k, .int ns[k.toNat], rfl, rfl, SqL.of h2, at_of (j := k.toNat) (by omega) (by rw [List.getElem?_map, List.getElem?_eq_getElem hk] <;> rfl), _, rfl, ?_⟩
          exact ⟨_, rfl, rfl⟩
        · exact ⟨_, rfl, rfl⟩
      · rintro σ' H' ⟨cc, rfl, rfl⟩
        refine ⟨fun σ' H'' => ∃ cc : Int, σ' = [some (.ref a), some (.int m), some (.int k), some (.int cc), none] ∧ H'' = H', ?_, ?_⟩
        · refine ⟨_, rfl, _, _, rfl, rfl, ⟨by decide, by decide, by decide⟩, _, _, rfl, rfl, _, rfl, ite2 (fun e2 => ?_) (fun e2 => ?_)⟩
          · refine ⟨_, rfl, _, _, rfl, rfl, .inr ⟨by decide, by decide⟩, _, rfl, _, _, rfl, rfl, .inr ⟨by decide, by decide⟩, _, _, rfl, rfl, _, _, rfl, rfl, .inl ⟨_, rfl, _, _, rfl, rfl, (by show (0 : Int) < 2147483647; decide), ?_⟩⟩
            refine ⟨_, rfl, _, _, rfl, rfl, .inr ⟨by decide, by decide⟩, _, _, rfl, rfl, .inl ⟨_, rfl, _, _, rfl, rfl, (by show (0 : Int) < 2147483647; decide), _, _, rfl, rfl, .inr ⟨by decide, by decide⟩, _, rfl, _, _, rfl, rfl, ?_⟩⟩
            exact ⟨_, rfl, rfl⟩
          · exact ⟨_, rfl, rfl⟩
        · rintro σ' H'' ⟨cc, rfl, rfl⟩
          refine ⟨_, rfl, _, rfl, a, _, _, _, rfl, rfl, h1, rfl, ?_⟩
          have u1 : ([.ref l, .int c, .int k] : List V).set 1 (.int cc) = [.ref l, .int cc, .int k] := rfl
          refine ⟨_, rfl, _, _, rfl, rfl, _, rfl, a, _, _, _, rfl, rfl, upd_same, rfl, ?_⟩
          exact ⟨_, _, cc, k + 1, rfl, ⟨upd_same, by rw [upd_ne h3, upd_ne h3]; exact h2, h3, by omega⟩, Keep.store.trans Keep.store⟩
    · exact ⟨_, _, c, k, rfl, ⟨h1, h2, h3, h4⟩, Keep.refl a H⟩
  · rintro σ' H' ⟨kk, cc, c, k, rfl, ⟨g1, g2, g3, g4⟩, kp⟩
    refine ⟨_, rfl, a, _, _, _, rfl, rfl, SqL.of g1, at1 _ _ _, .inl ⟨_, rfl, _, rfl, _, _, rfl, rfl, hm0, ?_⟩⟩
    refine ⟨_, rfl, a, _, _, _, rfl, rfl, SqL.of g1, at1 _ _ _, _, rfl, _, _, rfl, rfl, ⟨hm0, by omega⟩, _, rfl, a, _, _, _, rfl, rfl, g1, rfl, ?_⟩
    exact ⟨_, rfl, q _ _ (Int.emod_nonneg _ m0) (Int.emod_lt_of_pos _ hm0) ⟨kp.trans Keep.store, hS, fun l' c' k' ns' h' => by
      have e := h1.symm.trans h'.1
      cases e
      exact ⟨_, _, ns, upd_same, by rw [upd_ne g3]; exact g2, g3, g4⟩⟩⟩
end
def spLetter : Sp := fun vs H Q _ => ∃ z : Str, vs = [.str z] ∧ z.length ≤ 1000 ∧ Q (.bl (isLet z)) H
section
variable {P : Program} {w : World} {K : PySem.W.Frag} {mg : Str → Option Value} {base : Heap} {tL tM tV : Tok}
theorem abcd_in (c : Nat) : (c ∈ (Str.ofString "abcd").cps.toList) ↔ 97 ≤ c ∧ c ≤ 100 := by
  have e : (Str.ofString "abcd").cps.toList = [97, 98, 99, 100] := by decide +kernel
  rw [e]
  simp
  omega
theorem isLet_one (c : Nat) : isLet ⟨#[c]⟩ = decide (c ∈ (Str.ofString "abcd").cps.toList) := by
  have e : isLet ⟨#[c]⟩ = (decide (97 ≤ c) && decide (c ≤ 100)) := rfl
  rw [e, ← Bool.decide_and]
  exact decide_eq_decide.mpr (abcd_in c).symm
abbrev N_is_letter : List Str := ["value"]
theorem sc_is_letter : FnScope ["value"] ["value"] (defScope s_is_letter) := ⟨rfl, rfl, rfl, by decide +kernel, rfl, by decide +kernel, by decide +kernel⟩
theorem ok_letter {f : Addr} {fd : FuncData} (B : Bt K mg tL tM tV) (D : Df K mg "is_letter" s_is_letter ["value"] f fd) : FnOk P w K mg base CX0 1 f fd ["value"] spLetter := by
  refine D.F.ok sc_is_letter (fun vs H Q E h => ?_) (fun cdv A outer s H vs Q E hr h => ?_)
  · obtain ⟨z, rfl, _⟩ := h
    rfl
  obtain ⟨z, rfl, hz, q⟩ := h
  refine ⟨_, (pss_one (ps_ret (pe_and (pe_callB call_isi rfl B.b_isinstance boot_isinstance (pa_cons (pv 0) (pa_cons (pe_bltn (v := .ty "str") rfl B.b_str boot_str rfl) pa_nil))) (pe_and (pe_cmpR op_eq (pe_callB call_len rfl B.b_len boot_len (pa_cons (pv 0) pa_nil)) pe_int (nomark _)) (pe_one (pe_cmpR op_in_sign (pv 0) (pe_glob (v := .str "abcd") rfl B.g_LETTERS ⟨_, rfl⟩) rfl)))))), ?_⟩
  have T1 : TyX K H (.str z) (.type "str") := .base (.str z)
  refine ⟨_, rfl, _, _, _, _, _, rfl, .ty _, T1, kit_ty (r := true) (by decide +kernel), _, rfl, iteT ?_⟩
  refine ⟨_, rfl, _, _, rfl, ⟨Nat.le_trans hz (by decide), rfl⟩, rfl, _, rfl, ite2 (fun e => ?_) (fun e => ?_)⟩
  · have e1 : V.int (z.length : Int) = V.int 1 := of_decide_eq_true e
    have e2 : z.cps.size = 1 := by
      have e3 : (z.length : Int) = 1 := V.int.inj e1
      have e4 : z.length = z.cps.size := rfl
      omega
    obtain ⟨⟨cs⟩⟩ := z
    match cs, e2 with
    | [c], _ =>
      refine ⟨_, rfl, _, _, rfl, rfl, ?_⟩
      rw [isLet_one] at q
      exact q
  · have e2 : isLet z = false := by
      unfold isLet
      split
      · rename_i c hc
        exfalso
        apply e
        refine decide_eq_true (congrArg V.int ?_)
        have : z.cps.size = 1 := by rw [← Array.length_toList, hc] <;> rfl
        show ((z.cps.size : Nat) : Int) = 1
        omega
      · rfl
    rw [e2] at q
    exact q
end
end My
namespace My
open PySem PySem.Spec PyProof.Rows L2
theorem u64 {k : Nat} {A : Around} (h : Room k A) : A.units + 64 < cLine := by
  have := h.un
  omega
theorem u0 {k : Nat} {A : Around} (h : Room k A) : A.units < cLine := by
  have := h.un
  omega
def rInB (K : PySem.W.Frag) : R2 := rIn K false
theorem op_in_seqB {X : Cx} {K : PySem.W.Frag} (hK : X.K = K) : OpR X (compareOp .In) (rInB K) := by
  subst hK
  exact op_in_seq
def rNotInB (K : PySem.W.Frag) : R2 := rIn K true
theorem op_notin_seqB {X : Cx} {K : PySem.W.Frag} (hK : X.K = K) : OpR X (compareOp .NotIn) (rNotInB K) := by
  subst hK
  exact op_notIn_seq
def rTupOf (K : PySem.W.Frag) : List V → Hp → VK → Prop := fun xs H Q => ∃ p ys, xs = [.ref p] ∧ ((SqL K H p ys ∧ ∀ l, H l = none → Q (.ref l) (upd H l (.tup ys))) ∨ (SqT K H p ys ∧ Q (.ref p) H))
theorem call_tuple_ofK {X : Cx} : CallR X (.type "tuple") (rTupOf X.K) := call_tuple_of
def spNum : Sp := fun vs H Q _ => ∃ i a b : Int, vs = [.int i, .int a, .int b] ∧ Q (.bl (decide (a ≤ i ∧ i ≤ b))) H
/-- a dict whose keys are such numbers -/
def KeysAt (H : Hp) (d : Addr) (F : Nat → Bool) : Prop := ∃ kvs : List (L2.Key × V), H d = some (.dK kvs) ∧ ∀ n : Nat, (valV kvs (Sum.inl (n : Int))).isSome = F n
theorem KeysAt.same {H H' : Hp} {d : Addr} {F : Nat → Bool} (s : Same H H') (h : KeysAt H d F) : KeysAt H' d F := by
  obtain ⟨kvs, h1, h2⟩ := h
  exact ⟨kvs, s _ _ h1, h2⟩
def inSt (S : Sy) (n : Nat) : Bool := decide (n ∈ S.st)
def spIsMove : Sp := fun vs H Q _ => ∃ (v : V) (d : Addr) (m : Mv) (S : Sy), vs = [v, .ref d] ∧ Good S ∧ m ∈ S.mv ∧ MoveAt H v m ∧ KeysAt H d (inSt S) ∧ ∀ H', Same H H' → Q (.bl true) H'
def spAreMoves : Sp := fun vs H Q _ => ∃ (b a : Addr) (ts : List V) (S : Sy), vs = [.ref b, .ref a] ∧ Good S ∧ H b = some (.tup ts) ∧ Two (MoveAt H) ts S.mv ∧ H a = some (.tup (natsV S.st)) ∧ ∀ H', Same H H' → Q (.bl true) H'
def spAreStates : Sp := fun vs H Q _ => ∃ (a : Addr) (xs : List Nat), vs = [.ref a] ∧ H a = some (.tup (natsV xs)) ∧ xs.Pairwise (· < ·) ∧ (∀ x ∈ xs, x < 40) ∧ Q (.bl true) H
def spIsSys : Sp := fun vs H Q _ => ∃ (p : Addr) (S : Sy), vs = [.ref p] ∧ SysAt H p S ∧ Good S ∧ ∀ H', Same H H' → Q (.bl true) H'
def spChkSys : Sp := fun vs H Q _ => ∃ (p : Addr) (S : Sy), vs = [.ref p] ∧ SysAt H p S ∧ Good S ∧ ∀ H', Same H H' → Q .non H'
def spIsState : Sp := fun vs H Q _ => ∃ (p : Addr) (S : Sy) (s : Nat), vs = [.ref p, .int s] ∧ SysAt H p S ∧ Good S ∧ s ∈ S.st ∧ Q (.bl true) H
def spChkState : Sp := fun vs H Q _ => ∃ (p : Addr) (S : Sy) (s : Nat), vs = [.ref p, .int s] ∧ SysAt H p S ∧ Good S ∧ s ∈ S.st ∧ Q .non H
theorem isLet_sym {c : Nat} (h : 97 ≤ c ∧ c ≤ 100) : isLet ⟨#[c]⟩ = true := by
  rw [isLet_one]
  exact decide_eq_true ((abcd_in c).mpr h)
theorem ne_nil_dp {xs : List Nat} (h : xs ≠ []) : PyData.eqv (.tuple (xs.map fun (n : Nat) => PyData.int (n : Int))) (.tuple []) = false := by
  cases xs with
  | nil => exact absurd rfl h
  | cons x xs => simp [PyData.eqv, PyData.eqvAll]
def psd (ns : List Nat) : List PyData := ns.map fun (n : Nat) => PyData.int (n : Int)
theorem dpAll_ints {K : PySem.W.Frag} {H : Hp} : ∀ ns : List Nat, DpAll K H (natsV ns) (psd ns)
  | [] => .nil
  | n :: ns => .cons (.int _) (dpAll_ints ns)
theorem psd_lay : ∀ ns : List Nat, PyData.canLayAll0 (psd ns) = true
  | [] => rfl
  | n :: ns => by
    show (PyData.canLay0 (.int (n : Int)) && PyData.canLayAll0 (psd ns)) = true
    rw [psd_lay ns]
    rfl
theorem psd_dep : ∀ ns : List Nat, PyData.depthAll (psd ns) = 0
  | [] => rfl
  | n :: ns => by
    show max (PyData.depth (.int (n : Int))) (PyData.depthAll (psd ns)) = 0
    rw [psd_dep ns]
    rfl
theorem tup_shaped (ns : List Nat) : SeqAt.shaped (.tuple (psd ns)) = true := by
  show (PyData.canLay0 (.tuple (psd ns)) && decide (PyData.depth (.tuple (psd ns)) ≤ 64)) = true
  have h1 : PyData.canLay0 (.tuple (psd ns)) = true := psd_lay ns
  have h2 : PyData.depth (.tuple (psd ns)) = PyData.depthAll (psd ns) + 1 := by simp [PyData.depth]
  rw [h1, h2, psd_dep]
  rfl
section
variable {P : Program} {w : World} {K : PySem.W.Frag} {mg : Str → Option Value} {base : Heap} {tL tM tV : Tok}
abbrev N_is_number : List Str := ["value", "least", "most"]
theorem sc_is_number : FnScope ["value", "least", "most"] ["value", "least", "most"] (defScope s_is_number) := ⟨rfl, rfl, rfl, by decide +kernel, rfl, by decide +kernel, by decide +kernel⟩
theorem ok_isnumber {f : Addr} {fd : FuncData} (B : Bt K mg tL tM tV) (Dd : Df K mg "is_number" s_is_number ["value", "least", "most"] f fd) : FnOk P w K mg base CX0 1 f fd ["value", "least", "most"] spNum := by
  refine Dd.F.ok sc_is_number (fun vs H Q Ex h => ?_) (fun cdv A outer s H vs Q Ex hr h => ?_)
  · obtain ⟨i, a, b, rfl, _⟩ := h
    rfl
  obtain ⟨i, a, b, rfl, q⟩ := h
  refine ⟨_, (pss_one (ps_ret (pe_and (pe_callB call_isi rfl B.b_isinstance boot_isinstance (pa_cons (pv 0) (pa_cons (pe_bltn (v := .ty "int") rfl B.b_int boot_int rfl) pa_nil))) (pe_and (pe_not (pe_callB call_isi rfl B.b_isinstance boot_isinstance (pa_cons (pv 0) (pa_cons (pe_bltn (v := .ty "bool") rfl B.b_bool boot_bool rfl) pa_nil)))) (pe_one (pe_chain op_le op_le (pv 1) (pv 0) (pv 2))))))), ?_⟩
  have T1 : TyX K H (.int i) (.type "int") := .base (.int i)
  refine ⟨_, rfl, _, _, _, _, _, rfl, .ty _, T1, kit_ty (r := true) (by decide +kernel), _, rfl, iteT ?_⟩
  refine ⟨_, rfl, _, _, _, _, _, rfl, .ty _, T1, kit_ty (r := false) (by decide +kernel), _, rfl, true, rfl, ?_⟩
  rw [if_pos rfl]
  refine ⟨_, rfl, _, rfl, _, _, rfl, rfl, _, rfl, ite2 (fun c => ?_) (fun c => ?_)⟩
  · refine ⟨_, rfl, _, _, rfl, rfl, ?_⟩
    have c1 : a ≤ i := of_decide_eq_true c
    have e : (decide (a ≤ i ∧ i ≤ b)) = decide (i ≤ b) := decide_eq_decide.mpr ⟨fun h => h.2, fun h => ⟨c1, h⟩⟩
    rw [e] at q
    exact q
  · have c1 : ¬ a ≤ i := fun h => c (decide_eq_true h)
    rw [decide_eq_false (fun h => c1 h.1)] at q
    exact q
abbrev N__is_move : List Str := ["value", "inside", "state"]
theorem sc__is_move : FnScope ["value", "inside", "state"] ["value", "inside"] (defScope s__is_move) := ⟨rfl, rfl, rfl, by decide +kernel, rfl, by decide +kernel, by decide +kernel⟩
theorem ok_ismove {f : Addr} {fd : FuncData} (B : Bt K mg tL tM tV) (Dd : Df K mg "_is_move" s__is_move ["value", "inside"] f fd) (Gis_letter : Cl P w K mg base 1 "is_letter" ["value"] spLetter) (Gis_number : Cl P w K mg base 1 "is_number" ["value", "least", "most"] spNum) : FnOk P w K mg base CX0 2 f fd ["value", "inside"] spIsMove := by
  refine Dd.F.ok sc__is_move (fun vs H Q Ex h => ?_) (fun cdv A outer s H vs Q Ex hr h => ?_)
  · obtain ⟨v, d, m, S, rfl, _⟩ := h
    rfl
  obtain ⟨v, d, m, S, rfl, hG, hm, ⟨t, rfl, ht⟩, ⟨kvs, hd, hk⟩, q⟩ := h
  refine ⟨_, (pss_cons (ps_if (PW.pt (pw_or (pt_not (pt_val (pe_callB call_isi rfl B.b_isinstance boot_isinstance (pa_cons (pv 0) (pa_cons (pe_bltn (v := .ty "tuple") rfl B.b_tuple boot_tuple rfl) pa_nil))))) (pw_or (pt_cmpR op_ne (pe_callB call_len rfl B.b_len boot_len (pa_cons (pv 0) pa_nil)) pe_int (nomark _)) (pw_or1 (pt_not (pt_val (pe_cl Gis_letter (hr.mono (by omega)) rfl (pa_cons (pe_ix (r := rIxT K) ix_tup (pv 0) pe_int (fun _ _ => rfl)) pa_nil)))))))) (pss_one (ps_ret pe_bl)) pss_nil)
    (pss_one (ps_ret (pe_callB (cr_all rfl) rfl B.b_all boot_all (pa_cons (pe_lc (own := [("state", 2)]) (g := gName 2) (tt := tYes) rfl sc__is_move.nd (pi_tup (pe_tup (pa_cons (pe_ix (r := rIxT K) ix_tup (pv 0) pe_int (fun _ _ => rfl)) (pa_cons (pe_ix (r := rIxT K) ix_tup (pv 0) pe_int (fun _ _ => rfl)) pa_nil)))) (blkOk_by (N := N__is_move) (sc := defScope s__is_move) (by decide +kernel)) (fun _ _ _ _ _ => pg_name (i := 2) sc__is_move.nd rfl (Or.inl rfl)) (fun _ _ _ _ _ => pts_nil) (fun _ _ _ _ _ => (pe_and (pe_cl Gis_number (hr.mono (by omega)) rfl (pa_cons (pv 2) (pa_cons pe_int (pa_cons (pe_glob (v := .int 300) rfl B.g_MOST_STATES_OF_A_VALUE ⟨_, rfl⟩) pa_nil)))) (pe_one (pe_cmp (pc_din (hu_of hr) (pv 2) (pv 1)) rfl))))) pa_nil))))), ?_⟩
  obtain ⟨m1, m2, m3, m4⟩ := hG.min m hm
  have T1 : TyX K H (.ref t) (.type "tuple") := .base (.tup ht)
  refine ⟨_, rfl, _, _, _, _, _, rfl, .ty _, T1, kit_ty (r := true) (by decide +kernel), _, rfl, iteF ?_⟩
  refine ⟨_, rfl, _, 3, rfl, .inr ⟨_, SqT.of ht, rfl⟩, rfl, _, rfl, iteF ?_⟩
  refine ⟨_, rfl, t, _, 1, _, rfl, rfl, SqT.of ht, at_one, _, rfl, by show 1 ≤ 1000; decide, _, rfl, ?_⟩
  rw [isLet_sym ⟨m3, m4⟩]
  refine iteF ?_
  refine ⟨_, rfl, t, _, 0, _, rfl, rfl, SqT.of ht, at_zero, _, rfl, t, _, 2, _, rfl, rfl, SqT.of ht, at_of (j := 2) rfl rfl, by show 2 ≤ sizeLine; decide, fun T hT => ⟨T, rfl, ⟨_, SqT.of upd_same⟩, fun L hL => ?_⟩⟩
  have sT := same_upd (o := .tup [V.int (m.1 : Int), V.int (m.2.2 : Int)]) hT
  refine lc_tupR (K := K) (a := T) (xs := [V.int (m.1 : Int), V.int (m.2.2 : Int)]) (fun i => (List.replicate (min i 2) true).map V.bl) rfl (fun i => by rw [List.length_map, List.length_replicate]; omega) hL (SqT.of upd_same) (fun i x H' hx s1 fin _ => ?_) (fun H' s1 hk' => ?_)
  · have hi := (List.getElem?_eq_some_iff.mp hx).1
    have hi2 : i < 2 := hi
    obtain ⟨n, rfl, hn⟩ : ∃ n : Nat, x = .int (n : Int) ∧ n ∈ S.st := by
      match i, hi2, hx with
      | 0, _, hx => cases hx; exact ⟨_, rfl, m1⟩
      | 1, _, hx => cases hx; exact ⟨_, rfl, m2⟩
    have h40 := hG.lt n hn
    refine ⟨rfl, tyes ⟨_, rfl, _, _, _, rfl, _, rfl, ?_⟩⟩
    rw [decide_eq_true (by omega)]
    refine iteT ⟨_, rfl, _, rfl, d, _, rfl, DGet.k (k := Sum.inl (n : Int)) (s1 _ _ (sT _ _ hd)), fin _ _ ?_ (Same.refl _)⟩
    rw [hk]
    have e1 : inSt S n = true := decide_eq_true hn
    have e2 : min (i + 1) 2 = min i 2 + 1 := by omega
    rw [e1, e2, List.replicate_succ', List.map_append]
    rfl
  · refine ⟨L, [true, true], rfl, SqL.of hk', ?_⟩
    exact q H' (sT.trans s1)
abbrev N_are_moves : List Str := ["value", "states", "inside", "before", "move", "start", "letter", "_", "state"]
theorem sc_are_moves : FnScope ["value", "states", "inside", "before", "move", "start", "letter", "_", "state"] ["value", "states"] (defScope s_are_moves) := ⟨rfl, rfl, rfl, by decide +kernel, rfl, by decide +kernel, by decide +kernel⟩
theorem ok_aremoves {f : Addr} {fd : FuncData} (B : Bt K mg tL tM tV) (Dd : Df K mg "are_moves" s_are_moves ["value", "states"] f fd) (G_is_move : Cl P w K mg base 2 "_is_move" ["value", "inside"] spIsMove) : FnOk P w K mg base CX0 3 f fd ["value", "states"] spAreMoves := by
  refine Dd.F.ok sc_are_moves (fun vs H Q Ex h => ?_) (fun cdv A outer s H vs Q Ex hr h => ?_)
  · obtain ⟨b, a, ts, S, rfl, _⟩ := h
    rfl
  obtain ⟨b, a, ts, S, rfl, hG, hb, two, ha, q⟩ := h
  refine ⟨_, (pss_cons (ps_if (pt_not (pt_val (pe_callB call_isi rfl B.b_isinstance boot_isinstance (pa_cons (pv 0) (pa_cons (pe_bltn (v := .ty "tuple") rfl B.b_tuple boot_tuple rfl) pa_nil))))) (pss_one (ps_ret pe_bl)) pss_nil)
    (pss_cons (ps_setDc (i := 2) (own := [("state", 8)]) (g := gName 8) (tt := tYes) rfl sc_are_moves.nd rfl rfl (sw_dict rfl rfl rfl (by decide +kernel)) (pi_tup (pv 1)) (blkOk_by (N := N_are_moves) (sc := defScope s_are_moves) (by decide +kernel)) (fun _ _ _ _ _ => pg_name (i := 8) sc_are_moves.nd rfl (Or.inl rfl)) (fun _ _ _ _ _ => pts_nil) (fun _ _ _ _ _ => (pv 8)) (fun _ _ _ _ _ => pe_bl))
    (pss_cons (ps_set (i := 3) sc_are_moves.nd rfl (Or.inl rfl) pe_non)
    (pss_cons (ps_for PassesOwn.never rfl (pi_tup (pv 0)) (pg_name (i := 4) sc_are_moves.nd rfl (Or.inl rfl)) (pss_cons (ps_if (pt_not (pt_val (pe_cl G_is_move (hr.mono (by omega)) rfl (pa_cons (pv 4) (pa_cons (pv 2) pa_nil))))) (pss_one (ps_ret pe_bl)) pss_nil)
    (pss_cons (ps_asg (pv 4) (pg_tup rfl (pgs_cons (pg_name (i := 5) sc_are_moves.nd rfl (Or.inl rfl)) (pgs_cons (pg_name (i := 6) sc_are_moves.nd rfl (Or.inl rfl)) (pgs_cons (pg_name (i := 7) sc_are_moves.nd rfl (Or.inl rfl)) pgs_nil)))))
    (pss_cons (ps_if (PW.pt (pw_and (pt_cmpR op_notN (pv 3) pe_non (nomark _)) (pw_and1 (pt_cmpR (op_leMix (u0 hr)) (pe_tup (pa_cons (pv 5) (pa_cons (pv 6) pa_nil))) (pv 3) (nomark _))))) (pss_one (ps_ret pe_bl)) pss_nil)
    (pss_one (ps_set (i := 3) sc_are_moves.nd rfl (Or.inl rfl) (pe_tup (pa_cons (pv 5) (pa_cons (pv 6) pa_nil)))))))))
    (pss_one (ps_ret pe_bl)))))), ?_⟩
  have T1 : TyX K H (.ref b) (.type "tuple") := .base (.tup hb)
  refine ⟨_, rfl, _, _, _, _, _, rfl, .ty _, T1, kit_ty (r := true) (by decide +kernel), _, rfl, iteF ?_⟩
  refine ⟨_, rfl, a, rfl, ⟨_, SqT.of ha⟩, fun D hD => ?_⟩
  refine dc_tup (K := K) (a := a) (xs := natsV S.st) (fun j H' => Same H H' ∧ ∃ kvs : List (L2.Key × V), H' D = some (.dK kvs) ∧ (∀ n : Nat, (valV kvs (Sum.inl (n : Int))).isSome = decide (n ∈ S.st.take j)) ∧ kvs.length ≤ j) ⟨same_upd hD, [], upd_same, fun n => by rfl, Nat.le_refl _⟩ (fun j H' _ h => SqT.of (h.1 _ _ ha)) (fun j x H' hx h => ?_) (fun H1 h => ?_)
  · obtain ⟨s1, kvs, hk, hv, hl⟩ := h
    obtain ⟨y, hy, rfl⟩ := natsV_getB hx
    have hj := (List.getElem?_eq_some_iff.mp hy).1
    have h40 := hG.len
    refine ⟨rfl, tyes ⟨_, rfl, kvs, Sum.inl (y : Int), rfl, hk, Nat.lt_of_le_of_lt (m := 40) (by omega) (by decide), fun b' o hb' => by rw [upd_ne (ne_of_none hb' hD)]; exact s1 _ _ hb', _, upd_same, fun n => ?_, Nat.le_trans (length_putK kvs _ _) (Nat.succ_le_succ hl)⟩⟩
    rw [valV_put, take_snoc hy]
    by_cases c : n = y
    · rw [c, if_pos rfl]
      exact (decide_eq_true (List.mem_append_right _ (List.mem_singleton.mpr rfl))).symm
    · rw [if_neg fun h => c (by have := Sum.inl.inj h; omega), hv]
      refine decide_eq_decide.mpr ⟨fun h => List.mem_append_left _ h, fun h => ?_⟩
      rcases List.mem_append.mp h with h | h
      · exact h
      · exact absurd (List.mem_singleton.mp h) c
  obtain ⟨s1, kvs, hk, hv, _⟩ := h
  rw [natsV_len, List.take_length] at hv
  have K1 : KeysAt H1 D (inSt S) := ⟨kvs, hk, hv⟩
  refine ⟨_, rfl, b, rfl, ⟨_, SqT.of (s1 _ _ hb)⟩, for_tup (K := K) (a := b) (xs := ts) (fun i σ' H' => ∃ (bv : V) (o4 o5 o6 o7 : Option V), σ' = [some (.ref b), some (.ref a), some (.ref D), some bv, o4, o5, o6, o7, none] ∧ Same H1 H' ∧ ((i = 0 ∧ bv = .non) ∨ ∃ (t : Addr) (m : Mv), bv = .ref t ∧ 0 < i ∧ S.mv[i - 1]? = some m ∧ H' t = some (.tup [.int (m.1 : Int), .str ⟨#[m.2.1]⟩]))) ?_ ?_ ?_ ?_⟩
  · exact ⟨.non, none, none, none, none, rfl, Same.refl _, .inl ⟨rfl, rfl⟩⟩
  · rintro i σ' H' hi ⟨bv, o4, o5, o6, o7, rfl, s2, _⟩
    exact SqT.of (s2 _ _ (s1 _ _ hb))
  · rintro i v σ' H2 hv2 ⟨bv, o4, o5, o6, o7, rfl, s2, hbv⟩
    obtain ⟨m, hm, hmv⟩ := two.get hv2
    have S2 := s1.trans s2
    refine ⟨_, rfl, _, rfl, v, D, m, S, rfl, hG, List.mem_of_getElem? hm, hmv.same S2, K1.same s2, fun H3 s3 => ⟨_, rfl, iteF ?_⟩⟩
    obtain ⟨t, rfl, ht⟩ := (hmv.same S2).same s3
    refine ⟨_, rfl, t, _, rfl, SqT.of ht, rfl, _, _, rfl, _, _, rfl, _, _, rfl, rfl, ?_⟩
    have next : ∀ T H4, Same H3 H4 → H4 T = none → ∃ (bv : V) (o4 o5 o6 o7 : Option V), [some (V.ref b), some (.ref a), some (.ref D), some (V.ref T), some (.ref t), some (.int (m.1 : Int)), some (.str ⟨#[m.2.1]⟩), some (.int (m.2.2 : Int)), none] = [some (.ref b), some (.ref a), some (.ref D), some bv, o4, o5, o6, o7, none] ∧ Same H1 (upd H4 T (.tup [.int (m.1 : Int), .str ⟨#[m.2.1]⟩])) ∧ ((i + 1 = 0 ∧ bv = .non) ∨ ∃ (t : Addr) (m : Mv), bv = .ref t ∧ 0 < i + 1 ∧ S.mv[i + 1 - 1]? = some m ∧ (upd H4 T (.tup [.int ((m.1 : Nat) : Int), .str ⟨#[m.2.1]⟩])) t = some (.tup [.int (m.1 : Int), .str ⟨#[m.2.1]⟩])) := fun T H4 s4 hT =>
      ⟨_, _, _, _, _, rfl, s2.trans (s3.trans (s4.trans (same_upd hT))), .inr ⟨T, m, rfl, Nat.succ_pos _, hm, upd_same⟩⟩
    rcases hbv with ⟨hi0, rfl⟩ | ⟨tb, mb, rfl, hi0, hmb, htb⟩
    · refine ⟨_, rfl, rfl, _, rfl, iteF ⟨_, rfl, _, rfl, by show 2 ≤ sizeLine; decide, fun T hT => ?_⟩⟩
      exact ⟨_, _, _, _, _, rfl, s2.trans (s3.trans (same_upd hT)), .inr ⟨T, m, rfl, Nat.succ_pos _, hm, upd_same⟩⟩
    · have hlt : mb.1 < m.1 ∨ (mb.1 = m.1 ∧ mb.2.1 < m.2.1) := by
        have h1 := (List.getElem?_eq_some_iff.mp hmb)
        have h2 := (List.getElem?_eq_some_iff.mp hm)
        have := List.pairwise_iff_getElem.mp hG.mrise (i - 1) i h1.1 h2.1 (by omega)
        rw [h1.2, h2.2] at this
        exact this
      refine ⟨_, rfl, rfl, _, rfl, iteT ⟨_, rfl, _, rfl, by show 2 ≤ sizeLine; decide, fun T0 hT0 => ?_⟩⟩
      have s4 := same_upd (o := .tup [V.int (m.1 : Int), .str ⟨#[m.2.1]⟩]) hT0
      refine ⟨_, rfl, T0, tb, _, _, _, _, rfl, rfl, SqT.of upd_same, SqT.of (s4 _ _ (s3 _ _ htb)), _, rfl, ?_⟩
      have hle : leMix (m.1 : Int) m.2.1 (mb.1 : Int) mb.2.1 = false := by
        unfold leMix
        by_cases e1 : (m.1 : Int) = (mb.1 : Int)
        · rw [if_pos e1]
          have : ¬ m.2.1 = mb.2.1 := by omega
          rw [if_neg this]
          exact decide_eq_false (by omega)
        · rw [if_neg e1]
          exact decide_eq_false (by omega)
      rw [hle]
      refine iteF ⟨_, rfl, _, rfl, by show 2 ≤ sizeLine; decide, fun T hT => ?_⟩
      exact ⟨_, _, _, _, _, rfl, s2.trans (s3.trans (s4.trans (same_upd hT))), .inr ⟨T, m, rfl, Nat.succ_pos _, hm, upd_same⟩⟩
  · rintro σ' H2 ⟨bv, o4, o5, o6, o7, rfl, s2, _⟩
    exact q H2 (s1.trans s2)
abbrev N__are_states : List Str := ["value", "before", "state"]
theorem sc__are_states : FnScope ["value", "before", "state"] ["value"] (defScope s__are_states) := ⟨rfl, rfl, rfl, by decide +kernel, rfl, by decide +kernel, by decide +kernel⟩
theorem ok_arestates {f : Addr} {fd : FuncData} (B : Bt K mg tL tM tV) (Dd : Df K mg "_are_states" s__are_states ["value"] f fd) (Gis_number : Cl P w K mg base 1 "is_number" ["value", "least", "most"] spNum) : FnOk P w K mg base CX0 2 f fd ["value"] spAreStates := by
  refine Dd.F.ok sc__are_states (fun vs H Q Ex h => ?_) (fun cdv A outer s H vs Q Ex hr h => ?_)
  · obtain ⟨a, xs, rfl, _⟩ := h
    rfl
  obtain ⟨a, xs, rfl, ha, hr1, h40, q⟩ := h
  refine ⟨_, (pss_cons (ps_if (pt_not (pt_val (pe_callB call_isi rfl B.b_isinstance boot_isinstance (pa_cons (pv 0) (pa_cons (pe_bltn (v := .ty "tuple") rfl B.b_tuple boot_tuple rfl) pa_nil))))) (pss_one (ps_ret pe_bl)) pss_nil)
    (pss_cons (ps_set (i := 1) sc__are_states.nd rfl (Or.inl rfl) (pe_un un_neg pe_int))
    (pss_cons (ps_for PassesOwn.never rfl (pi_tup (pv 0)) (pg_name (i := 2) sc__are_states.nd rfl (Or.inl rfl)) (pss_cons (ps_if (pt_not (pt_val (pe_cl Gis_number (hr.mono (by omega)) rfl (pa_cons (pv 2) (pa_cons (pe_op op_add (pv 1) pe_int) (pa_cons (pe_op op_sub (pe_glob (v := .int 40) rfl B.g_MOST_STATES ⟨_, rfl⟩) pe_int) pa_nil)))))) (pss_one (ps_ret pe_bl)) pss_nil)
    (pss_one (ps_set (i := 1) sc__are_states.nd rfl (Or.inl rfl) (pv 2)))))
    (pss_one (ps_ret pe_bl))))), ?_⟩
  have T1 : TyX K H (.ref a) (.type "tuple") := .base (.tup ha)
  refine ⟨_, rfl, _, _, _, _, _, rfl, .ty _, T1, kit_ty (r := true) (by decide +kernel), _, rfl, iteF ?_⟩
  refine ⟨_, rfl, _, rfl, a, rfl, ⟨_, SqT.of ha⟩, for_tup (K := K) (a := a) (xs := natsV xs) (fun i σ' H' => ∃ (b : Int) (o2 : Option V), σ' = [some (.ref a), some (.int b), o2] ∧ H' = H ∧ ((i = 0 ∧ b = -1) ∨ (0 < i ∧ ∃ x : Nat, xs[i - 1]? = some x ∧ b = x))) ?_ ?_ ?_ ?_⟩
  · exact ⟨-1, none, rfl, rfl, .inl ⟨rfl, rfl⟩⟩
  · rintro i σ' H' hi ⟨b, o2, rfl, rfl, _⟩
    exact SqT.of ha
  · rintro i v σ' H' hv ⟨b, o2, rfl, rfl, hb⟩
    obtain ⟨y, hy, rfl⟩ := natsV_getB hv
    have hlt : b + 1 ≤ (y : Int) := by
      rcases hb with ⟨_, rfl⟩ | ⟨hi, x, hx, rfl⟩
      · omega
      · have h1 := (List.getElem?_eq_some_iff.mp hx)
        have h2 := (List.getElem?_eq_some_iff.mp hy)
        have := List.pairwise_iff_getElem.mp hr1 (i - 1) i h1.1 h2.1 (by omega)
        rw [h1.2, h2.2] at this
        omega
    have hy40 := h40 y (List.mem_of_getElem? hy)
    refine ⟨_, rfl, _, rfl, _, _, rfl, rfl, _, _, rfl, rfl, (y : Int), b + 1, 39, rfl, _, rfl, ?_⟩
    rw [decide_eq_true (show b + 1 ≤ (y : Int) ∧ (y : Int) ≤ 39 by omega)]
    exact iteF ⟨_, rfl, (y : Int), _, rfl, rfl, .inr ⟨Nat.succ_pos _, y, hy, rfl⟩⟩
  · rintro σ' H' ⟨b, o2, rfl, rfl, _⟩
    exact q
abbrev N_is_system : List Str := ["value", "states", "moves", "accepting", "state"]
theorem sc_is_system : FnScope ["value", "states", "moves", "accepting", "state"] ["value"] (defScope s_is_system) := ⟨rfl, rfl, rfl, by decide +kernel, rfl, by decide +kernel, by decide +kernel⟩
theorem ok_issystem {f : Addr} {fd : FuncData} (B : Bt K mg tL tM tV) (Dd : Df K mg "is_system" s_is_system ["value"] f fd) (G_are_states : Cl P w K mg base 2 "_are_states" ["value"] spAreStates) (Gare_moves : Cl P w K mg base 3 "are_moves" ["value", "states"] spAreMoves) : FnOk P w K mg base CX0 4 f fd ["value"] spIsSys := by
  refine Dd.F.ok sc_is_system (fun vs H Q Ex h => ?_) (fun cdv A outer s H vs Q Ex hr h => ?_)
  · obtain ⟨p, S, rfl, _⟩ := h
    rfl
  obtain ⟨p, S, rfl, hS, hG, q⟩ := h
  refine ⟨_, (pss_cons (ps_if (PW.pt (pw_or (pt_not (pt_val (pe_callB call_isi rfl B.b_isinstance boot_isinstance (pa_cons (pv 0) (pa_cons (pe_bltn (v := .ty "tuple") rfl B.b_tuple boot_tuple rfl) pa_nil))))) (pw_or1 (pt_cmpR op_ne (pe_callB call_len rfl B.b_len boot_len (pa_cons (pv 0) pa_nil)) pe_int (nomark _))))) (pss_one (ps_ret pe_bl)) pss_nil)
    (pss_cons (ps_asg (pv 0) (pg_tup rfl (pgs_cons (pg_name (i := 1) sc_is_system.nd rfl (Or.inr rfl)) (pgs_cons (pg_name (i := 2) sc_is_system.nd rfl (Or.inl rfl)) (pgs_cons (pg_name (i := 3) sc_is_system.nd rfl (Or.inl rfl)) pgs_nil)))))
    (pss_cons (ps_if (PW.pt (pw_or (pt_not (pt_val (pe_cl G_are_states (hr.mono (by omega)) rfl (pa_cons (pv 1) pa_nil)))) (pw_or (pt_cmpR (op_eqD (u64 hr)) (pv 1) (pe_tup pa_nil) (nomark _)) (pw_or1 (pt_not (pt_val (pe_cl G_are_states (hr.mono (by omega)) rfl (pa_cons (pv 3) pa_nil)))))))) (pss_one (ps_ret pe_bl)) pss_nil)
    (pss_one (ps_ret (pe_and (pe_callB (cr_all rfl) rfl B.b_all boot_all (pa_cons (pe_lc (own := [("state", 4)]) (g := gName 4) (tt := tYes) rfl sc_is_system.nd (pi_tup (pv 3)) (blkOk_by (N := N_is_system) (sc := defScope s_is_system) (by decide +kernel)) (fun _ _ _ _ _ => pg_name (i := 4) sc_is_system.nd rfl (Or.inl rfl)) (fun _ _ _ _ _ => pts_nil) (fun _ _ _ _ _ => (pe_cmpR (r := rInB K) (op_in_seqB rfl) (pv 4) (pv 1) rfl))) pa_nil)) (pe_one (pe_cl Gare_moves (hr.mono (by omega)) rfl (pa_cons (pv 2) (pa_cons (pv 1) pa_nil)))))))))), ?_⟩
  obtain ⟨a, b, c, ts, h1, h2, h3, h4, h5⟩ := hS.ex
  have T1 : TyX K H (.ref p) (.type "tuple") := .base (.tup h1)
  refine ⟨_, rfl, _, _, _, _, _, rfl, .ty _, T1, kit_ty (r := true) (by decide +kernel), _, rfl, iteF ?_⟩
  refine ⟨_, rfl, _, 3, rfl, .inr ⟨_, SqT.of h1, rfl⟩, rfl, _, rfl, iteF ?_⟩
  refine ⟨_, rfl, p, _, rfl, SqT.of h1, rfl, _, _, rfl, _, _, rfl, _, _, rfl, rfl, ?_⟩
  refine ⟨_, rfl, a, S.st, rfl, h2, hG.rise, hG.lt, _, rfl, iteF ?_⟩
  refine ⟨_, rfl, Nat.zero_le _, fun T0 hT0 => ?_⟩
  have s0 := same_upd (o := .tup []) hT0
  refine ⟨.tuple (psd S.st), .tuple [], .tup (SqT.of (s0 _ _ h2)) (dpAll_ints _), .tup (SqT.of upd_same) .nil, tup_shaped _, tup_shaped [], _, rfl, ?_⟩
  have ne : PyData.eqv (.tuple (psd S.st)) (.tuple []) = false := ne_nil_dp hG.ne
  rw [ne]
  refine iteF ?_
  refine ⟨_, rfl, c, S.ac, rfl, s0 _ _ h5, hG.arise, fun x hx => hG.lt x (hG.asub x hx), _, rfl, iteF ?_⟩
  refine ⟨_, rfl, c, rfl, ⟨_, SqT.of (s0 _ _ h5)⟩, fun L hL => ?_⟩
  have h40 := hG.alen
  refine lc_tupR (K := K) (a := c) (xs := natsV S.ac) (fun i => (List.replicate (min i S.ac.length) true).map V.bl) (by rw [Nat.zero_min]; rfl) (fun i => by rw [List.length_map, List.length_replicate]; omega) hL (SqT.of (s0 _ _ h5)) (fun i x H' hx s1 fin _ => ?_) (fun H' s1 hk' => ?_)
  · obtain ⟨y, hy, rfl⟩ := natsV_getB hx
    have hi := (List.getElem?_eq_some_iff.mp hy).1
    refine ⟨rfl, tyes ⟨_, rfl, _, rfl, a, _, rfl, .inr (SqT.of (s1 _ _ (s0 _ _ h2))), rfl, flat_nats _, fin _ _ ?_ (Same.refl _)⟩⟩
    have e2 : min (i + 1) S.ac.length = min i S.ac.length + 1 := by omega
    have e3 : inV (V.int (y : Int)) (natsV S.st) = true := by
      rw [in_nats]
      exact decide_eq_true (hG.asub y (List.mem_of_getElem? hy))
    rw [e2, List.replicate_succ', List.map_append]
    show _ = _ ++ [V.bl (inV (V.int (y : Int)) (natsV S.st))]
    rw [e3]
    rfl
  · refine ⟨L, _, rfl, SqL.of hk', _, rfl, ?_⟩
    have e4 : (List.replicate (min (natsV S.ac).length S.ac.length) true).all id = true := by
      rw [List.all_eq_true]
      intro x hx
      rw [List.eq_of_mem_replicate hx]
      rfl
    rw [e4]
    refine iteT ⟨_, rfl, _, rfl, b, a, ts, S, rfl, hG, s1 _ _ (s0 _ _ h3), h4.mono fun _ _ => MoveAt.same (s0.trans s1), s1 _ _ (s0 _ _ h2), fun H2 s2 => q H2 (s0.trans (s1.trans s2))⟩
abbrev N_check_system : List Str := ["value"]
theorem sc_check_system : FnScope ["value"] ["value"] (defScope s_check_system) := ⟨rfl, rfl, rfl, by decide +kernel, rfl, by decide +kernel, by decide +kernel⟩
theorem ok_checksystem {f : Addr} {fd : FuncData} (B : Bt K mg tL tM tV) (Dd : Df K mg "check_system" s_check_system ["value"] f fd) (Gis_system : Cl P w K mg base 4 "is_system" ["value"] spIsSys) : FnOk P w K mg base CX0 5 f fd ["value"] spChkSys := by
  refine Dd.F.ok sc_check_system (fun vs H Q Ex h => ?_) (fun cdv A outer s H vs Q Ex hr h => ?_)
  · obtain ⟨p, S, rfl, _⟩ := h
    rfl
  obtain ⟨p, S, rfl, hS, hG, q⟩ := h
  refine ⟨_, (pss_one (ps_if (pt_not (pt_val (pe_cl Gis_system (hr.mono (by omega)) rfl (pa_cons (pv 0) pa_nil)))) (pss_one ps_never) pss_nil)), ?_⟩
  exact ⟨_, rfl, p, S, rfl, hS, hG, fun H1 s1 => ⟨_, rfl, iteF (q H1 s1)⟩⟩
abbrev N_is_state : List Str := ["system", "value"]
theorem sc_is_state : FnScope ["system", "value"] ["system", "value"] (defScope s_is_state) := ⟨rfl, rfl, rfl, by decide +kernel, rfl, by decide +kernel, by decide +kernel⟩
theorem ok_isstate {f : Addr} {fd : FuncData} (B : Bt K mg tL tM tV) (Dd : Df K mg "is_state" s_is_state ["system", "value"] f fd) (Gis_number : Cl P w K mg base 1 "is_number" ["value", "least", "most"] spNum) : FnOk P w K mg base CX0 2 f fd ["system", "value"] spIsState := by
  refine Dd.F.ok sc_is_state (fun vs H Q Ex h => ?_) (fun cdv A outer s H vs Q Ex hr h => ?_)
  · obtain ⟨p, S, s, rfl, _⟩ := h
    rfl
  obtain ⟨p, S, s, rfl, hS, hG, hs, q⟩ := h
  refine ⟨_, (pss_one (ps_ret (pe_and (pe_cl Gis_number (hr.mono (by omega)) rfl (pa_cons (pv 1) (pa_cons pe_int (pa_cons (pe_op op_sub (pe_glob (v := .int 40) rfl B.g_MOST_STATES ⟨_, rfl⟩) pe_int) pa_nil)))) (pe_one (pe_cmpR (r := rInB K) (op_in_seqB rfl) (pv 1) (pe_ix (r := rIxT K) ix_tup (pv 0) pe_int (fun _ _ => rfl)) rfl))))), ?_⟩
  obtain ⟨a, b, c, ts, h1, h2, h3, h4, h5⟩ := hS.ex
  have h40 := hG.lt s hs
  refine ⟨_, rfl, _, _, rfl, rfl, (s : Int), 0, 39, rfl, _, rfl, ?_⟩
  rw [decide_eq_true (show (0 : Int) ≤ (s : Int) ∧ (s : Int) ≤ 39 by omega)]
  refine iteT ⟨_, rfl, _, rfl, p, _, 0, _, rfl, rfl, SqT.of h1, at_zero, a, _, rfl, .inr (SqT.of h2), rfl, flat_nats _, ?_⟩
  have e3 : inV (V.int (s : Int)) (natsV S.st) = true := by
    rw [in_nats]
    exact decide_eq_true hs
  show Q (V.bl (inV (V.int (s : Int)) (natsV S.st))) _
  rw [e3]
  exact q
end
end My
namespace My
open PySem PySem.Spec PyProof.Rows L2
structure EndsAt (H : Hp) (D : Addr) (S : Sy) : Prop where
  ex : ∃ kvs : List (L2.Key × V), H D = some (.dK kvs) ∧ ∀ s ∈ S.st, ∃ l, valV kvs (Sum.inl (s : Int)) = some (.ref l) ∧ H l = some (.lst (natsV (endsL S s)))
theorem EndsAt.same {H H' : Hp} {D : Addr} {S : Sy} (k : Same H H') (h : EndsAt H D S) : EndsAt H' D S := by
  obtain ⟨kvs, h1, h2⟩ := h.ex
  refine ⟨kvs, k _ _ h1, fun s hs => ?_⟩
  obtain ⟨l, e1, e2⟩ := h2 s hs
  exact ⟨l, e1, k _ _ e2⟩
def spEnds : Sp := fun vs H Q _ => ∃ (p : Addr) (S : Sy), vs = [.ref p] ∧ SysAt H p S ∧ Good S ∧ ∀ (D : Addr) H', Same H H' → EndsAt H' D S → Q (.ref D) H'
def RKeys (H : Hp) (F : Addr) (S : Sy) (s : Nat) : Prop := ∃ (kvs : List (L2.Key × V)) (fs : List Nat), H F = some (.dK kvs) ∧ kvs.map (·.1) = (fs.map fun (n : Nat) => (n : Int)).map Sum.inl ∧ fs.Nodup ∧ ∀ n, n ∈ fs ↔ Rch S s n
def spReached : Sp := fun vs H Q _ => ∃ (D : Addr) (S : Sy) (s : Nat), vs = [.ref D, .int s] ∧ EndsAt H D S ∧ Good S ∧ s ∈ S.st ∧ ∀ (F : Addr) H', (H F = none ∧ RKeys H' F S s) → Same H H' → KeysAt H' F (fun n => dec (Rch S s n)) → Q (.ref F) H'
theorem mem_ends {S : Sy} {s t : Nat} : t ∈ endsL S s ↔ ∃ m ∈ S.mv, m.1 = s ∧ m.2.2 = t := by
  unfold endsL
  rw [List.mem_map]
  constructor
  · rintro ⟨m, hm, rfl⟩
    obtain ⟨h1, h2⟩ := List.mem_filter.mp hm
    exact ⟨m, h1, of_decide_eq_true h2, rfl⟩
  · rintro ⟨m, h1, h2, rfl⟩
    exact ⟨m, List.mem_filter.mpr ⟨h1, decide_eq_true h2⟩, rfl⟩
theorem ends_len {S : Sy} (G : Good S) (s : Nat) : (endsL S s).length ≤ 1000 := by
  unfold endsL
  rw [List.length_map]
  exact Nat.le_trans (List.length_filter_le _ _) G.ml
/-- what stands while states are reached -/
structure RInv (S : Sy) (s0 : Nat) (H : Hp) (F W : Addr) (H' : Hp) (fs ws : List Nat) (kvs : List (L2.Key × V)) : Prop where
  same : Same H H'
  hF : H' F = some (.dK kvs)
  keys : ∀ n : Nat, (valV kvs (Sum.inl (n : Int))).isSome = decide (n ∈ fs)
  kk : kvs.map (·.1) = (fs.map fun (n : Nat) => (n : Int)).map Sum.inl
  hW : H' W = some (.lst (natsV ws))
  nd : fs.Nodup
  fok : ∀ f ∈ fs, f ∈ S.st ∧ Rch S s0 f
  wsub : ∀ x ∈ ws, x ∈ fs
  s0f : s0 ∈ fs
section
variable {P : Program} {w : World} {K : PySem.W.Frag} {mg : Str → Option Value} {base : Heap} {tL tM tV : Tok}
abbrev N__ends_by_state : List Str := ["system", "states", "moves", "_", "ends", "start", "end", "state"]
theorem sc__ends_by_state : FnScope ["system", "states", "moves", "_", "ends", "start", "end", "state"] ["system"] (defScope s__ends_by_state) := ⟨rfl, rfl, rfl, by decide +kernel, rfl, by decide +kernel, by decide +kernel⟩
set_option maxHeartbeats 1000000 in
theorem ok_endsby {f : Addr} {fd : FuncData} (B : Bt K mg tL tM tV) (Dd : Df K mg "_ends_by_state" s__ends_by_state ["system"] f fd) : FnOk P w K mg base CX0 1 f fd ["system"] spEnds := by
  refine Dd.F.ok sc__ends_by_state (fun vs H Q Ex h => ?_) (fun cdv A outer s H vs Q Ex hr h => ?_)
  · obtain ⟨p, S, rfl, _⟩ := h
    rfl
  obtain ⟨p, S, rfl, hS, hG, q⟩ := h
  refine ⟨_, (pss_cons (ps_asg (pv 0) (pg_tup rfl (pgs_cons (pg_name (i := 1) sc__ends_by_state.nd rfl (Or.inl rfl)) (pgs_cons (pg_name (i := 2) sc__ends_by_state.nd rfl (Or.inl rfl)) (pgs_cons (pg_name (i := 3) sc__ends_by_state.nd rfl (Or.inl rfl)) pgs_nil)))))
    (pss_cons (ps_setDc (i := 4) (own := [("state", 7)]) (g := gName 7) (tt := tYes) rfl sc__ends_by_state.nd rfl rfl (sw_dict rfl rfl rfl (by decide +kernel)) (pi_tup (pv 1)) (blkOk_by (N := N__ends_by_state) (sc := defScope s__ends_by_state) (by decide +kernel)) (fun _ _ _ _ _ => pg_name (i := 7) sc__ends_by_state.nd rfl (Or.inl rfl)) (fun _ _ _ _ _ => pts_nil) (fun _ _ _ _ _ => (pv 7)) (fun _ _ _ _ _ => (pe_lst pa_nil)))
    (pss_cons (ps_for PassesOwn.never rfl (pi_tup (pv 2)) (pg_tup rfl (pgs_cons (pg_name (i := 5) sc__ends_by_state.nd rfl (Or.inl rfl)) (pgs_cons (pg_name (i := 3) sc__ends_by_state.nd rfl (Or.inl rfl)) (pgs_cons (pg_name (i := 6) sc__ends_by_state.nd rfl (Or.inl rfl)) pgs_nil)))) (pss_one (ps_expr (pe_bm PySem.F.plainAttrs_list PySem.F.slot_list_append PySem.F.type_list_append mt_append (pe_dget (hu_of hr) (pv 4) (pv 5) (fun _ _ => rfl)) (pa_cons (pv 6) pa_nil)))))
    (pss_one (ps_ret (pv 4)))))), ?_⟩
  obtain ⟨a, b, c, ts, h1, h2, h3, h4, h5⟩ := hS.ex
  refine ⟨_, rfl, p, _, rfl, SqT.of h1, rfl, _, _, rfl, _, _, rfl, _, _, rfl, rfl, ?_⟩
  refine ⟨_, rfl, a, rfl, ⟨_, SqT.of h2⟩, fun D hD => ?_⟩
  have h40 := hG.len
  have nd : S.st.Nodup := hG.rise.imp fun h => Nat.ne_of_lt h
  refine dc_tup (K := K) (a := a) (xs := natsV S.st) (fun j H' => Same H H' ∧ ∃ (kvs : List (L2.Key × V)) (g : Nat → Addr), H' D = some (.dK kvs) ∧ (∀ n : Nat, n ∈ S.st.take j → valV kvs (Sum.inl (n : Int)) = some (.ref (g n)) ∧ H (g n) = none ∧ g n ≠ D ∧ H' (g n) = some (.lst [])) ∧ (∀ n m, n ∈ S.st.take j → m ∈ S.st.take j → g n = g m → n = m) ∧ kvs.length ≤ j) ⟨same_upd hD, [], fun _ => 0, upd_same, fun n h => (by simp at h), fun n m h => (by simp at h), Nat.le_refl _⟩ (fun j H' _ h => SqT.of (h.1 _ _ h2)) (fun j x H' hx h => ?_) (fun H1 h => ?_)
  · obtain ⟨s1, kvs, g, hk, hg, hi, hl⟩ := h
    obtain ⟨y, hy, rfl⟩ := natsV_getB hx
    have hj := (List.getElem?_eq_some_iff.mp hy).1
    have hny : y ∉ S.st.take j := fun h => by
      have nd2 : (S.st.take (j + 1)).Nodup := nd.sublist (List.take_sublist _ _)
      rw [take_snoc hy, List.nodup_append] at nd2
      exact nd2.2.2 y h y (List.mem_singleton.mpr rfl) rfl
    refine ⟨rfl, tyes ⟨_, rfl, Nat.zero_le _, fun l hl0 => ?_⟩⟩
    have s2 := same_upd (o := .lst []) hl0
    have lD : l ≠ D := (ne_of_none hk hl0).symm
    have lnew : H l = none := s1.free hl0
    refine ⟨kvs, Sum.inl (y : Int), rfl, s2 _ _ hk, Nat.lt_of_le_of_lt (m := 40) (by omega) (by decide), fun b' o hb' => by rw [upd_ne (ne_of_none hb' hD)]; exact s2 _ _ (s1 _ _ hb'), _, fun n => if n = y then l else g n, upd_same, fun n hn => ?_, fun n m hn hm e => ?_, Nat.le_trans (length_putK kvs _ _) (Nat.succ_le_succ hl)⟩
    · rw [take_snoc hy] at hn
      rw [valV_put]
      by_cases c : n = y
      · subst c
        show (if (Sum.inl (n : Int) : L2.Key) = Sum.inl (n : Int) then some (V.ref l) else _) = some (V.ref (if n = n then l else g n)) ∧ H (if n = n then l else g n) = none ∧ (if n = n then l else g n) ≠ D ∧ _
        rw [if_pos rfl, if_pos rfl]
        exact ⟨rfl, lnew, lD, by show (upd (upd H' l (.lst [])) D _) (if n = n then l else g n) = _; rw [if_pos rfl, upd_ne lD]; exact upd_same⟩
      · have hn' : n ∈ S.st.take j := by
          rcases List.mem_append.mp hn with h | h
          · exact h
          · exact absurd (List.mem_singleton.mp h) c
        obtain ⟨e1, e2, e3, e4⟩ := hg n hn'
        show (if (Sum.inl (n : Int) : L2.Key) = Sum.inl (y : Int) then some (V.ref l) else _) = some (V.ref (if n = y then l else g n)) ∧ H (if n = y then l else g n) = none ∧ (if n = y then l else g n) ≠ D ∧ _
        rw [if_neg fun h => c (by have := Sum.inl.inj h; omega), if_neg c]
        exact ⟨e1, e2, e3, by show (upd (upd H' l (.lst [])) D _) (if n = y then l else g n) = _; rw [if_neg c, upd_ne e3]; exact s2 _ _ e4⟩
    · rw [take_snoc hy] at hn hm
      have old : ∀ k, k ∈ S.st.take j → g k ≠ l := fun k hk2 e => by
        obtain ⟨_, _, _, e4⟩ := hg k hk2
        rw [e, hl0] at e4
        cases e4
      by_cases c : n = y
      · by_cases d : m = y
        · rw [c, d]
        · have hm' : m ∈ S.st.take j := (List.mem_append.mp hm).elim id fun h => absurd (List.mem_singleton.mp h) d
          have e : (if n = y then l else g n) = (if m = y then l else g m) := e
          rw [if_pos c, if_neg d] at e
          exact absurd e.symm (old m hm')
      · have hn' : n ∈ S.st.take j := (List.mem_append.mp hn).elim id fun h => absurd (List.mem_singleton.mp h) c
        have e : (if n = y then l else g n) = (if m = y then l else g m) := e
        rw [if_neg c] at e
        by_cases d : m = y
        · rw [if_pos d] at e
          exact absurd e (old n hn')
        · have hm' : m ∈ S.st.take j := (List.mem_append.mp hm).elim id fun h => absurd (List.mem_singleton.mp h) d
          rw [if_neg d] at e
          exact hi n m hn' hm' e
  obtain ⟨s1, kvs, g, hk, hg, hi, _⟩ := h
  rw [natsV_len, List.take_length] at hg hi
  refine ⟨_, rfl, b, rfl, ⟨_, SqT.of (s1 _ _ h3)⟩, for_tup (K := K) (a := b) (xs := ts) (fun i σ' H' => ∃ o3 o5 o6 : Option V, σ' = [some (.ref p), some (.ref a), some (.ref b), o3, some (.ref D), o5, o6, none] ∧ Same H H' ∧ H' D = some (.dK kvs) ∧ ∀ n ∈ S.st, H' (g n) = some (.lst (natsV (((S.mv.take i).filter fun m => decide (m.1 = n)).map (·.2.2))))) ?_ ?_ ?_ ?_⟩
  · exact ⟨_, none, none, rfl, s1, hk, fun n hn => (hg n hn).2.2.2⟩
  · rintro i σ' H' hi2 ⟨o3, o5, o6, rfl, s2, _⟩
    exact SqT.of (s2 _ _ h3)
  · rintro i v σ' H2 hv2 ⟨o3, o5, o6, rfl, s2, hk2, hl2⟩
    obtain ⟨m, hm, hmv⟩ := h4.get hv2
    obtain ⟨t, rfl, ht⟩ := hmv.same s2
    obtain ⟨m1, m2, _, _⟩ := hG.min m (List.mem_of_getElem? hm)
    obtain ⟨e1, e2, e3, e4⟩ := hg m.1 m1
    refine ⟨t, _, rfl, SqT.of ht, rfl, _, _, rfl, _, _, rfl, _, _, rfl, rfl, ?_⟩
    have dg : DGet H2 D (V.int (m.1 : Int)) (some (.ref (g m.1))) := by
      have := DGet.k (k := Sum.inl (m.1 : Int)) hk2
      rw [e1] at this
      exact this
    have hlm := hl2 m.1 m1
    have mlen : ((S.mv.take i).filter fun m' => decide (m'.1 = m.1)).length ≤ 1000 := Nat.le_trans (List.length_filter_le _ _) (by have := hG.ml; rw [List.length_take]; omega)
    refine ⟨_, rfl, _, rfl, D, _, rfl, dg, .inl ⟨rfl, _, SqL.of hlm⟩, _, rfl, g m.1, _, _, rfl, rfl, hlm, ?_, _, _, _, rfl, fun b' o hb' => by rw [upd_ne fun e => by rw [e, e2] at hb'; cases hb']; exact s2 _ _ hb', by rw [upd_ne e3.symm]; exact hk2, fun n hn => ?_⟩
    · rw [natsV_len, List.length_map]
      exact Nat.lt_of_le_of_lt mlen (by decide)
    · rw [take_snoc hm, List.filter_append, List.filter_cons, List.filter_nil, List.map_append]
      by_cases c : n = m.1
      · rw [c, upd_same, if_pos (decide_eq_true rfl), natsV_snoc]
        rfl
      · rw [upd_ne fun e => c (hi n m.1 hn m1 e), if_neg (by rw [decide_eq_false (Ne.symm c)]; exact Bool.false_ne_true), List.map_nil, List.append_nil]
        exact hl2 n hn
  · rintro σ' H2 ⟨o3, o5, o6, rfl, s2, hk2, hl2⟩
    refine ⟨_, rfl, q D H2 s2 ⟨kvs, hk2, fun n hn => ⟨g n, (hg n hn).1, ?_⟩⟩⟩
    have := hl2 n hn
    rw [List.take_of_length_le (by rw [h4.len]; exact Nat.le_refl _)] at this
    exact this
abbrev N__reached_from : List Str := ["ends", "state", "found", "waiting", "latest", "end"]
theorem sc__reached_from : FnScope ["ends", "state", "found", "waiting", "latest", "end"] ["ends", "state"] (defScope s__reached_from) := ⟨rfl, rfl, rfl, by decide +kernel, rfl, by decide +kernel, by decide +kernel⟩
set_option maxHeartbeats 1000000 in
theorem ok_reached {f : Addr} {fd : FuncData} (B : Bt K mg tL tM tV) (Dd : Df K mg "_reached_from" s__reached_from ["ends", "state"] f fd) : FnOk P w K mg base CX0 1 f fd ["ends", "state"] spReached := by
  refine Dd.F.ok sc__reached_from (fun vs H Q Ex h => ?_) (fun cdv A outer s H vs Q Ex hr h => ?_)
  · obtain ⟨D, S, s, rfl, _⟩ := h
    rfl
  obtain ⟨D, S, s0, rfl, hE, hG, hs, q⟩ := h
  refine ⟨_, (pss_cons (ps_set (i := 2) sc__reached_from.nd rfl (Or.inl rfl) (pe_disp (pps_cons (pv 1) pe_bl pps_nil) (by rfl) (by rfl) (fun z => by cases z) (by decide)))
    (pss_cons (ps_set (i := 3) sc__reached_from.nd rfl (Or.inl rfl) (pe_lst (pa_cons (pv 1) pa_nil)))
    (pss_cons (ps_while PassesOwn.never (pt_truth (pv 3) (by intro _; rfl)) (pss_cons (ps_set (i := 4) sc__reached_from.nd rfl (Or.inl rfl) (pe_bm0 PySem.F.plainAttrs_list PySem.F.slot_list_pop PySem.F.type_list_pop mt_pop (pv 3)))
    (pss_one (ps_for PassesOwn.never rfl (pi_list (pe_dget (hu_of hr) (pv 0) (pv 4) (fun _ _ => rfl))) (pg_name (i := 5) sc__reached_from.nd rfl (Or.inl rfl)) (pss_one (ps_if (pt_cmp (pc_dnotin (hu_of hr) (pv 5) (pv 2))) (pss_cons (ps_dput (hu_of hr) (pv 2) (pv 5) pe_bl rfl)
    (pss_one (ps_expr (pe_bm PySem.F.plainAttrs_list PySem.F.slot_list_append PySem.F.type_list_append mt_append (pv 3) (pa_cons (pv 5) pa_nil))))) pss_nil))))))
    (pss_one (ps_ret (pv 2)))))), ?_⟩
  refine fun F hF => ⟨_, rfl, upd_same, [(Sum.inl (s0 : Int), .bl true)], rfl, by show 1 ≤ 15; decide, ?_⟩
  have e0 : mergeK [] [((Sum.inl (s0 : Int) : L2.Key), V.bl true)] = [((Sum.inl (s0 : Int) : L2.Key), V.bl true)] := rfl
  rw [e0]
  refine ⟨_, rfl, by show 1 ≤ sizeLine; decide, fun W hW => ?_⟩
  have sF : Same H (upd (upd H F (.dK [])) F (.dK [((Sum.inl (s0 : Int) : L2.Key), V.bl true)])) := fun b o hb => by
    rw [upd_ne (ne_of_none hb hF), upd_ne (ne_of_none hb hF)]
    exact hb
  have hF1 : (upd (upd H F (.dK [])) F (.dK [((Sum.inl (s0 : Int) : L2.Key), V.bl true)])) F = some (.dK [((Sum.inl (s0 : Int) : L2.Key), V.bl true)]) := upd_same
  revert sF hF1 hW
  generalize (upd (upd H F (.dK [])) F (.dK [((Sum.inl (s0 : Int) : L2.Key), V.bl true)])) = H1
  intro hW sF hF1
  have hWH : H W = none := sF.free hW
  have FW : F ≠ W := ne_of_none hF1 hW
  have h40 : ∀ fs : List Nat, fs.Nodup → (∀ f ∈ fs, f ∈ S.st) → fs.length ≤ 40 := fun fs nd hf => by
    have := nodup_lenS 40 (fs.map fun (x : Nat) => (x : Int)) (by
      rw [List.nodup_iff_pairwise_ne, List.pairwise_map]
      exact nd.imp fun h => by omega) fun k hk => by
        obtain ⟨x, hx, rfl⟩ := List.mem_map.mp hk
        have := hG.lt x (hf x hx)
        omega
    rw [List.length_map] at this
    exact this
  refine ⟨fun n σ' H' => ∃ (fs ws : List Nat) (kvs : List (L2.Key × V)) (o4 o5 : Option V), σ' = [some (.ref D), some (.int s0), some (.ref F), some (.ref W), o4, o5] ∧ RInv S s0 H F W H' fs ws kvs ∧ (∀ f ∈ fs, f ∉ ws → ∀ t ∈ endsL S f, t ∈ fs) ∧ 2 * (40 - fs.length) + ws.length < n ∧ n ≤ 80, ⟨80, [s0], [s0], _, none, none, rfl, ⟨sF.trans (same_upd hW), (same_upd hW) _ _ hF1, fun n => ?_, rfl, upd_same, nodup_one _, ?_, ?_, ?_⟩, ?_, ?_⟩, ?_⟩
  · show (valV [((Sum.inl (s0 : Int) : L2.Key), V.bl true)] (Sum.inl (n : Int))).isSome = decide (n ∈ [s0])
    unfold valV
    rw [List.find?_cons]
    by_cases c : n = s0
    · have e1 : decide (((Sum.inl (s0 : Int) : L2.Key), V.bl true).fst = (Sum.inl (n : Int) : L2.Key)) = true := decide_eq_true (by rw [c])
      rw [e1, c]
      simp
    · have e1 : decide (((Sum.inl (s0 : Int) : L2.Key), V.bl true).fst = (Sum.inl (n : Int) : L2.Key)) = false := decide_eq_false fun h => c (by
        have : (Sum.inl (s0 : Int) : L2.Key) = Sum.inl (n : Int) := h
        have := Sum.inl.inj this
        omega)
      rw [e1]
      simp [c]
  · intro f hf
    rw [List.mem_singleton.mp hf]
    exact ⟨hs, .refl _⟩
  · exact fun x hx => hx
  · exact List.mem_singleton.mpr rfl
  · exact fun f hf hn => absurd hf hn
  · show 2 * (40 - 1) + 1 < 80 ∧ 80 ≤ 80
    decide
  rintro n σ' H2 ⟨fs, ws, kvs, o4, o5, rfl, I, hcl, hms, hn80⟩
  refine ⟨_, rfl, _, .inl ⟨_, SqL.of I.hW, rfl⟩, ite2 (fun c => ?_) (fun c => ?_)⟩
  · obtain ⟨ws', t, rfl⟩ : ∃ ws' t, ws = ws' ++ [t] := by
      rcases List.eq_nil_or_concat ws with h | ⟨a, b, h⟩
      · rw [h] at c
        cases c
      · exact ⟨a, b, by rw [h, List.concat_eq_append]⟩
    have hnv : natsV (ws' ++ [t]) = natsV ws' ++ [V.int (t : Int)] := (natsV_snoc ws' t).symm
    have hWn := I.hW
    rw [hnv] at hWn
    have htf : t ∈ fs := I.wsub t (List.mem_append_right _ (List.mem_singleton.mpr rfl))
    obtain ⟨hts, htr⟩ := I.fok t htf
    cases n with
    | zero => exact absurd hms (Nat.not_lt_zero _)
    | succ n =>
    rw [List.length_append, List.length_singleton] at hms
    refine ⟨fun σ2 H2 => ∃ (fs ws : List Nat) (kvs : List (L2.Key × V)) (o4 o5 : Option V), σ2 = [some (.ref D), some (.int s0), some (.ref F), some (.ref W), o4, o5] ∧ RInv S s0 H F W H2 fs ws kvs ∧ (∀ f ∈ fs, f ∉ ws → ∀ t ∈ endsL S f, t ∈ fs) ∧ 2 * (40 - fs.length) + ws.length < n ∧ n ≤ 80, fun σ2 H2 h => ⟨n, Nat.lt_succ_self n, h⟩, ?_⟩
    have hpop : (natsV ws' ++ [V.int (t : Int)])[(natsV ws' ++ [V.int (t : Int)]).length - 1]? = some (.int t) := by
      rw [List.length_append, List.length_singleton, Nat.add_sub_cancel, List.getElem?_append_right (Nat.le_refl _), Nat.sub_self]
      rfl
    have hdrop : (natsV ws' ++ [V.int (t : Int)]).dropLast = natsV ws' := List.dropLast_concat ..
    refine ⟨_, rfl, .inl ⟨rfl, _, SqL.of hWn⟩, W, _, _, rfl, rfl, hWn, hpop, ?_⟩
    rw [hdrop]
    have s3 : Same H (upd H2 W (.lst (natsV ws'))) := fun b o hb => by
      rw [upd_ne fun e => by rw [e, hWH] at hb; cases hb]
      exact I.same _ _ hb
    obtain ⟨kv0, k1, k2⟩ := hE.ex
    obtain ⟨l, l1, l2⟩ := k2 t hts
    have dg : ∀ H', Same H H' → DGet H' D (V.int (t : Int)) (some (.ref l)) := fun H' sx => by
      have := DGet.k (k := Sum.inl (t : Int)) (sx _ _ k1)
      rw [l1] at this
      exact this
    refine ⟨_, rfl, _, rfl, D, _, rfl, dg _ s3, l, rfl, ⟨_, SqL.of (s3 _ _ l2)⟩, for_list (K := K) (a := l) (xs := natsV (endsL S t)) (fun i σ' H' => ∃ (fs' ws2 : List Nat) (kvs : List (L2.Key × V)) (o5 : Option V), σ' = [some (.ref D), some (.int s0), some (.ref F), some (.ref W), some (.int t), o5] ∧ RInv S s0 H F W H' fs' ws2 kvs ∧ t ∈ fs' ∧ (∀ f ∈ fs', f ∉ ws2 → f ≠ t → ∀ t' ∈ endsL S f, t' ∈ fs') ∧ (∀ t' ∈ (endsL S t).take i, t' ∈ fs') ∧ 2 * (40 - fs'.length) + ws2.length < n) ?_ ?_ ?_ ?_⟩
    · refine ⟨fs, ws', kvs, o5, rfl, ⟨s3, by rw [upd_ne FW]; exact I.hF, I.keys, I.kk, upd_same, I.nd, I.fok, fun x hx => I.wsub x (List.mem_append_left _ hx), I.s0f⟩, htf, fun f hf hn hne t' ht' => hcl f hf (fun h => (List.mem_append.mp h).elim hn fun h => hne (List.mem_singleton.mp h)) t' ht', fun t' h => (by cases h), by omega⟩
    · rintro i σ' H' hi ⟨fs', ws2, kvs, o5, rfl, I2, _⟩
      exact SqL.of (I2.same _ _ l2)
    · rintro i v σ' H3 hv ⟨fs', ws2, kvs, o5, rfl, I2, htf', hcl', htk, hms'⟩
      obtain ⟨y, hy, rfl⟩ := natsV_getB hv
      obtain ⟨m, hm, hm1, hm2⟩ := mem_ends.mp (List.mem_of_getElem? hy)
      have hys : y ∈ S.st := by rw [← hm2]; exact (hG.min m hm).2.1
      have hyr : Rch S s0 y := by rw [← hm2]; exact .step htr hm hm1
      have tk : (endsL S t).take (i + 1) = (endsL S t).take i ++ [y] := take_snoc hy
      have fl := h40 fs' I2.nd fun f hf => (I2.fok f hf).1
      refine ⟨_, rfl, _, rfl, F, _, rfl, DGet.k (k := Sum.inl (y : Int)) I2.hF, _, rfl, ?_⟩
      rw [I2.keys]
      refine ite2 (fun c1 => ?_) (fun c1 => ?_)
      · have hyn : y ∉ fs' := fun h => by
          rw [decide_eq_true h] at c1
          cases c1
        have fl2 := h40 (fs' ++ [y]) (by
          rw [List.nodup_append]
          exact ⟨I2.nd, nodup_one _, fun a ha b hb e => hyn (by rw [← List.mem_singleton.mp hb, ← e]; exact ha)⟩) fun f hf => (List.mem_append.mp hf).elim (fun h => (I2.fok f h).1) fun h => by rw [List.mem_singleton.mp h]; exact hys
        rw [List.length_append, List.length_singleton] at fl2
        have kl : kvs.length ≤ fs'.length := by
          have := congrArg List.length I2.kk
          rw [List.length_map, List.length_map, List.length_map] at this
          omega
        have hnone : valV kvs (Sum.inl (y : Int)) = none := by
          have := I2.keys y
          rw [decide_eq_false hyn] at this
          exact Option.isNone_iff_eq_none.mp (by rw [← Option.not_isSome, this]; rfl)
        have wl : ws2.length ≤ 80 := by have := hms'; have := hn80; omega
        refine ⟨_, rfl, _, rfl, F, _, rfl, DPut.k (k := Sum.inl (y : Int)) I2.hF (Nat.lt_of_le_of_lt (m := 40) (by omega) (by decide)), ?_⟩
        have Wn : (upd H3 F (.dK (putK kvs (Sum.inl (y : Int)) (V.bl true)))) W = some (.lst (natsV ws2)) := by
          rw [upd_ne FW.symm]
          exact I2.hW
        refine ⟨_, rfl, .inl ⟨rfl, _, SqL.of Wn⟩, _, rfl, W, _, _, rfl, rfl, Wn, ?_, fs' ++ [y], ws2 ++ [y], _, _, rfl, ⟨fun b o hb => ?_, by rw [upd_ne FW]; exact upd_same, fun n => ?_, ?_, by rw [upd_same, natsV_snoc], ?_, ?_, ?_, List.mem_append_left _ I2.s0f⟩, List.mem_append_left _ htf', ?_, ?_, ?_⟩
        · rw [natsV_len]
          exact Nat.lt_of_le_of_lt (m := 80) wl (by decide)
        · rw [upd_ne (fun e => by rw [e, hWH] at hb; cases hb), upd_ne (fun e => by rw [e, hF] at hb; cases hb)]
          exact I2.same _ _ hb
        · rw [valV_put]
          by_cases c : n = y
          · rw [c, if_pos rfl]
            exact (decide_eq_true (List.mem_append_right _ (List.mem_singleton.mpr rfl))).symm
          · rw [if_neg fun h => c (by have := Sum.inl.inj h; omega), I2.keys]
            refine decide_eq_decide.mpr ⟨fun h => List.mem_append_left _ h, fun h => ?_⟩
            exact (List.mem_append.mp h).elim id fun h => absurd (List.mem_singleton.mp h) c
        · rw [putK_new _ hnone, List.map_append, I2.kk, List.map_append, List.map_append]
          rfl
        · rw [List.nodup_append]
          exact ⟨I2.nd, nodup_one _, fun a ha b hb e => hyn (by rw [← List.mem_singleton.mp hb, ← e]; exact ha)⟩
        · exact fun f hf => (List.mem_append.mp hf).elim (I2.fok f) fun h => by rw [List.mem_singleton.mp h]; exact ⟨hys, hyr⟩
        · exact fun x hx => (List.mem_append.mp hx).elim (fun h => List.mem_append_left _ (I2.wsub x h)) fun h => List.mem_append_right _ h
        · intro f hf hn hne t' ht'
          rcases List.mem_append.mp hf with h | h
          · exact List.mem_append_left _ (hcl' f h (fun h2 => hn (List.mem_append_left _ h2)) hne t' ht')
          · exact absurd (List.mem_append_right _ h) hn
        · intro t' ht'
          rw [tk] at ht'
          exact (List.mem_append.mp ht').elim (fun h => List.mem_append_left _ (htk t' h)) fun h => List.mem_append_right _ h
        · rw [List.length_append, List.length_append]
          show 2 * (40 - (fs'.length + 1)) + (ws2.length + 1) < n
          omega
      · have hyf : y ∈ fs' := by
          rcases Classical.em (y ∈ fs') with h | h
          · exact h
          · refine absurd ?_ c1
            rw [decide_eq_false h]
            rfl
        refine ⟨fs', ws2, kvs, _, rfl, I2, htf', hcl', fun t' ht' => ?_, hms'⟩
        rw [tk] at ht'
        exact (List.mem_append.mp ht').elim (htk t') fun h => by rw [List.mem_singleton.mp h]; exact hyf
    · rintro σ' H3 ⟨fs', ws2, kvs, o5, rfl, I2, htf', hcl', htk, hms'⟩
      rw [natsV_len, List.take_length] at htk
      refine ⟨fs', ws2, kvs, _, _, rfl, I2, fun f hf hn t' ht' => ?_, hms', by omega⟩
      by_cases c : f = t
      · rw [c] at ht'
        exact htk t' ht'
      · exact hcl' f hf hn c t' ht'
  · have hw0 : ws = [] := by
      cases ws with
      | nil => rfl
      | cons a b => exact absurd rfl c
    subst hw0
    have all : ∀ n, n ∈ fs ↔ Rch S s0 n := fun n => by
      refine ⟨fun h => (I.fok n h).2, fun h => ?_⟩
      exact h.closed (F := fun x => x ∈ fs) I.s0f fun m hm hf => hcl m.1 hf (fun h => by cases h) m.2.2 (mem_ends.mpr ⟨m, hm, rfl, rfl⟩)
    refine ⟨_, rfl, q F H2 ⟨hF, kvs, fs, I.hF, I.kk, I.nd, all⟩ I.same ⟨kvs, I.hF, fun n => ?_⟩⟩
    rw [I.keys, Bool.eq_iff_iff, decide_eq_true_eq, dec_iff]
    exact all n
end
end My
namespace My
open PySem PySem.Spec PyProof.Rows L2
theorem pt_truthK {X : Cx} {K : PySem.W.Frag} {a : Expr} {ta : TE} (hK : X.K = K) (ha : PE X a ta) (he : ∀ whole, isTrue a X.env whole = (do let v ← whole; standAt a.pos; holding [v] (truthy v))) : PT X a (fun σ H Q => ta σ H fun x H' => ∃ k, TruV K x H' k ∧ Q k H') := by
  subst hK
  exact pt_truth ha he
def RowsTu (H : Hp) (a : Addr) (rows : List (List Nat)) : Prop := ∃ ts : List V, H a = some (.lst ts) ∧ Two (fun t row => ∃ q, t = V.ref q ∧ H q = some (.tup (natsV row))) ts rows
theorem RowsTu.same {H H' : Hp} {a : Addr} {rows : List (List Nat)} (s : Same H H') (h : RowsTu H a rows) : RowsTu H' a rows := by
  obtain ⟨ts, h1, h2⟩ := h
  exact ⟨ts, s _ _ h1, h2.mono fun t r ⟨q, e, h⟩ => ⟨q, e, s _ _ h⟩⟩
noncomputable def orbsL (S : Sy) : List (List Nat) := (S.st.filter fun s => decide ((orbL S s).head? = some s)).map (orbL S)
def exitsL (S : Sy) (orb : List Nat) (s : Nat) : List (Nat × Nat) := (S.mv.filter fun m => decide (m.1 = s ∧ m.2.2 ∉ orb)).map fun m => (m.2.1, m.2.2)
def gatesL (S : Sy) (orb : List Nat) : List Nat := orb.filter fun s => decide (s ∈ S.ac) || !(exitsL S orb s).isEmpty
def ExitAt (H : Hp) (v : V) (x : Nat × Nat) : Prop := ∃ t, v = .ref t ∧ H t = some (.tup [.str ⟨#[x.1]⟩, .int (x.2 : Int)])
def ExitsAt (H : Hp) (t : Addr) (xs : List (Nat × Nat)) : Prop := ∃ ts, H t = some (.tup ts) ∧ Two (ExitAt H) ts xs
theorem ExitsAt.same {H H' : Hp} {t : Addr} {xs : List (Nat × Nat)} (k : Same H H') (h : ExitsAt H t xs) : ExitsAt H' t xs := by
  obtain ⟨ts, h1, h2⟩ := h
  exact ⟨ts, k _ _ h1, h2.mono fun a b ⟨t, e, h⟩ => ⟨t, e, k _ _ h⟩⟩
def ReachAt (H : Hp) (R : Addr) (S : Sy) : Prop := ∃ kvs : List (L2.Key × V), H R = some (.dK kvs) ∧ ∀ s ∈ S.st, ∃ F, valV kvs (Sum.inl (s : Int)) = some (.ref F) ∧ KeysAt H F (fun n => dec (Rch S s n))
def spOrbitsOf : Sp := fun vs H Q _ => ∃ (p : Addr) (S : Sy), vs = [.ref p] ∧ SysAt H p S ∧ Good S ∧ ∀ (R : Addr) H', Same H H' → H R = none → RowsTu H' R (orbsL S) → Q (.ref R) H'
def spOrbitAt : Sp := fun vs H Q _ => ∃ (p : Addr) (S : Sy) (s : Nat), vs = [.ref p, .int s] ∧ SysAt H p S ∧ Good S ∧ s ∈ S.st ∧ ∀ (t : Addr) H', Same H H' → H' t = some (.tup (natsV (orbL S s))) → Q (.ref t) H'
def spExitsOf : Sp := fun vs H Q _ => ∃ (p o : Addr) (S : Sy) (orb : List Nat) (s : Nat), vs = [.ref p, .ref o, .int s] ∧ SysAt H p S ∧ Good S ∧ H o = some (.tup (natsV orb)) ∧ ∀ (t : Addr) H', Same H H' → ExitsAt H' t (exitsL S orb s) → Q (.ref t) H'
def spGatesOf : Sp := fun vs H Q _ => ∃ (p o : Addr) (S : Sy) (orb : List Nat), vs = [.ref p, .ref o] ∧ SysAt H p S ∧ Good S ∧ H o = some (.tup (natsV orb)) ∧ orb.length ≤ 1000 ∧ ∀ (t : Addr) H', Same H H' → H' t = some (.tup (natsV (gatesL S orb))) → Q (.ref t) H'
def spExits : Sp := fun vs H Q _ => ∃ (p : Addr) (S : Sy) (s : Nat), vs = [.ref p, .int s] ∧ SysAt H p S ∧ Good S ∧ s ∈ S.st ∧ ∀ (t : Addr) H', Same H H' → ExitsAt H' t (exitsL S (orbL S s) s) → Q (.ref t) H'
def spGates : Sp := fun vs H Q _ => ∃ (p : Addr) (S : Sy) (s : Nat), vs = [.ref p, .int s] ∧ SysAt H p S ∧ Good S ∧ s ∈ S.st ∧ ∀ (t : Addr) H', Same H H' → H' t = some (.tup (natsV (gatesL S (orbL S s)))) → Q (.ref t) H'
theorem orb_self {S : Sy} {s : Nat} (h : s ∈ S.st) : s ∈ orbL S s := mem_orb.mpr ⟨h, .refl _, .refl _⟩
theorem orb_len {S : Sy} (G : Good S) (s : Nat) : (orbL S s).length ≤ 40 := Nat.le_trans (List.length_filter_le _ _) G.len
/-- numbers that are kept -/
def ftR (xs : List Nat) (f : Nat → Bool) (i : Nat) : List V := natsV ((xs.take i).filter f)
theorem ftR_len {xs : List Nat} {f : Nat → Bool} {m : Nat} (h : xs.length ≤ m) (i : Nat) : (ftR xs f i).length ≤ m := by
  unfold ftR
  rw [natsV_len]
  exact Nat.le_trans (List.length_filter_le _ _) (by rw [List.length_take]; omega)
theorem ftR_yes {xs : List Nat} {f : Nat → Bool} {i x : Nat} (h : xs[i]? = some x) (e : f x = true) : ftR xs f (i + 1) = ftR xs f i ++ [V.int (x : Int)] := by
  unfold ftR
  rw [take_snoc h, List.filter_append, List.filter_cons, if_pos e, List.filter_nil, natsV_snoc]
theorem ftR_no {xs : List Nat} {f : Nat → Bool} {i x : Nat} (h : xs[i]? = some x) (e : ¬ f x = true) : ftR xs f (i + 1) = ftR xs f i := by
  unfold ftR
  rw [take_snoc h, List.filter_append, List.filter_cons, if_neg e, List.filter_nil, List.append_nil]
theorem ftR_all (xs : List Nat) (f : Nat → Bool) : ftR xs f (natsV xs).length = natsV (xs.filter f) := by
  unfold ftR
  rw [natsV_len, List.take_length]
theorem dec_and {p q : Prop} : dec (p ∧ q) = (dec p && dec q) := by
  rw [Bool.eq_iff_iff, Bool.and_eq_true, dec_iff, dec_iff, dec_iff]
section
variable {P : Program} {w : World} {K : PySem.W.Frag} {mg : Str → Option Value} {base : Heap} {tL tM tV : Tok}
abbrev N_orbits_of : List Str := ["system", "ends", "reach", "found", "state", "orbit", "other"]
theorem sc_orbits_of : FnScope ["system", "ends", "reach", "found", "state", "orbit", "other"] ["system"] (defScope s_orbits_of) := ⟨rfl, rfl, rfl, by decide +kernel, rfl, by decide +kernel, by decide +kernel⟩
set_option maxHeartbeats 1000000 in
theorem ok_orbitsof {f : Addr} {fd : FuncData} (B : Bt K mg tL tM tV) (Dd : Df K mg "orbits_of" s_orbits_of ["system"] f fd) (G_ends_by_state : Cl P w K mg base 1 "_ends_by_state" ["system"] spEnds) (G_reached_from : Cl P w K mg base 1 "_reached_from" ["ends", "state"] spReached) : FnOk P w K mg base CX0 2 f fd ["system"] spOrbitsOf := by
  refine Dd.F.ok sc_orbits_of (fun vs H Q Ex h => ?_) (fun cdv A outer s H vs Q Ex hr h => ?_)
  · obtain ⟨p, S, rfl, _⟩ := h
    rfl
  obtain ⟨p, S, rfl, hS, hG, q⟩ := h
  refine ⟨_, (pss_cons (ps_set (i := 1) sc_orbits_of.nd rfl (Or.inr rfl) (pe_cl G_ends_by_state (hr.mono (by omega)) rfl (pa_cons (pv 0) pa_nil)))
    (pss_cons (ps_set (i := 2) sc_orbits_of.nd rfl (Or.inr rfl) (pe_dc (own := [("state", 4)]) (g := gName 4) (tt := tYes) rfl sc_orbits_of.nd (pi_tup (pe_ix (r := rIxT K) ix_tup (pv 0) pe_int (fun _ _ => rfl))) (blkOk_by (N := N_orbits_of) (sc := defScope s_orbits_of) (by decide +kernel)) (fun _ _ _ _ _ => pg_name (i := 4) sc_orbits_of.nd rfl (Or.inl rfl)) (fun _ _ _ _ _ => pts_nil) (fun _ _ _ _ _ => (pv 4)) (fun _ _ _ _ _ => (pe_cl G_reached_from (hr.mono (by omega)) rfl (pa_cons (pv 1) (pa_cons (pv 4) pa_nil))))))
    (pss_cons (ps_set (i := 3) sc_orbits_of.nd rfl (Or.inl rfl) (pe_lst pa_nil))
    (pss_cons (ps_for PassesOwn.never rfl (pi_tup (pe_ix (r := rIxT K) ix_tup (pv 0) pe_int (fun _ _ => rfl))) (pg_name (i := 4) sc_orbits_of.nd rfl (Or.inr rfl)) (pss_cons (ps_set (i := 5) sc_orbits_of.nd rfl (Or.inl rfl) (pe_callTy (r := rTupOf K) call_tuple_ofK rfl B.b_tuple boot_tuple (pa_cons (pe_lc (own := [("other", 6)]) (g := gName 6) rfl sc_orbits_of.nd (pi_tup (pe_ix (r := rIxT K) ix_tup (pv 0) pe_int (fun _ _ => rfl))) (blkOk_by (N := N_orbits_of) (sc := defScope s_orbits_of) (by decide +kernel)) (fun _ _ _ _ _ => pg_name (i := 6) sc_orbits_of.nd rfl (Or.inl rfl)) (fun _ _ _ _ _ => pts_one (PW.pt (pw_and (pt_cmp (pc_din (hu_of hr) (pv 6) (pe_dget (hu_of hr) (pv 2) (pv 4) (fun _ _ => rfl)))) (pw_and1 (pt_cmp (pc_din (hu_of hr) (pv 4) (pe_dget (hu_of hr) (pv 2) (pv 6) (fun _ _ => rfl)))))))) (fun _ _ _ _ _ => (pv 6))) pa_nil)))
    (pss_one (ps_if (pt_cmpR op_eq (pe_ix (r := rIxT K) ix_tup (pv 5) pe_int (fun _ _ => rfl)) (pv 4) (nomark _)) (pss_one (ps_expr (pe_bm PySem.F.plainAttrs_list PySem.F.slot_list_append PySem.F.type_list_append mt_append (pv 3) (pa_cons (pv 5) pa_nil)))) pss_nil))))
    (pss_one (ps_ret (pv 3))))))), ?_⟩
  refine ⟨_, rfl, p, S, rfl, hS, hG, fun D H1 s1 hE => ?_⟩
  have hS1 := hS.same s1
  obtain ⟨a, b, c, ts, h1, h2, h3, h4, h5⟩ := hS1.ex
  have h40 := hG.len
  refine ⟨_, rfl, p, _, 0, _, rfl, rfl, SqT.of h1, at_zero, a, rfl, ⟨_, SqT.of h2⟩, fun R hR => ?_⟩
  refine dc_tup (K := K) (a := a) (xs := natsV S.st) (fun j H' => Same H1 H' ∧ ∃ kvs : List (L2.Key × V), H' R = some (.dK kvs) ∧ (∀ s ∈ S.st.take j, ∃ F, valV kvs (Sum.inl (s : Int)) = some (.ref F) ∧ F ≠ R ∧ KeysAt H' F (fun n => dec (Rch S s n))) ∧ kvs.length ≤ j) ⟨same_upd hR, [], upd_same, fun s h => (by simp at h), Nat.le_refl _⟩ (fun j H' _ h => SqT.of (h.1 _ _ h2)) (fun j x H' hx h => ?_) (fun H2 h => ?_)
  · obtain ⟨s2, kvs, hk, hg, hl⟩ := h
    obtain ⟨y, hy, rfl⟩ := natsV_getB hx
    have hj := (List.getElem?_eq_some_iff.mp hy).1
    refine ⟨rfl, tyes ⟨_, rfl, _, rfl, _, rfl, D, S, y, rfl, hE.same s2, hG, List.mem_of_getElem? hy, fun F H3 hF00 s3 hF => ?_⟩⟩
    have hF0 := hF00.1
    have FR : F ≠ R := (ne_of_none hk hF0).symm
    have keep : ∀ F' kv, F' ≠ R → KeysAt H3 F' kv → ∀ o, KeysAt (upd H3 R o) F' kv := fun F' kv n h o => by
      obtain ⟨k2, g1, g2⟩ := h
      exact ⟨k2, by rw [upd_ne n]; exact g1, g2⟩
    refine ⟨kvs, Sum.inl (y : Int), rfl, s3 _ _ hk, Nat.lt_of_le_of_lt (m := 40) (by omega) (by decide), fun b' o hb' => by rw [upd_ne (ne_of_none hb' hR)]; exact s3 _ _ (s2 _ _ hb'), _, upd_same, fun n hn => ?_, Nat.le_trans (length_putK kvs _ _) (Nat.succ_le_succ hl)⟩
    rw [take_snoc hy] at hn
    rw [valV_put]
    by_cases c : n = y
    · rw [c, if_pos rfl]
      exact ⟨F, rfl, FR, keep F _ FR hF _⟩
    · rw [if_neg fun h => c (by have := Sum.inl.inj h; omega)]
      obtain ⟨F', e1, e2, e3⟩ := hg n ((List.mem_append.mp hn).elim id fun h => absurd (List.mem_singleton.mp h) c)
      exact ⟨F', e1, e2, keep F' _ e2 (e3.same s3) _⟩
  obtain ⟨s2, kvs, hk, hg, _⟩ := h
  rw [natsV_len, List.take_length] at hg
  have RA : ReachAt H2 R S := ⟨kvs, hk, fun s hs => by
    obtain ⟨F, e1, _, e3⟩ := hg s hs
    exact ⟨F, e1, e3⟩⟩
  refine ⟨Nat.zero_le _, fun L hL => ?_⟩
  have sL := same_upd (o := .lst []) hL
  have S2 := s1.trans s2
  have pos : ∀ i : Nat, (S.st.take i).length ≤ 40 := fun i => by rw [List.length_take]; omega
  refine ⟨_, rfl, p, _, 0, _, rfl, rfl, SqT.of (sL _ _ (s2 _ _ h1)), at_zero, a, rfl, ⟨_, SqT.of (sL _ _ (s2 _ _ h2))⟩, for_tup (K := K) (a := a) (xs := natsV S.st) (fun i σ' H' => ∃ o4 o5 : Option V, σ' = [some (.ref p), some (.ref D), some (.ref R), some (.ref L), o4, o5, none] ∧ Same H2 H' ∧ RowsTu H' L (((S.st.take i).filter fun s => decide ((orbL S s).head? = some s)).map (orbL S))) ?_ ?_ ?_ ?_⟩
  · exact ⟨none, none, rfl, sL, [], upd_same, .nil⟩
  · rintro i σ' H' hi ⟨o4, o5, rfl, s3, _⟩
    exact SqT.of (s3 _ _ (s2 _ _ h2))
  · rintro i v σ' H3 hv ⟨o4, o5, rfl, s3, ⟨rs, hrs, two⟩⟩
    obtain ⟨y, hy, rfl⟩ := natsV_getB hv
    have hys := List.mem_of_getElem? hy
    obtain ⟨kv2, g1, g2⟩ := RA
    refine ⟨_, rfl, p, _, 0, _, rfl, rfl, SqT.of (s3 _ _ (s2 _ _ h1)), at_zero, a, rfl, ⟨_, SqT.of (s3 _ _ (s2 _ _ h2))⟩, fun M hM => ?_⟩
    refine lc_tupR (K := K) (a := a) (xs := natsV S.st) (ftR S.st fun o => dec (Rch S y o ∧ Rch S o y)) rfl (ftR_len (by omega)) hM (SqT.of (s3 _ _ (s2 _ _ h2))) (fun k x H' hx s4 fin fin0 => ?_) (fun H4 s4 hk4 => ?_)
    · obtain ⟨o, ho, rfl⟩ := natsV_getB hx
      have hos := List.mem_of_getElem? ho
      obtain ⟨F1, f1, kv3, f2, f3⟩ := g2 y hys
      obtain ⟨F2, f4, kv4, f5, f6⟩ := g2 o hos
      have S4 := s3.trans s4
      have d1 : DGet H' R (V.int (y : Int)) (some (.ref F1)) := by
        have := DGet.k (k := Sum.inl (y : Int)) (S4 _ _ g1)
        rw [f1] at this
        exact this
      have d2 : DGet H' R (V.int (o : Int)) (some (.ref F2)) := by
        have := DGet.k (k := Sum.inl (o : Int)) (S4 _ _ g1)
        rw [f4] at this
        exact this
      refine ⟨rfl, _, rfl, _, rfl, _, rfl, R, _, rfl, d1, F1, _, rfl, DGet.k (k := Sum.inl (o : Int)) (S4 _ _ f2), _, rfl, ?_⟩
      rw [show (valV kv3 (Sum.inl (o : Int))).isSome = dec (Rch S y o) from f3 o]
      refine ite2 (fun c1 => ?_) (fun c1 => iteF (fin0 _ (ftR_no ho ?_) (Same.refl _)))
      · refine ⟨_, rfl, _, rfl, _, rfl, R, _, rfl, d2, F2, _, rfl, DGet.k (k := Sum.inl (y : Int)) (S4 _ _ f5), _, rfl, ?_⟩
        rw [show (valV kv4 (Sum.inl (y : Int))).isSome = dec (Rch S o y) from f6 y]
        refine ite2 (fun c2 => ?_) (fun c2 => fin0 _ (ftR_no ho ?_) (Same.refl _))
        · exact ⟨_, rfl, fin _ _ (ftR_yes ho (by rw [dec_and, c1, c2]; rfl)) (Same.refl _)⟩
        · rw [dec_and, eq_false_of_ne_true c2, Bool.and_false]
          exact Bool.false_ne_true
      · rw [dec_and, eq_false_of_ne_true c1, Bool.false_and]
        exact Bool.false_ne_true
    rw [ftR_all] at hk4
    refine ⟨M, _, rfl, .inl ⟨SqL.of hk4, fun t ht => ?_⟩⟩
    have st := same_upd (o := .tup (natsV (orbL S y))) ht
    obtain ⟨z, hz⟩ : ∃ z, (orbL S y)[0]? = some z := ⟨_, List.getElem?_eq_getElem (List.length_pos_of_mem (orb_self hys))⟩
    have hhd : (orbL S y).head? = some z := by rw [List.head?_eq_getElem?]; exact hz
    have tk := take_snoc hy
    refine ⟨_, rfl, t, _, 0, .int (z : Int), rfl, rfl, SqT.of upd_same, at_of (j := 0) rfl (natsV_getN hz), _, rfl, rfl, _, rfl, ite2 (fun c1 => ?_) (fun c1 => ?_)⟩
    · have e1 : z = y := by
        have := V.int.inj (of_decide_eq_true c1)
        omega
      have L5 := st _ _ (s4 _ _ hrs)
      have tl := two.len
      refine ⟨_, rfl, .inl ⟨rfl, _, SqL.of L5⟩, _, rfl, L, rs, _, rfl, rfl, L5, ?_, _, _, rfl, ?_, rs ++ [.ref t], upd_same, ?_⟩
      · rw [tl, List.length_map]
        exact Nat.lt_of_le_of_lt (m := 40) (Nat.le_trans (List.length_filter_le _ _) (pos i)) (by decide)
      · exact fun b' o' hb' => by rw [upd_ne (ne_of_none hb' hL)]; exact st _ _ (s4 _ _ (s3 _ _ hb'))
      · rw [tk, List.filter_append, List.filter_cons, if_pos (decide_eq_true (by rw [hhd, e1])), List.filter_nil, List.map_append]
        refine (two.mono fun v r hx => ?_).app (.cons ⟨t, rfl, ?_⟩ .nil)
        · obtain ⟨q1, e2, h⟩ := hx
          exact ⟨q1, e2, by rw [upd_ne fun e3 => by rw [e3, hrs] at h; cases h]; exact st _ _ (s4 _ _ h)⟩
        · rw [upd_ne fun e3 => by rw [e3, s4 _ _ hrs] at ht; cases ht]
          exact upd_same
    · have e1 : ¬ (orbL S y).head? = some y := fun h => c1 (by
        rw [hhd] at h
        rw [Option.some.inj h]
        exact decide_eq_true rfl)
      refine ⟨_, _, rfl, s3.trans (s4.trans st), rs, st _ _ (s4 _ _ hrs), ?_⟩
      rw [tk, List.filter_append, List.filter_cons, if_neg (by rw [decide_eq_false e1]; exact Bool.false_ne_true), List.filter_nil, List.append_nil]
      refine two.mono fun v r hx => ?_
      obtain ⟨q1, e2, h⟩ := hx
      exact ⟨q1, e2, st _ _ (s4 _ _ h)⟩
  · rintro σ' H3 ⟨o4, o5, rfl, s3, rw3⟩
    rw [natsV_len, List.take_length] at rw3
    exact ⟨_, rfl, q L H3 (S2.trans s3) (S2.free hL) rw3⟩
abbrev N_orbit_at : List Str := ["system", "state", "ends", "reach", "other"]
theorem sc_orbit_at : FnScope ["system", "state", "ends", "reach", "other"] ["system", "state"] (defScope s_orbit_at) := ⟨rfl, rfl, rfl, by decide +kernel, rfl, by decide +kernel, by decide +kernel⟩
theorem ok_orbitat {f : Addr} {fd : FuncData} (B : Bt K mg tL tM tV) (Dd : Df K mg "orbit_at" s_orbit_at ["system", "state"] f fd) (G_ends_by_state : Cl P w K mg base 1 "_ends_by_state" ["system"] spEnds) (G_reached_from : Cl P w K mg base 1 "_reached_from" ["ends", "state"] spReached) : FnOk P w K mg base CX0 2 f fd ["system", "state"] spOrbitAt := by
  refine Dd.F.ok sc_orbit_at (fun vs H Q Ex h => ?_) (fun cdv A outer s H vs Q Ex hr h => ?_)
  · obtain ⟨p, S, s, rfl, _⟩ := h
    rfl
  obtain ⟨p, S, y, rfl, hS, hG, hys, q⟩ := h
  refine ⟨_, (pss_cons (ps_set (i := 2) sc_orbit_at.nd rfl (Or.inr rfl) (pe_cl G_ends_by_state (hr.mono (by omega)) rfl (pa_cons (pv 0) pa_nil)))
    (pss_cons (ps_set (i := 3) sc_orbit_at.nd rfl (Or.inr rfl) (pe_cl G_reached_from (hr.mono (by omega)) rfl (pa_cons (pv 2) (pa_cons (pv 1) pa_nil))))
    (pss_one (ps_ret (pe_callTy (r := rTupOf K) call_tuple_ofK rfl B.b_tuple boot_tuple (pa_cons (pe_lc (own := [("other", 4)]) (g := gName 4) rfl sc_orbit_at.nd (pi_tup (pe_ix (r := rIxT K) ix_tup (pv 0) pe_int (fun _ _ => rfl))) (blkOk_by (N := N_orbit_at) (sc := defScope s_orbit_at) (by decide +kernel)) (fun _ _ _ _ _ => pg_name (i := 4) sc_orbit_at.nd rfl (Or.inl rfl)) (fun _ _ _ _ _ => pts_one (PW.pt (pw_and (pt_cmp (pc_din (hu_of hr) (pv 4) (pv 3))) (pw_and1 (pt_cmp (pc_din (hu_of hr) (pv 1) (pe_cl G_reached_from (hr.mono (by omega)) rfl (pa_cons (pv 2) (pa_cons (pv 4) pa_nil))))))))) (fun _ _ _ _ _ => (pv 4))) pa_nil)))))), ?_⟩
  refine ⟨_, rfl, p, S, rfl, hS, hG, fun D H1 s1 hE => ?_⟩
  refine ⟨_, rfl, _, rfl, D, S, y, rfl, hE, hG, hys, fun F H2 _ s2 hF => ?_⟩
  have S2 := s1.trans s2
  obtain ⟨a, b, c, ts, h1, h2, h3, h4, h5⟩ := (hS.same S2).ex
  have h40 := hG.len
  refine ⟨_, rfl, p, _, 0, _, rfl, rfl, SqT.of h1, at_zero, a, rfl, ⟨_, SqT.of h2⟩, fun M hM => ?_⟩
  refine lc_tupR (K := K) (a := a) (xs := natsV S.st) (ftR S.st fun o => dec (Rch S y o ∧ Rch S o y)) rfl (ftR_len (by omega)) hM (SqT.of h2) (fun k x H' hx s4 fin fin0 => ?_) (fun H4 s4 hk4 => ?_)
  · obtain ⟨o, ho, rfl⟩ := natsV_getB hx
    have hos := List.mem_of_getElem? ho
    obtain ⟨kv3, f2, f3⟩ := hF.same s4
    refine ⟨rfl, _, rfl, _, rfl, F, _, rfl, DGet.k (k := Sum.inl (o : Int)) f2, _, rfl, ?_⟩
    rw [show (valV kv3 (Sum.inl (o : Int))).isSome = dec (Rch S y o) from f3 o]
    refine ite2 (fun c1 => ?_) (fun c1 => iteF (fin0 _ (ftR_no ho ?_) (Same.refl _)))
    · refine ⟨_, rfl, _, rfl, _, rfl, D, S, o, rfl, (hE.same s2).same s4, hG, hos, fun F2 H5 _ s5 hF2 => ?_⟩
      obtain ⟨kv4, f5, f6⟩ := hF2
      refine ⟨F2, _, rfl, DGet.k (k := Sum.inl (y : Int)) f5, _, rfl, ?_⟩
      rw [show (valV kv4 (Sum.inl (y : Int))).isSome = dec (Rch S o y) from f6 y]
      refine ite2 (fun c2 => ?_) (fun c2 => fin0 _ (ftR_no ho ?_) s5)
      · exact ⟨_, rfl, fin _ _ (ftR_yes ho (by rw [dec_and, c1, c2]; rfl)) s5⟩
      · rw [dec_and, eq_false_of_ne_true c2, Bool.and_false]
        exact Bool.false_ne_true
    · rw [dec_and, eq_false_of_ne_true c1, Bool.false_and]
      exact Bool.false_ne_true
  rw [ftR_all] at hk4
  exact ⟨M, _, rfl, .inl ⟨SqL.of hk4, fun t ht => q t _ (S2.trans (s4.trans (same_upd ht))) upd_same⟩⟩
abbrev N_exits_of : List Str := ["system", "orbit", "state", "start", "letter", "end"]
theorem sc_exits_of : FnScope ["system", "orbit", "state", "start", "letter", "end"] ["system", "orbit", "state"] (defScope s_exits_of) := ⟨rfl, rfl, rfl, by decide +kernel, rfl, by decide +kernel, by decide +kernel⟩
theorem ok_exitsof {f : Addr} {fd : FuncData} (B : Bt K mg tL tM tV) (Dd : Df K mg "exits_of" s_exits_of ["system", "orbit", "state"] f fd) : FnOk P w K mg base CX0 1 f fd ["system", "orbit", "state"] spExitsOf := by
  refine Dd.F.ok sc_exits_of (fun vs H Q Ex h => ?_) (fun cdv A outer s H vs Q Ex hr h => ?_)
  · obtain ⟨p, o, S, orb, s, rfl, _⟩ := h
    rfl
  obtain ⟨p, o, S, orb, y, rfl, hS, hG, ho, q⟩ := h
  refine ⟨_, (pss_one (ps_ret (pe_callTy (r := rTupOf K) call_tuple_ofK rfl B.b_tuple boot_tuple (pa_cons (pe_lc (own := [("start", 3), ("letter", 4), ("end", 5)]) (g := gTup K 3 (gCons (gName 3) (gCons (gName 4) (gCons (gName 5) gNil)))) rfl sc_exits_of.nd (pi_tup (pe_ix (r := rIxT K) ix_tup (pv 0) pe_int (fun _ _ => rfl))) (blkOk_by (N := N_exits_of) (sc := defScope s_exits_of) (by decide +kernel)) (fun _ _ _ _ _ => pg_tup rfl (pgs_cons (pg_name (i := 3) sc_exits_of.nd rfl (Or.inl rfl)) (pgs_cons (pg_name (i := 4) sc_exits_of.nd rfl (Or.inl rfl)) (pgs_cons (pg_name (i := 5) sc_exits_of.nd rfl (Or.inl rfl)) pgs_nil)))) (fun _ _ _ _ _ => pts_one (PW.pt (pw_and (pt_cmpR op_eq (pv 3) (pv 2) (nomark _)) (pw_and1 (pt_cmpR (r := rNotInB K) (op_notin_seqB rfl) (pv 5) (pv 1) rfl))))) (fun _ _ _ _ _ => (pe_tup (pa_cons (pv 4) (pa_cons (pv 5) pa_nil))))) pa_nil)))), ?_⟩
  obtain ⟨a, b, c, ts, h1, h2, h3, h4, h5⟩ := hS.ex
  refine ⟨_, rfl, p, _, 1, _, rfl, rfl, SqT.of h1, at_one, b, rfl, ⟨_, SqT.of h3⟩, fun M hM => ?_⟩
  refine lc_tup (K := K) (a := b) (xs := ts) (fun i H' => Same H H' ∧ ∃ es : List V, H' M = some (.lst es) ∧ Two (ExitAt H') es (((S.mv.take i).filter fun m => decide (m.1 = y ∧ m.2.2 ∉ orb)).map fun m => (m.2.1, m.2.2))) ⟨same_upd hM, [], upd_same, .nil⟩ (fun i H' _ h => SqT.of (h.1 _ _ h3)) (fun i x H' hx h => ?_) (fun H' h => ?_)
  · obtain ⟨s1, es, hes, two⟩ := h
    obtain ⟨m, hm, hmv⟩ := h4.get hx
    obtain ⟨t, rfl, ht⟩ := hmv.same s1
    have tk := take_snoc hm
    have no : ¬ (m.1 = y ∧ m.2.2 ∉ orb) → ((S.mv.take (i + 1)).filter fun m => decide (m.1 = y ∧ m.2.2 ∉ orb)) = ((S.mv.take i).filter fun m => decide (m.1 = y ∧ m.2.2 ∉ orb)) := fun n => by
      rw [tk, List.filter_append, List.filter_cons, if_neg (by rw [decide_eq_false n]; exact Bool.false_ne_true), List.filter_nil, List.append_nil]
    have mlen : ((S.mv.take i).filter fun m => decide (m.1 = y ∧ m.2.2 ∉ orb)).length ≤ 1000 := Nat.le_trans (List.length_filter_le _ _) (by have := hG.ml; rw [List.length_take]; omega)
    refine ⟨t, _, rfl, SqT.of ht, rfl, _, _, rfl, _, _, rfl, _, _, rfl, rfl, rfl, _, rfl, _, rfl, rfl, _, rfl, ite2 (fun c1 => ?_) (fun c1 => iteF ⟨s1, es, hes, ?_⟩)⟩
    · have e1 : m.1 = y := by
        have := V.int.inj (of_decide_eq_true c1)
        omega
      refine ⟨_, rfl, _, rfl, o, _, rfl, .inr (SqT.of (s1 _ _ ho)), rfl, flat_nats _, _, rfl, ?_⟩
      show if (!inV (V.int (m.2.2 : Int)) (natsV orb)) = true then _ else _
      rw [in_nats]
      refine ite2 (fun c2 => ?_) (fun c2 => ⟨s1, es, hes, ?_⟩)
      · have e2 : m.2.2 ∉ orb := fun h => by
          rw [decide_eq_true h] at c2
          cases c2
        refine ⟨_, rfl, _, rfl, by show 2 ≤ sizeLine; decide, fun T hT => ?_⟩
        have sT := same_upd (o := .tup [V.str ⟨#[m.2.1]⟩, .int (m.2.2 : Int)]) hT
        have tl := two.len
        refine ⟨es, sT _ _ hes, ?_, fun b' o' hb' => by rw [upd_ne (ne_of_none hb' hM)]; exact sT _ _ (s1 _ _ hb'), es ++ [.ref T], upd_same, ?_⟩
        · rw [tl, List.length_map]
          exact Nat.lt_of_le_of_lt mlen (by decide)
        · rw [tk, List.filter_append, List.filter_cons, if_pos (decide_eq_true ⟨e1, e2⟩), List.filter_nil, List.map_append]
          refine (two.mono fun v r hx => ?_).app (.cons ⟨T, rfl, ?_⟩ .nil)
          · obtain ⟨q1, e2, h⟩ := hx
            exact ⟨q1, e2, by rw [upd_ne fun e3 => by rw [e3, hes] at h; cases h]; exact sT _ _ h⟩
          · rw [upd_ne fun e3 => by rw [e3, hes] at hT; cases hT]
            exact upd_same
      · rw [no fun h => c2 (by rw [decide_eq_false h.2]; rfl)]
        exact two
    · rw [no fun h => c1 (by rw [h.1]; exact decide_eq_true rfl)]
      exact two
  · obtain ⟨s1, es, hes, two⟩ := h
    rw [h4.len, List.take_length] at two
    exact ⟨M, es, rfl, .inl ⟨SqL.of hes, fun t ht => q t _ (s1.trans (same_upd ht)) ⟨es, upd_same, two.mono fun v r hx => by
      obtain ⟨q1, e2, h⟩ := hx
      exact ⟨q1, e2, (same_upd ht) _ _ h⟩⟩⟩⟩
abbrev N_gates_of : List Str := ["system", "orbit", "state"]
theorem sc_gates_of : FnScope ["system", "orbit", "state"] ["system", "orbit"] (defScope s_gates_of) := ⟨rfl, rfl, rfl, by decide +kernel, rfl, by decide +kernel, by decide +kernel⟩
theorem ok_gatesof {f : Addr} {fd : FuncData} (B : Bt K mg tL tM tV) (Dd : Df K mg "gates_of" s_gates_of ["system", "orbit"] f fd) (Gexits_of : Cl P w K mg base 1 "exits_of" ["system", "orbit", "state"] spExitsOf) : FnOk P w K mg base CX0 2 f fd ["system", "orbit"] spGatesOf := by
  refine Dd.F.ok sc_gates_of (fun vs H Q Ex h => ?_) (fun cdv A outer s H vs Q Ex hr h => ?_)
  · obtain ⟨p, o, S, orb, rfl, _⟩ := h
    rfl
  obtain ⟨p, o, S, orb, rfl, hS, hG, ho, hol, q⟩ := h
  refine ⟨_, (pss_one (ps_ret (pe_callTy (r := rTupOf K) call_tuple_ofK rfl B.b_tuple boot_tuple (pa_cons (pe_lc (own := [("state", 2)]) (g := gName 2) rfl sc_gates_of.nd (pi_tup (pv 1)) (blkOk_by (N := N_gates_of) (sc := defScope s_gates_of) (by decide +kernel)) (fun _ _ _ _ _ => pg_name (i := 2) sc_gates_of.nd rfl (Or.inl rfl)) (fun _ _ _ _ _ => pts_one (PW.pt (pw_or (pt_cmpR (r := rInB K) (op_in_seqB rfl) (pv 2) (pe_ix (r := rIxT K) ix_tup (pv 0) pe_int (fun _ _ => rfl)) rfl) (pw_or1 (pt_truthK (K := K) rfl (pe_cl Gexits_of (hr.mono (by omega)) rfl (pa_cons (pv 0) (pa_cons (pv 1) (pa_cons (pv 2) pa_nil)))) (by intro _; rfl)))))) (fun _ _ _ _ _ => (pv 2))) pa_nil)))), ?_⟩
  refine ⟨_, rfl, o, rfl, ⟨_, SqT.of ho⟩, fun M hM => ?_⟩
  refine lc_tupR (K := K) (a := o) (xs := natsV orb) (ftR orb fun s => decide (s ∈ S.ac) || !(exitsL S orb s).isEmpty) rfl (ftR_len (by omega)) hM (SqT.of ho) (fun k x H' hx s1 fin fin0 => ?_) (fun H1 s1 hk1 => ?_)
  · obtain ⟨y, hy, rfl⟩ := natsV_getB hx
    obtain ⟨a, b, c, ts, h1, h2, h3, h4, h5⟩ := (hS.same s1).ex
    refine ⟨rfl, _, rfl, _, rfl, p, _, 2, _, rfl, rfl, SqT.of h1, at_of (j := 2) rfl rfl, c, _, rfl, .inr (SqT.of h5), rfl, flat_nats _, _, rfl, ?_⟩
    show if inV (V.int (y : Int)) (natsV S.ac) = true then _ else _
    rw [in_nats]
    refine ite2 (fun c1 => iteT ⟨_, rfl, fin _ _ (ftR_yes hy (by rw [c1]; rfl)) (Same.refl _)⟩) (fun c1 => ?_)
    refine ⟨_, rfl, _, rfl, _, rfl, p, o, S, orb, y, rfl, hS.same s1, hG, s1 _ _ ho, fun t H2 s2 hx => ?_⟩
    obtain ⟨es, e1, two⟩ := hx
    have ee : es.isEmpty = (exitsL S orb y).isEmpty := by
      have := two.len
      cases es <;> cases hh : exitsL S orb y <;> simp [hh] at this ⊢
    refine ⟨_, .inr (.inl ⟨_, SqT.of e1, rfl⟩), ?_⟩
    rw [ee]
    refine ite2 (fun c2 => ⟨_, rfl, fin _ _ (ftR_yes hy (by rw [c2, Bool.or_true])) s2⟩) (fun c2 => fin0 _ (ftR_no hy ?_) s2)
    rw [eq_false_of_ne_true c1, eq_false_of_ne_true c2]
    exact Bool.false_ne_true
  rw [ftR_all] at hk1
  exact ⟨M, _, rfl, .inl ⟨SqL.of hk1, fun t ht => q t _ (s1.trans (same_upd ht)) upd_same⟩⟩
end
end My
namespace My
open PySem PySem.Spec PyProof.Rows L2
theorem for_strB {z : Str} {g : TG} {tb : TS} {D : Ends} {σ : L2.St} {H : Hp} (Pv : Nat → L2.St → Hp → Prop) (h0 : Pv 0 σ H)
    (hs : ∀ i c σ H, z.cps[i]? = some c → Pv i σ H → g (.str ⟨#[c]⟩) σ H fun σ2 H2 => tb { D with nx := Pv (i + 1), ct := Pv (i + 1), bk := D.nx } σ2 H2) (hd : ∀ σ H, Pv z.cps.size σ H → D.nx σ H) :
    ∃ W : Nat → Nat → L2.St → Hp → Prop, (∃ m, W 0 m σ H) ∧ ∀ i m σ H, W i m σ H →
      ((Its z).stop i H ∧ D.nx σ H) ∨ ((Its z).go i H ∧ ∃ N : L2.St → Hp → Prop, (∀ σ' H', N σ' H' → ∃ m', m' < m ∧ W (i + 1) m' σ' H') ∧ ∀ x H', (Its z).yld i H x H' → g x σ H' fun σ2 H2 => tb { D with nx := N, ct := N, bk := D.nx } σ2 H2) := by
  refine ⟨fun i m σ H => m = z.cps.size - i ∧ i ≤ z.cps.size ∧ Pv i σ H, ⟨z.cps.size, by simp, Nat.zero_le _, h0⟩, ?_⟩
  rintro i m σ H ⟨rfl, hi, p⟩
  by_cases hlt : i < z.cps.size
  · refine .inr ⟨hlt, Pv (i + 1), fun σ' H' p' => ⟨z.cps.size - (i + 1), by omega, rfl, hlt, p'⟩, fun x H' y => ?_⟩
    obtain ⟨rfl, c, hc, rfl⟩ := y
    exact hs i c σ _ hc p
  · have e : i = z.cps.size := by omega
    subst e
    exact .inl ⟨Nat.le_refl _, hd σ H p⟩
theorem Go.free {a p : Addr} {H H' : Hp} (g : Go a H H') (n : H' p = none) : H p = none := by
  cases c : H p with
  | none => rfl
  | some o =>
    by_cases e : p = a
    · obtain ⟨xs, h⟩ := g.st.isl
      rw [e, h] at n
      cases n
    · have := g.keep _ _ c e
      rw [n] at this
      cases this
/-- letters from a on -/
def LetZ (z : Str) : Prop := z.cps.size ≤ 4 ∧ ∀ k c, z.cps[k]? = some c → c = 97 + k
theorem letz_by {z : Str} (h : (decide (z.cps.size ≤ 4) && (List.range 4).all fun k => match z.cps.toList[k]? with | none => true | some c => decide (c = 97 + k)) = true) : LetZ z := by
  rw [Bool.and_eq_true, decide_eq_true_eq, List.all_eq_true] at h
  refine ⟨h.1, fun k c hc => ?_⟩
  have hk : k < z.cps.size := (Array.getElem?_eq_some_iff.mp hc).1
  have := h.2 k (List.mem_range.mpr (by omega))
  rw [Array.getElem?_toList, hc] at this
  exact of_decide_eq_true this
/-- moves that are made: those of the states before, and of this one the letters before -/
structure MvOk (xs : List Nat) (ms : List Mv) (n : Nat) (lim : Nat → Nat → Prop) : Prop where
  rise : ms.Pairwise (fun m n => m.1 < n.1 ∨ (m.1 = n.1 ∧ m.2.1 < n.2.1))
  min : ∀ m ∈ ms, m.1 ∈ xs ∧ m.2.2 ∈ xs ∧ 97 ≤ m.2.1 ∧ m.2.1 ≤ 100
  ln : ms.length ≤ n
  lm : ∀ m ∈ ms, lim m.1 m.2.1
theorem MvOk.snoc {xs : List Nat} {ms : List Mv} {n : Nat} {lim lim' : Nat → Nat → Prop} (h : MvOk xs ms n lim) (m : Mv) (hm : m.1 ∈ xs ∧ m.2.2 ∈ xs ∧ 97 ≤ m.2.1 ∧ m.2.1 ≤ 100) (h1 : ∀ s c, lim s c → s < m.1 ∨ (s = m.1 ∧ c < m.2.1)) (h2 : ∀ s c, lim s c → lim' s c) (h3 : lim' m.1 m.2.1) : MvOk xs (ms ++ [m]) (n + 1) lim' where
  rise := by
    rw [List.pairwise_append]
    refine ⟨h.rise, List.pairwise_singleton _ _, fun x hx y hy => ?_⟩
    rw [List.mem_singleton.mp hy]
    exact h1 _ _ (h.lm x hx)
  min := fun y hy => by
    rcases List.mem_append.mp hy with hy | hy
    · exact h.min y hy
    · rw [List.mem_singleton.mp hy]
      exact hm
  ln := by
    have := h.ln
    rw [List.length_append, List.length_singleton]
    omega
  lm := fun y hy => by
    rcases List.mem_append.mp hy with hy | hy
    · exact h2 _ _ (h.lm y hy)
    · rw [List.mem_singleton.mp hy]
      exact h3
theorem MvOk.weak {xs : List Nat} {ms : List Mv} {n n' : Nat} {lim lim' : Nat → Nat → Prop} (h : MvOk xs ms n lim) (hn : n ≤ n') (h2 : ∀ s c, lim s c → lim' s c) : MvOk xs ms n' lim' := ⟨h.rise, h.min, Nat.le_trans h.ln hn, fun m hm => h2 _ _ (h.lm m hm)⟩
def limI (x k : Nat) (s c : Nat) : Prop := s < x ∨ (s = x ∧ c < 97 + k)
def limO (xs : List Nat) (i : Nat) (s _c : Nat) : Prop := ∀ j x, i ≤ j → xs[j]? = some x → s < x
theorem pw_get {xs : List Nat} (h : xs.Pairwise (· < ·)) {i j x y : Nat} (hij : i < j) (hi : xs[i]? = some x) (hj : xs[j]? = some y) : x < y := by
  obtain ⟨h1, e1⟩ := List.getElem?_eq_some_iff.mp hi
  obtain ⟨h2, e2⟩ := List.getElem?_eq_some_iff.mp hj
  have := List.pairwise_iff_getElem.mp h i j h1 h2 hij
  rw [e1, e2] at this
  exact this
theorem atI_nats {xs : List Nat} {d : Int} {n : Nat} (hl : xs.length = n) (h0 : 0 ≤ d) (h1 : d < n) : ∃ x : Nat, atI (natsV xs) d = some (.int (x : Int)) ∧ x ∈ xs := by
  obtain ⟨v, hv, hm⟩ := at_draw (xs := natsV xs) (by rw [natsV_len]; exact hl) h0 h1
  obtain ⟨x, hx, rfl⟩ := List.mem_map.mp hm
  exact ⟨x, hv, hx⟩
def spLawSys : Sp := fun vs H Q _ => ∃ (a : Addr) (most : Nat), vs = [.ref a, .int most] ∧ Strm H a ∧ 0 < most ∧ most ≤ 6 ∧ ∀ (p : Addr) (S : Sy) H', Go a H H' → SysAt H' p S → Good S → S.st.length ≤ most → Q (.ref p) H'
section
variable {P : Program} {w : World} {K : PySem.W.Frag} {mg : Str → Option Value} {base : Heap} {tL tM tV : Tok}
abbrev N__law_system : List Str := ["stream", "most", "size", "states", "here", "turn", "letters", "full", "moves", "state", "letter", "dense", "accepting"]
theorem sc__law_system : FnScope ["stream", "most", "size", "states", "here", "turn", "letters", "full", "moves", "state", "letter", "dense", "accepting"] ["stream", "most"] (defScope s__law_system) := ⟨rfl, rfl, rfl, by decide +kernel, rfl, by decide +kernel, by decide +kernel⟩
theorem ok_system {f : Addr} {fd : FuncData} (B : Bt K mg tL tM tV) (Dd : Df K mg "_law_system" s__law_system ["stream", "most"] f fd) (G_law_next : Cl P w K mg base 1 "_law_next" ["stream", "many"] spNext) : FnOk P w K mg base CX0 2 f fd ["stream", "most"] spLawSys := by
  refine Dd.F.ok sc__law_system (fun vs H Q Ex h => ?_) (fun cdv A outer s H vs Q Ex hr h => ?_)
  · obtain ⟨a, most, rfl, _⟩ := h
    rfl
  obtain ⟨a, most, rfl, hS, hm0, hm6, q⟩ := h
  refine ⟨_, (pss_cons (ps_set (i := 2) sc__law_system.nd rfl (Or.inl rfl) (pe_op op_add pe_int (pe_cl G_law_next (hr.mono (by omega)) rfl (pa_cons (pv 0) (pa_cons (pv 1) pa_nil)))))
    (pss_cons (ps_set (i := 3) sc__law_system.nd rfl (Or.inl rfl) (pe_lst pa_nil))
    (pss_cons (ps_set (i := 4) sc__law_system.nd rfl (Or.inl rfl) (pe_cl G_law_next (hr.mono (by omega)) rfl (pa_cons (pv 0) (pa_cons pe_int pa_nil))))
    (pss_cons (ps_for PassesOwn.never rfl (pi_range1 rfl B.b_range (pa_cons (pv 2) pa_nil)) (pg_name (i := 5) sc__law_system.nd rfl (Or.inl rfl)) (pss_cons (ps_expr (pe_bm PySem.F.plainAttrs_list PySem.F.slot_list_append PySem.F.type_list_append mt_append (pv 3) (pa_cons (pv 4) pa_nil)))
    (pss_one (ps_set (i := 4) sc__law_system.nd rfl (Or.inl rfl) (pe_op op_add (pe_op op_add (pv 4) pe_int) (pe_cl G_law_next (hr.mono (by omega)) rfl (pa_cons (pv 0) (pa_cons pe_int pa_nil))))))))
    (pss_cons (ps_set (i := 6) sc__law_system.nd rfl (Or.inl rfl) (pe_ix (r := rIxL K) ix_list (pe_lst (pa_cons pe_str (pa_cons pe_str (pa_cons pe_str (pa_cons pe_str pa_nil))))) (pe_cl G_law_next (hr.mono (by omega)) rfl (pa_cons (pv 0) (pa_cons pe_int pa_nil))) (fun _ _ => rfl)))
    (pss_cons (ps_set (i := 7) sc__law_system.nd rfl (Or.inl rfl) (pe_cl G_law_next (hr.mono (by omega)) rfl (pa_cons (pv 0) (pa_cons pe_int pa_nil))))
    (pss_cons (ps_set (i := 8) sc__law_system.nd rfl (Or.inl rfl) (pe_lst pa_nil))
    (pss_cons (ps_for PassesOwn.never rfl (pi_list (pv 3)) (pg_name (i := 9) sc__law_system.nd rfl (Or.inl rfl)) (pss_one (ps_for PassesOwn.never rfl (pi_str (pv 6)) (pg_name (i := 10) sc__law_system.nd rfl (Or.inl rfl)) (pss_one (ps_if (PW.pt (pw_or (pt_cmpR op_eq (pv 7) pe_int (nomark _)) (pw_or1 (pt_cmpR op_gt (pe_cl G_law_next (hr.mono (by omega)) rfl (pa_cons (pv 0) (pa_cons pe_int pa_nil))) pe_int (nomark _))))) (pss_one (ps_expr (pe_bm PySem.F.plainAttrs_list PySem.F.slot_list_append PySem.F.type_list_append mt_append (pv 8) (pa_cons (pe_tup (pa_cons (pv 9) (pa_cons (pv 10) (pa_cons (pe_ix (r := rIxL K) ix_list (pv 3) (pe_cl G_law_next (hr.mono (by omega)) rfl (pa_cons (pv 0) (pa_cons (pv 2) pa_nil))) (fun _ _ => rfl)) pa_nil)))) pa_nil)))) pss_nil)))))
    (pss_cons (ps_set (i := 11) sc__law_system.nd rfl (Or.inr rfl) (pe_cl G_law_next (hr.mono (by omega)) rfl (pa_cons (pv 0) (pa_cons pe_int pa_nil))))
    (pss_cons (ps_set (i := 12) sc__law_system.nd rfl (Or.inl rfl) (pe_callTy (r := rTupOf K) call_tuple_ofK rfl B.b_tuple boot_tuple (pa_cons (pe_lc (own := [("state", 9)]) (g := gName 9) rfl sc__law_system.nd (pi_list (pv 3)) (blkOk_by (N := N__law_system) (sc := defScope s__law_system) (by decide +kernel)) (fun _ _ _ _ _ => pg_name (i := 9) sc__law_system.nd rfl (Or.inl rfl)) (fun _ _ _ _ _ => pts_one (pt_cmpR op_le (pe_cl G_law_next (hr.mono (by omega)) rfl (pa_cons (pv 0) (pa_cons pe_int pa_nil))) (pv 11) (nomark _))) (fun _ _ _ _ _ => (pv 9))) pa_nil)))
    (pss_one (ps_ret (pe_tup (pa_cons (pe_callTy (r := rTupOf K) call_tuple_ofK rfl B.b_tuple boot_tuple (pa_cons (pv 3) pa_nil)) (pa_cons (pe_callTy (r := rTupOf K) call_tuple_ofK rfl B.b_tuple boot_tuple (pa_cons (pv 8) pa_nil)) (pa_cons (pv 12) pa_nil)))))))))))))))), ?_⟩
  refine ⟨_, rfl, _, rfl, a, most, rfl, hS, by omega, by omega, fun d0 H1 d00 d01 g1 => ?_⟩
  refine ⟨_, _, rfl, rfl, by show 0 ≤ sizeLine; decide, fun L hL => ?_⟩
  have nL := g1.free hL
  have hLa : L ≠ a := (g1.st.ne hL).symm
  have G1 := g1.trans (Go.new (o := .lst []) g1.st hL)
  refine ⟨_, rfl, a, 3, rfl, G1.st, by decide, by decide, fun d1 H2 d10 d11 g2 => ?_⟩
  have hL2 := g2.keep _ _ (upd_same (H := H1) (a := L) (o := .lst [])) hLa
  have G2 := G1.trans g2
  refine ⟨_, rfl, _, rfl, by omega, by omega, for_range (lo := 0) (n := (1 + d0).toNat) (fun i σ' H' => ∃ (xs : List Nat) (here : Nat) (o5 : Option V), σ' = [some (.ref a), some (.int most), some (.int (1 + d0)), some (.ref L), some (.int here), o5, none, none, none, none, none, none, none] ∧ Go a H H' ∧ H' L = some (.lst (natsV xs)) ∧ xs.length = i ∧ xs.Pairwise (· < ·) ∧ (∀ x ∈ xs, x < here) ∧ here ≤ 2 + 2 * i) ?_ ?_ ?_⟩
  · exact ⟨[], d1.toNat, none, by rw [show ((d1.toNat : Nat) : Int) = d1 by omega]; rfl, G2, hL2, rfl, .nil, fun x h => by (cases h), by omega⟩
  · rintro i σ' H3 hi ⟨xs, here, o5, rfl, G3, hL3, hln, hrs, hlt, hhr⟩
    refine ⟨_, rfl, .inl ⟨rfl, _, SqL.of hL3⟩, _, rfl, L, _, _, rfl, rfl, hL3, ?_, ?_⟩
    · rw [natsV_len, hln]
      exact Nat.lt_of_le_of_lt (m := 6) (by omega) (by decide)
    have G4 := G3.loc (o := .lst (natsV xs ++ [V.int (here : Int)])) nL
    refine ⟨_, rfl, _, _, rfl, rfl, _, rfl, a, 2, rfl, G4.st, by decide, by decide, fun d H4 d0' d1' g4 => ⟨_, _, rfl, rfl, ?_⟩⟩
    have hL4 := g4.keep _ _ (upd_same (H := H3) (a := L) (o := .lst (natsV xs ++ [V.int (here : Int)]))) hLa
    rw [natsV_snoc] at hL4
    refine ⟨xs ++ [here], (here + 1 + d.toNat), some (.int (0 + (i : Nat))), ?_, G4.trans g4, hL4, ?_, ?_, ?_, ?_⟩
    · rw [show ((here + 1 + d.toNat : Nat) : Int) = (here : Int) + 1 + d by omega]
      rfl
    · rw [List.length_append, hln]
      rfl
    · rw [List.pairwise_append]
      exact ⟨hrs, List.pairwise_singleton _ _, fun x hx y hy => by rw [List.mem_singleton.mp hy]; exact hlt x hx⟩
    · intro x hx
      rcases List.mem_append.mp hx with hx | hx
      · have := hlt x hx
        omega
      · rw [List.mem_singleton.mp hx]
        omega
    · omega
  · rintro σ' H3 ⟨xs, here, o5, rfl, G3, hL3, hln, hrs, hlt, hhr⟩
    have hx40 : ∀ x ∈ xs, x < 40 := fun x hx => by
      have := hlt x hx
      omega
    refine ⟨by show 4 ≤ sizeLine; decide, fun l hl => ?_⟩
    have u1 := same_upd (o := .lst [V.str (Str.ofString "ab"), V.str (Str.ofString "abc"), V.str (Str.ofString "abcd"), V.str (Str.ofString "a")]) hl
    have hla : l ≠ a := (G3.st.ne hl).symm
    have G4 := G3.trans (Go.same G3.st u1)
    refine ⟨_, rfl, a, 4, rfl, G4.st, by decide, by decide, fun d2 H4 d20 d21 g4 => ?_⟩
    have hl4 := g4.keep _ _ (upd_same (H := H3) (a := l) (o := .lst [V.str (Str.ofString "ab"), V.str (Str.ofString "abc"), V.str (Str.ofString "abcd"), V.str (Str.ofString "a")])) hla
    obtain ⟨zv, hz, hzm⟩ := at_draw (xs := [V.str (Str.ofString "ab"), V.str (Str.ofString "abc"), V.str (Str.ofString "abcd"), V.str (Str.ofString "a")]) (n := 4) rfl d20 d21
    obtain ⟨z, rfl, hzz⟩ : ∃ z, zv = .str z ∧ LetZ z := by
      simp only [List.mem_cons, List.not_mem_nil, or_false] at hzm
      rcases hzm with rfl | rfl | rfl | rfl <;> exact ⟨_, rfl, letz_by (by decide +kernel)⟩
    refine ⟨l, _, _, _, rfl, rfl, SqL.of hl4, hz, ?_⟩
    have G5 := G4.trans g4
    refine ⟨_, rfl, a, 3, rfl, G5.st, by decide, by decide, fun d3 H5 d30 d31 g5 => ?_⟩
    have G6 := G5.trans g5
    have hL6 : H5 L = some (.lst (natsV xs)) := g5.keep _ _ (g4.keep _ _ (u1 _ _ hL3) hLa) hLa
    refine ⟨by show 0 ≤ sizeLine; decide, fun M hM => ?_⟩
    have nM := G6.free hM
    have hMa : M ≠ a := (G6.st.ne hM).symm
    have hML : M ≠ L := fun e => by rw [e, hL6] at hM; cases hM
    have G7 := G6.trans (Go.new (o := .lst []) G6.st hM)
    have lkeep : ∀ H', Go a H H' → True := fun _ _ => trivial
    refine ⟨_, rfl, L, rfl, ⟨_, SqL.of (same_upd hM _ _ hL6)⟩, for_list (K := K) (a := L) (xs := natsV xs) (fun i σ' H' => ∃ (ms : List Mv) (ts : List V) (o9 o10 : Option V), σ' = [some (.ref a), some (.int most), some (.int (1 + d0)), some (.ref L), some (.int here), o5, some (.str z), some (.int d3), some (.ref M), o9, o10, none, none] ∧ Go a H H' ∧ H' L = some (.lst (natsV xs)) ∧ H' M = some (.lst ts) ∧ Two (MoveAt H') ts ms ∧ MvOk xs ms (4 * i) (limO xs i)) ?_ ?_ ?_ ?_⟩
    · exact ⟨[], [], none, none, rfl, G7, same_upd hM _ _ hL6, upd_same, .nil, .nil, fun m h => by (cases h), Nat.zero_le _, fun m h => by (cases h)⟩
    · rintro i σ' H' _ ⟨ms, ts, o9, o10, rfl, _, h, _⟩
      exact SqL.of h
    · rintro i v σ' H7 hv ⟨ms, ts, o9, o10, rfl, G8, h1, h2, two, ok⟩
      obtain ⟨x, hx, rfl⟩ := natsV_getB hv
      refine ⟨_, rfl, z, rfl, for_strB (z := z) (fun k σ' H' => ∃ (ms : List Mv) (ts : List V) (o10 : Option V), σ' = [some (.ref a), some (.int most), some (.int (1 + d0)), some (.ref L), some (.int here), o5, some (.str z), some (.int d3), some (.ref M), some (.int (x : Int)), o10, none, none] ∧ Go a H H' ∧ H' L = some (.lst (natsV xs)) ∧ H' M = some (.lst ts) ∧ Two (MoveAt H') ts ms ∧ MvOk xs ms (4 * i + k) (limI x k)) ?_ ?_ ?_⟩
      · exact ⟨ms, ts, o10, rfl, G8, h1, h2, two, ok.weak (Nat.le_refl _) fun s c h => .inl (h i x (Nat.le_refl _) hx)⟩
      · rintro k c σ' H8 hc ⟨ms, ts, o10, rfl, G8, h1, h2, two, ok⟩
        have ec := hzz.2 k c hc
        have hk : k < z.cps.size := (Array.getElem?_eq_some_iff.mp hc).1
        have hk4 := hzz.1
        have hxs := List.mem_of_getElem? hx
        have hil : i < xs.length := (List.getElem?_eq_some_iff.mp hx).1
        have fin : ∀ (H9 H10 : Hp) (y : Nat) (T : Addr) (w : Option V), Go a H8 H9 → y ∈ xs → H9 T = none → H10 = upd H9 T (.tup [.int (x : Int), .str ⟨#[c]⟩, .int (y : Int)]) → H10 M = some (.lst ts) ∧ ts.length < sizeLine ∧ ∃ (ms' : List Mv) (ts' : List V) (o10 : Option V), [some (.ref a), some (.int most), some (.int (1 + d0)), some (.ref L), some (.int here), o5, some (.str z), some (.int d3), some (.ref M), some (.int (x : Int)), w, none, none] = [some (.ref a), some (.int most), some (.int (1 + d0)), some (.ref L), some (.int here), o5, some (.str z), some (.int d3), some (.ref M), some (.int (x : Int)), o10, none, none] ∧ Go a H (upd H10 M (.lst (ts ++ [.ref T]))) ∧ (upd H10 M (.lst (ts ++ [.ref T]))) L = some (.lst (natsV xs)) ∧ (upd H10 M (.lst (ts ++ [.ref T]))) M = some (.lst ts') ∧ Two (MoveAt (upd H10 M (.lst (ts ++ [.ref T])))) ts' ms' ∧ MvOk xs ms' (4 * i + (k + 1)) (limI x (k + 1)) := fun H9 H10 y T w g9 hy hT e10 => by
          subst e10
          have sT := same_upd (o := .tup [.int (x : Int), .str ⟨#[c]⟩, .int (y : Int)]) hT
          have m9 := g9.keep _ _ h2 hMa
          have hTM : T ≠ M := fun e => by rw [e, m9] at hT; cases hT
          refine ⟨sT _ _ m9, ?_, ms ++ [(x, c, y)], ts ++ [.ref T], w, rfl, ((G8.trans g9).trans (Go.new g9.st hT)).loc nM, ?_, upd_same, ?_, ?_⟩
          · rw [two.len]
            exact Nat.lt_of_le_of_lt (m := 1000) (by have := ok.ln; omega) (by decide)
          · rw [upd_ne hML.symm]
            exact sT _ _ (g9.keep _ _ h1 hLa)
          · refine (two.mono fun v m hv => ?_).app (.cons ⟨T, rfl, ?_⟩ .nil)
            · obtain ⟨t, e, h⟩ := hv.pers g9.pers
              exact ⟨t, e, by rw [upd_ne fun e => by rw [e, m9] at h; cases h]; exact sT _ _ h⟩
            · rw [upd_ne hTM]
              exact upd_same
          · refine ok.snoc (x, c, y) ⟨hxs, hy, by show 97 ≤ c; omega, by show c ≤ 100; omega⟩ (fun s c' h => ?_) (fun s c' h => ?_) ?_
            · rcases h with h | ⟨h, h'⟩
              · exact .inl h
              · exact .inr ⟨h, by show c' < c; omega⟩
            · rcases h with h | ⟨h, h'⟩
              · exact .inl h
              · exact .inr ⟨h, by omega⟩
            · exact .inr ⟨rfl, by show c < _; omega⟩
        have h2a := h2
        refine ⟨_, rfl, rfl, _, rfl, ite2 (fun c1 => iteT ?_) (fun c1 => ?_)⟩
        · refine ⟨_, rfl, .inl ⟨rfl, _, SqL.of h2⟩, _, rfl, _, rfl, _, rfl, _, rfl, _, rfl, a, 1 + d0, rfl, G8.st, by omega, by omega, fun d H9 d0' d1' g9 => ?_⟩
          obtain ⟨y, hy, hym⟩ := atI_nats (n := xs.length) rfl d0' (by omega)
          refine ⟨L, _, _, _, rfl, rfl, SqL.of (g9.keep _ _ h1 hLa), hy, by show 3 ≤ sizeLine; decide, fun T hT => ?_⟩
          obtain ⟨f1, f2, f3⟩ := fin H9 _ y T (some (.str ⟨#[c]⟩)) g9 hym hT rfl
          exact ⟨M, ts, _, rfl, rfl, f1, f2, f3⟩
        · refine ⟨_, rfl, a, 3, rfl, G8.st, by decide, by decide, fun d' H9 _ _ g9 => ⟨_, _, rfl, rfl, _, rfl, ite2 (fun c2 => ?_) (fun c2 => ?_)⟩⟩
          · refine ⟨_, rfl, .inl ⟨rfl, _, SqL.of (g9.keep _ _ h2 hMa)⟩, _, rfl, _, rfl, _, rfl, _, rfl, _, rfl, a, 1 + d0, rfl, g9.st, by omega, by omega, fun d H10 d0' d1' g10 => ?_⟩
            obtain ⟨y, hy, hym⟩ := atI_nats (n := xs.length) rfl d0' (by omega)
            refine ⟨L, _, _, _, rfl, rfl, SqL.of (g10.keep _ _ (g9.keep _ _ h1 hLa) hLa), hy, by show 3 ≤ sizeLine; decide, fun T hT => ?_⟩
            obtain ⟨f1, f2, f3⟩ := fin H10 _ y T (some (.str ⟨#[c]⟩)) (g9.trans g10) hym hT rfl
            exact ⟨M, ts, _, rfl, rfl, f1, f2, f3⟩
          · refine ⟨ms, ts, _, rfl, G8.trans g9, g9.keep _ _ h1 hLa, g9.keep _ _ h2 hMa, two.mono fun v m hv => hv.pers g9.pers, ok.weak (by omega) fun s c' h => ?_⟩
            rcases h with h | ⟨h, h'⟩
            · exact .inl h
            · exact .inr ⟨h, by omega⟩
      · rintro σ' H8 ⟨ms, ts, o10, rfl, G8, h1, h2, two, ok⟩
        refine ⟨ms, ts, _, _, rfl, G8, h1, h2, two, ok.weak (by have := hzz.1; omega) fun s c h j y hj hy => ?_⟩
        have := pw_get hrs (Nat.lt_of_succ_le hj) hx hy
        rcases h with h | ⟨h, _⟩ <;> omega
    · rintro σ' H7 ⟨ms, ts, o9, o10, rfl, G8, h1, h2, two, ok⟩
      rw [natsV_len] at ok
      refine ⟨_, rfl, a, 3, rfl, G8.st, by decide, by decide, fun d4 H8 d40 d41 g8 => ?_⟩
      have G9 := G8.trans g8
      have h1a := g8.keep _ _ h1 hLa
      have h2a := g8.keep _ _ h2 hMa
      have two2 := two.mono fun v m (hv : MoveAt H7 v m) => hv.pers g8.pers
      refine ⟨_, rfl, L, rfl, ⟨_, SqL.of h1a⟩, fun R hR => ?_⟩
      have nR := G9.free hR
      have hRa : R ≠ a := (G9.st.ne hR).symm
      have hRL : R ≠ L := fun e => by rw [e, h1a] at hR; cases hR
      refine lc_list (K := K) (a := L) (xs := natsV xs) (fun i H' => Go a H8 H' ∧ ∃ ys : List Nat, H' R = some (.lst (natsV ys)) ∧ ys.Pairwise (· < ·) ∧ (∀ y ∈ ys, y ∈ xs) ∧ ∀ y ∈ ys, limO xs i y 0) ⟨Go.new G9.st hR, [], upd_same, .nil, fun y h => by (cases h), fun y h => by (cases h)⟩ (fun i H' _ h => SqL.of (h.1.keep _ _ h1a hLa)) (fun i v H' hv h => ?_) (fun H' h => ?_)
      · obtain ⟨x, hx, rfl⟩ := natsV_getB hv
        obtain ⟨g10, ys, hys, r1, r2, r3⟩ := h
        have hil : i < xs.length := (List.getElem?_eq_some_iff.mp hx).1
        refine ⟨rfl, _, rfl, a, 3, rfl, g10.st, by decide, by decide, fun d H11 _ _ g11 => ⟨_, rfl, _, _, rfl, rfl, _, rfl, ite2 (fun c2 => ?_) (fun c2 => ?_)⟩⟩
        · have yl := rise_short ys 0 40 r1 fun y hy => ⟨Nat.zero_le _, hx40 y (r2 y hy)⟩
          refine ⟨_, rfl, natsV ys, g11.keep _ _ hys hRa, ?_, (g10.trans g11).loc hR, ys ++ [x], by rw [upd_same, natsV_snoc], ?_, ?_, ?_⟩
          · rw [natsV_len]
            exact Nat.lt_of_le_of_lt (m := 40) yl (by decide)
          · rw [List.pairwise_append]
            exact ⟨r1, List.pairwise_singleton _ _, fun y hy z hz => by rw [List.mem_singleton.mp hz]; exact r3 y hy i x (Nat.le_refl _) hx⟩
          · intro y hy
            rcases List.mem_append.mp hy with hy | hy
            · exact r2 y hy
            · rw [List.mem_singleton.mp hy]
              exact List.mem_of_getElem? hx
          · intro y hy j z hj hz
            rcases List.mem_append.mp hy with hy | hy
            · exact r3 y hy j z (Nat.le_of_succ_le hj) hz
            · rw [List.mem_singleton.mp hy]
              exact pw_get hrs (Nat.lt_of_succ_le hj) hx hz
        · exact ⟨g10.trans g11, ys, g11.keep _ _ hys hRa, r1, r2, fun y hy j z hj hz => r3 y hy j z (Nat.le_of_succ_le hj) hz⟩
      · obtain ⟨g10, ys, hys, r1, r2, r3⟩ := h
        refine ⟨R, _, rfl, .inl ⟨SqL.of hys, fun t3 ht3 => ?_⟩⟩
        have u3 := same_upd (o := .tup (natsV ys)) ht3
        refine ⟨_, rfl, L, _, rfl, .inl ⟨SqL.of (u3 _ _ (g10.keep _ _ h1a hLa)), fun t1 ht1 => ?_⟩⟩
        have u4 := same_upd (o := .tup (natsV xs)) ht1
        refine ⟨_, rfl, M, _, rfl, .inl ⟨SqL.of (u4 _ _ (u3 _ _ (g10.keep _ _ h2a hMa))), fun t2 ht2 => ?_⟩⟩
        have u5 := same_upd (o := .tup ts) ht2
        refine ⟨_, rfl, by show 3 ≤ sizeLine; decide, fun p hp => ?_⟩
        have u6 := same_upd (o := .tup [.ref t1, .ref t2, .ref t3]) hp
        have U := u3.trans (u4.trans (u5.trans u6))
        have two3 := (two2.mono fun v m (hv : MoveAt H8 v m) => hv.pers g10.pers).mono fun v m (hv : MoveAt H' v m) => hv.same U
        refine q p ⟨xs, ms, ys⟩ _ ((G9.trans g10).trans (Go.same g10.st U)) ⟨t1, t2, t3, ts, upd_same, u6 _ _ (u5 _ _ upd_same), u6 _ _ upd_same, two3, u6 _ _ (u5 _ _ (u4 _ _ upd_same))⟩ ⟨?_, hrs, hx40, ok.rise, ok.min, ?_, r1, r2⟩ ?_
        · intro e
          have : xs.length = 0 := by rw [show xs = [] from e]; rfl
          omega
        · have := ok.ln
          show ms.length ≤ 1000
          omega
        · show xs.length ≤ most
          omega
end
end My
namespace My
open PySem PySem.Spec PyProof.Rows L2
def rInDT (K : PySem.W.Frag) : R2 := fun x y H Q => ∃ d ds, Dp K H x d ∧ Dp K H y (.tuple ds) ∧ SeqAt.shaped d = true ∧ SeqAt.shaped (.tuple ds) = true ∧ Q (.bl (ds.any fun z => PyData.eqv z d)) H
def rNotInDT (K : PySem.W.Frag) : R2 := fun x y H Q => ∃ d ds, Dp K H x d ∧ Dp K H y (.tuple ds) ∧ SeqAt.shaped d = true ∧ SeqAt.shaped (.tuple ds) = true ∧ Q (.bl (!ds.any fun z => PyData.eqv z d)) H
theorem op_inDT {X : Cx} (hu : X.A.units + 65 < cLine) : OpR X (compareOp .In) (rInDT X.K) := by
  intro pins s σ H x y v u Q I rx ry h
  obtain ⟨d, ds, hd, he, sd, se, q⟩ := h
  obtain ⟨as, r1⟩ := Dp.reads I d x v hd rx
  obtain ⟨bs, r2⟩ := Dp.reads I (.tuple ds) y u he ry
  exact SeqAt.in_tuple_reads r2 r1 (SeqAt.canLay_of_shaped se) (SeqAt.canLay_of_shaped sd) (room_in_shaped sd hu) ⟨.bl _, H, I, rfl, q⟩
theorem op_notInDT {X : Cx} (hu : X.A.units + 65 < cLine) : OpR X (compareOp .NotIn) (rNotInDT X.K) := by
  intro pins s σ H x y v u Q I rx ry h
  obtain ⟨d, ds, hd, he, sd, se, q⟩ := h
  obtain ⟨as, r1⟩ := Dp.reads I d x v hd rx
  obtain ⟨bs, r2⟩ := Dp.reads I (.tuple ds) y u he ry
  exact SeqAt.notIn_tuple_reads r2 r1 (SeqAt.canLay_of_shaped se) (SeqAt.canLay_of_shaped sd) (room_in_shaped sd hu) ⟨.bl _, H, I, rfl, q⟩
theorem op_inDTB {X : Cx} {K : PySem.W.Frag} (hK : X.K = K) (hu : X.A.units + 65 < cLine) : OpR X (compareOp .In) (rInDT K) := by
  subst hK
  exact op_inDT hu
theorem op_notInDTB {X : Cx} {K : PySem.W.Frag} (hK : X.K = K) (hu : X.A.units + 65 < cLine) : OpR X (compareOp .NotIn) (rNotInDT K) := by
  subst hK
  exact op_notInDT hu
theorem u65 {k : Nat} {A : Around} (h : Room k A) : A.units + 65 < cLine := by
  have := h.un
  omega
/-! ### the number of an orbit -/
theorem orb_eq {S : Sy} {s t : Nat} (h1 : Rch S s t) (h2 : Rch S t s) : orbL S s = orbL S t := by
  unfold orbL
  refine List.filter_congr fun o _ => ?_
  have : (Rch S s o ∧ Rch S o s) ↔ (Rch S t o ∧ Rch S o t) := ⟨fun h => ⟨h2.trans h.1, h.2.trans h1⟩, fun h => ⟨h1.trans h.1, h.2.trans h2⟩⟩
  rw [this]
def headsL (S : Sy) (f : Nat → List Nat) : List Nat := S.st.filter fun s => decide ((f s).head? = some s)
theorem orbs_get {S : Sy} {i : Nat} {r : List Nat} (h : (orbsL S)[i]? = some r) : ∃ x, (headsL S (orbL S))[i]? = some x ∧ r = orbL S x ∧ (orbL S x).head? = some x ∧ x ∈ S.st := by
  unfold orbsL at h
  rw [List.getElem?_map] at h
  obtain ⟨x, hx, rfl⟩ := Option.map_eq_some_iff.mp h
  have := List.mem_filter.mp (List.mem_of_getElem? hx)
  exact ⟨x, hx, rfl, of_decide_eq_true this.2, this.1⟩
theorem orbs_one {S : Sy} (G : Good S) {i j s : Nat} {r r' : List Nat} (h : (orbsL S)[i]? = some r) (h' : (orbsL S)[j]? = some r') (hs : s ∈ r) (hs' : s ∈ r') : i = j := by
  obtain ⟨x, hx, rfl, ex, _⟩ := orbs_get h
  obtain ⟨y, hy, rfl, ey, _⟩ := orbs_get h'
  have a := (mem_orb.mp hs).2
  have b := (mem_orb.mp hs').2
  have e := orb_eq (a.1.trans b.2) (b.1.trans a.2)
  rw [e, ey] at ex
  have exy := Option.some.inj ex
  subst exy
  have nd : (headsL S (orbL S)).Pairwise (· < ·) := G.rise.sublist List.filter_sublist
  rcases Nat.lt_trichotomy i j with c | c | c
  · have := List.pairwise_iff_getElem.mp nd i j (List.getElem?_eq_some_iff.mp hx).1 (List.getElem?_eq_some_iff.mp hy).1 c
    rw [(List.getElem?_eq_some_iff.mp hx).2, (List.getElem?_eq_some_iff.mp hy).2] at this
    omega
  · exact c
  · have := List.pairwise_iff_getElem.mp nd j i (List.getElem?_eq_some_iff.mp hy).1 (List.getElem?_eq_some_iff.mp hx).1 c
    rw [(List.getElem?_eq_some_iff.mp hx).2, (List.getElem?_eq_some_iff.mp hy).2] at this
    omega
theorem orbs_mem {S : Sy} {s : Nat} (h : s ∈ S.st) : ∃ (i : Nat) (r : List Nat), (orbsL S)[i]? = some r ∧ s ∈ r := by
  obtain ⟨z, hz⟩ : ∃ z, (orbL S s).head? = some z := by
    have := orb_self h
    cases e : orbL S s with
    | nil => rw [e] at this; cases this
    | cons z l => exact ⟨z, rfl⟩
  have hzm : z ∈ orbL S s := List.mem_of_head? hz
  obtain ⟨h1, h2, h3⟩ := mem_orb.mp hzm
  have e := orb_eq h2 h3
  have : orbL S z ∈ orbsL S := List.mem_map.mpr ⟨z, List.mem_filter.mpr ⟨h1, decide_eq_true (by rw [← e]; exact hz)⟩, rfl⟩
  obtain ⟨i, hi⟩ := List.getElem?_of_mem this
  exact ⟨i, _, hi, by rw [← e]; exact orb_self h⟩
noncomputable def numOf (S : Sy) (s : Nat) : Nat := (orbsL S).findIdx fun r => decide (s ∈ r)
theorem num_row {S : Sy} {s : Nat} (h : s ∈ S.st) : ∃ r, (orbsL S)[numOf S s]? = some r ∧ s ∈ r := by
  obtain ⟨i, r, hi, hr⟩ := orbs_mem h
  have hlt : numOf S s < (orbsL S).length := List.findIdx_lt_length_of_exists ⟨r, List.mem_of_getElem? hi, decide_eq_true hr⟩
  exact ⟨_, List.getElem?_eq_getElem hlt, of_decide_eq_true (List.findIdx_getElem (w := hlt))⟩
theorem num_of {S : Sy} (G : Good S) {i s : Nat} {r : List Nat} (h : (orbsL S)[i]? = some r) (hs : s ∈ r) : numOf S s = i := by
  obtain ⟨x, _, e, _, _⟩ := orbs_get h
  have : s ∈ S.st := by
    rw [e] at hs
    exact (mem_orb.mp hs).1
  obtain ⟨r', h', hs'⟩ := num_row this
  exact orbs_one G h' h hs' hs
theorem num_iff {S : Sy} (G : Good S) {s t : Nat} (hs : s ∈ S.st) (ht : t ∈ S.st) : numOf S s = numOf S t ↔ (Rch S s t ∧ Rch S t s) := by
  constructor
  · intro e
    obtain ⟨r, h1, h2⟩ := num_row hs
    obtain ⟨r', h1', h2'⟩ := num_row ht
    rw [← e, h1] at h1'
    cases h1'
    obtain ⟨x, _, e, _, _⟩ := orbs_get h1
    rw [e] at h2 h2'
    have a := (mem_orb.mp h2).2
    have b := (mem_orb.mp h2').2
    exact ⟨a.2.trans b.1, b.2.trans a.1⟩
  · rintro ⟨a, b⟩
    obtain ⟨r, h1, h2⟩ := num_row ht
    refine num_of G h1 ?_
    obtain ⟨x, _, e, _, _⟩ := orbs_get h1
    rw [e] at h2 ⊢
    have c := (mem_orb.mp h2).2
    exact mem_orb.mpr ⟨hs, c.1.trans b, a.trans c.2⟩
theorem orbs_len {S : Sy} (G : Good S) : (orbsL S).length ≤ 40 := by
  unfold orbsL
  rw [List.length_map]
  exact Nat.le_trans (List.length_filter_le _ _) G.len
/-- numbers by state -/
def NumAt (H : Hp) (D : Addr) (S : Sy) : Prop := ∃ kvs : List (L2.Key × V), H D = some (.dK kvs) ∧ ∀ s ∈ S.st, valV kvs (Sum.inl (s : Int)) = some (.int (numOf S s : Nat))
theorem NumAt.get {H : Hp} {D : Addr} {S : Sy} (h : NumAt H D S) {s : Nat} (hs : s ∈ S.st) : DGet H D (V.int (s : Int)) (some (.int (numOf S s : Nat))) := by
  obtain ⟨kvs, h1, h2⟩ := h
  have := DGet.k (k := Sum.inl (s : Int)) h1
  rw [h2 s hs] at this
  exact this
theorem NumAt.keep {a : Addr} {H H' : Hp} {D : Addr} {S : Sy} (k : Keep a H H') (n : D ≠ a) (h : NumAt H D S) : NumAt H' D S := by
  obtain ⟨kvs, h1, h2⟩ := h
  exact ⟨kvs, k _ _ h1 n, h2⟩
def exD (x : Nat × Nat) : PyData := .tuple [.str ⟨#[x.1]⟩, .int (x.2 : Int)]
theorem one_ok {c : Nat} (h : c ≤ 100) : PyData.strOk ⟨#[c]⟩ = true := by
  simp [PyData.strOk]
  omega
theorem exD_lay {x : Nat × Nat} (h : x.1 ≤ 100) : (exD x).canLay0 = true := by
  simp [exD, PyData.canLay0, PyData.canLayAll0, one_ok h]
theorem exD_dep (x : Nat × Nat) : (exD x).depth = 1 := by simp [exD, PyData.depth, PyData.depthAll]
theorem exD_shaped {x : Nat × Nat} (h : x.1 ≤ 100) : SeqAt.shaped (exD x) = true := by
  show ((exD x).canLay0 && decide ((exD x).depth ≤ 64)) = true
  rw [exD_lay h, exD_dep]
  rfl
theorem exDs_lay : ∀ xs : List (Nat × Nat), (∀ x ∈ xs, x.1 ≤ 100) → PyData.canLayAll0 (xs.map exD) = true
  | [], _ => by simp [PyData.canLayAll0]
  | x :: xs, h => by
    have h1 := exDs_lay xs fun y hy => h y (List.mem_cons_of_mem _ hy)
    have h2 := exD_lay (h x (List.mem_cons_self ..))
    show PyData.canLayAll0 (exD x :: xs.map exD) = true
    simp [PyData.canLayAll0, h1, h2]
theorem exDs_dep : ∀ xs : List (Nat × Nat), PyData.depthAll (xs.map exD) ≤ 1
  | [] => by simp [PyData.depthAll]
  | x :: xs => by
    have h := exDs_dep xs
    have h2 := exD_dep x
    simp only [List.map_cons, PyData.depthAll]
    omega
theorem exDs_shaped {xs : List (Nat × Nat)} (h : ∀ x ∈ xs, x.1 ≤ 100) : SeqAt.shaped (.tuple (xs.map exD)) = true := by
  have h1 := exDs_dep xs
  have h2 : PyData.depth (.tuple (xs.map exD)) ≤ 64 := by
    simp only [PyData.depth]
    omega
  show (PyData.canLay0 (.tuple (xs.map exD)) && decide (PyData.depth (.tuple (xs.map exD)) ≤ 64)) = true
  rw [Bool.and_eq_true]
  exact ⟨by simp only [PyData.canLay0]; exact exDs_lay xs h, decide_eq_true h2⟩
theorem exits_le {S : Sy} (G : Good S) {orb : List Nat} {s : Nat} : ∀ x ∈ exitsL S orb s, x.1 ≤ 100 := fun x h => by
  obtain ⟨m, hm, rfl⟩ := List.mem_map.mp h
  exact (G.min m (List.mem_filter.mp hm).1).2.2.2
theorem exD_eqv (x y : Nat × Nat) : PyData.eqv (exD x) (exD y) = decide (x = y) := by
  obtain ⟨a, b⟩ := x
  obtain ⟨c, d⟩ := y
  have e : PyData.eqv (exD (a, b)) (exD (c, d)) = (((⟨#[a]⟩ : Str) == ⟨#[c]⟩) && (((b : Int) == (d : Int)) && true)) := by simp only [exD, PyData.eqv, PyData.eqvAll]
  rw [e, Bool.eq_iff_iff, decide_eq_true_eq, Bool.and_eq_true, Bool.and_true, beq_iff_eq, beq_iff_eq]
  constructor
  · rintro ⟨h1, h2⟩
    have e1 : a = c := (List.cons.inj (congrArg (fun s : Str => s.cps.toList) h1)).1
    have e2 : b = d := by omega
    rw [e1, e2]
  · intro h
    cases h
    exact ⟨rfl, rfl⟩
theorem ex_any (x : Nat × Nat) (xs : List (Nat × Nat)) : ((xs.map exD).any fun z => PyData.eqv z (exD x)) = decide (x ∈ xs) := by
  rw [Bool.eq_iff_iff, decide_eq_true_eq, List.any_eq_true]
  constructor
  · rintro ⟨z, hz, h⟩
    obtain ⟨y, hy, rfl⟩ := List.mem_map.mp hz
    rw [exD_eqv, decide_eq_true_eq] at h
    rw [← h]
    exact hy
  · exact fun h => ⟨_, List.mem_map_of_mem h, by rw [exD_eqv]; exact decide_eq_true rfl⟩
theorem mem_exits {S : Sy} {orb : List Nat} {s c t : Nat} (h : (s, c, t) ∈ S.mv) (ho : t ∉ orb) : (c, t) ∈ exitsL S orb s := List.mem_map.mpr ⟨(s, c, t), List.mem_filter.mpr ⟨h, decide_eq_true ⟨rfl, ho⟩⟩, rfl⟩
theorem not_exits {S : Sy} {orb : List Nat} {s c t : Nat} (ho : t ∈ orb) : (c, t) ∉ exitsL S orb s := fun h => by
  obtain ⟨m, hm, e⟩ := List.mem_map.mp h
  have := of_decide_eq_true (List.mem_filter.mp hm).2
  cases e
  exact this.2 ho
section
variable {P : Program} {w : World} {K : PySem.W.Frag} {mg : Str → Option Value} {base : Heap} {tL tM tV : Tok}
theorem dp_ex {H : Hp} {v : V} {x : Nat × Nat} (h : ExitAt H v x) : Dp K H v (exD x) := by
  obtain ⟨t, rfl, h⟩ := h
  exact .tup (SqT.of h) (.cons (.str _) (.cons (.int _) .nil))
theorem dp_exs {H : Hp} {t : Addr} {xs : List (Nat × Nat)} (h : ExitsAt H t xs) : Dp K H (.ref t) (.tuple (xs.map exD)) := by
  obtain ⟨ts, h1, h2⟩ := h
  refine .tup (SqT.of h1) ?_
  clear h1
  induction h2 with
  | nil => exact .nil
  | cons h _ ih => exact .cons (dp_ex h) ih
end
end My
namespace My
open PySem PySem.Spec PyProof.Rows L2
theorem rise_ext : ∀ (xs ys : List Nat), xs.Pairwise (· < ·) → ys.Pairwise (· < ·) → (∀ x, x ∈ xs ↔ x ∈ ys) → xs = ys
  | [], [], _, _, _ => rfl
  | [], y :: ys, _, _, h => absurd ((h y).mpr (List.mem_cons_self ..)) (by simp)
  | x :: xs, [], _, _, h => absurd ((h x).mp (List.mem_cons_self ..)) (by simp)
  | x :: xs, y :: ys, hx, hy, h => by
    rw [List.pairwise_cons] at hx hy
    have e : x = y := by
      rcases List.mem_cons.mp ((h x).mp (List.mem_cons_self ..)) with h1 | h1
      · exact h1
      · rcases List.mem_cons.mp ((h y).mpr (List.mem_cons_self ..)) with h2 | h2
        · exact h2.symm
        · have a := hy.1 x h1
          have b := hx.1 y h2
          omega
    subst e
    rw [rise_ext xs ys hx.2 hy.2 fun z => ?_]
    have nx : x ∉ xs := fun m => Nat.lt_irrefl _ (hx.1 x m)
    have ny : x ∉ ys := fun m => Nat.lt_irrefl _ (hy.1 x m)
    constructor
    · intro hz
      rcases List.mem_cons.mp ((h z).mp (List.mem_cons_of_mem _ hz)) with e | e
      · exact absurd (e ▸ hz) nx
      · exact e
    · intro hz
      rcases List.mem_cons.mp ((h z).mpr (List.mem_cons_of_mem _ hz)) with e | e
      · exact absurd (e ▸ hz) ny
      · exact e
theorem mv_uniq {S : Sy} (G : Good S) {m n : Mv} (hm : m ∈ S.mv) (hn : n ∈ S.mv) (h1 : m.1 = n.1) (h2 : m.2.1 = n.2.1) : m = n := by
  obtain ⟨i, hi⟩ := List.getElem?_of_mem hm
  obtain ⟨j, hj⟩ := List.getElem?_of_mem hn
  obtain ⟨li, ei⟩ := List.getElem?_eq_some_iff.mp hi
  obtain ⟨lj, ej⟩ := List.getElem?_eq_some_iff.mp hj
  rcases Nat.lt_trichotomy i j with c | c | c
  · have := List.pairwise_iff_getElem.mp G.mrise i j li lj c
    rw [ei, ej] at this
    omega
  · subst c
    rw [hi] at hj
    exact Option.some.inj hj
  · have := List.pairwise_iff_getElem.mp G.mrise j i lj li c
    rw [ei, ej] at this
    omega
/-! ### consistent letters -/
def selM (S : Sy) (c : Nat) : List Mv := S.mv.filter fun m => decide (m.2.1 = c) && decide (m.1 ∈ S.ac)
def endsC (S : Sy) (c : Nat) : List Nat := (selM S c).map (·.2.2)
def same1 (xs : List Nat) : Bool := xs.all fun x => decide (x = xs.headD 0)
def okC (S : Sy) (c : Nat) : Bool := decide ((endsC S c).length = S.ac.length) && (!(endsC S c).isEmpty && same1 (endsC S c))
def consTo (S : Sy) (i : Nat) : List (Nat × Nat) := (((List.range i).map (97 + ·)).filter (okC S)).map fun c => (c, (endsC S c).headD 0)
abbrev consL (S : Sy) : List (Nat × Nat) := consTo S 4
theorem consTo_yes {S : Sy} {i : Nat} (h : okC S (97 + i) = true) : consTo S (i + 1) = consTo S i ++ [(97 + i, (endsC S (97 + i)).headD 0)] := by
  unfold consTo
  rw [List.range_succ, List.map_append, List.filter_append, List.map_append, List.map_singleton, List.filter_cons, if_pos h]
  rfl
theorem consTo_no {S : Sy} {i : Nat} (h : ¬ okC S (97 + i) = true) : consTo S (i + 1) = consTo S i := by
  unfold consTo
  rw [List.range_succ, List.map_append, List.filter_append, List.map_append, List.map_singleton, List.filter_cons, if_neg h, List.filter_nil, List.map_nil, List.append_nil]
theorem consTo_len (S : Sy) (i : Nat) : (consTo S i).length ≤ i := by
  unfold consTo
  rw [List.length_map]
  refine Nat.le_trans (List.length_filter_le _ _) ?_
  rw [List.length_map, List.length_range]
  exact Nat.le_refl _
theorem mem_cons_fst {S : Sy} {c : Nat} : c ∈ (consL S).map (·.1) ↔ (97 ≤ c ∧ c ≤ 100) ∧ okC S c = true := by
  unfold consL consTo
  rw [List.map_map, List.mem_map]
  constructor
  · rintro ⟨x, hx, rfl⟩
    obtain ⟨h1, h2⟩ := List.mem_filter.mp hx
    obtain ⟨j, hj, rfl⟩ := List.mem_map.mp h1
    have := List.mem_range.mp hj
    exact ⟨by show 97 ≤ 97 + j ∧ 97 + j ≤ 100; omega, h2⟩
  · rintro ⟨⟨h1, h2⟩, h3⟩
    exact ⟨c, List.mem_filter.mpr ⟨List.mem_map.mpr ⟨c - 97, List.mem_range.mpr (by omega), by omega⟩, h3⟩, rfl⟩
def cutS (S : Sy) : Sy := ⟨S.st, S.mv.filter fun m => decide (m.1 ∉ S.ac) || decide (m.2.1 ∉ (consL S).map (·.1)), S.ac⟩
theorem cutS_good {S : Sy} (G : Good S) : Good (cutS S) where
  ne := G.ne
  rise := G.rise
  lt := G.lt
  mrise := G.mrise.sublist List.filter_sublist
  min := fun m hm => G.min m (List.mem_filter.mp hm).1
  ml := Nat.le_trans (List.length_filter_le _ _) G.ml
  arise := G.arise
  asub := G.asub
theorem cutS_rch {S : Sy} {a b : Nat} (h : Rch (cutS S) a b) : Rch S a b := by
  induction h with
  | refl => exact .refl _
  | step _ hm e ih => exact .step ih (List.mem_filter.mp hm).1 e
theorem cutS_okC {S : Sy} {c : Nat} (hc : 97 ≤ c ∧ c ≤ 100) : okC (cutS S) c = false := by
  cases h : okC S c with
  | false =>
    have e : selM (cutS S) c = selM S c := by
      unfold selM cutS
      rw [List.filter_filter]
      refine List.filter_congr fun m _ => ?_
      show ((decide (m.2.1 = c) && decide (m.1 ∈ S.ac)) && (decide (m.1 ∉ S.ac) || decide (m.2.1 ∉ (consL S).map (·.1)))) = (decide (m.2.1 = c) && decide (m.1 ∈ S.ac))
      by_cases e : m.2.1 = c
      · have : m.2.1 ∉ (consL S).map (·.1) := fun hm => by
          rw [e] at hm
          have := (mem_cons_fst.mp hm).2
          rw [h] at this
          cases this
        rw [decide_eq_true this, Bool.or_true, Bool.and_true]
      · rw [decide_eq_false e, Bool.false_and, Bool.false_and]
    have : okC (cutS S) c = okC S c := by
      unfold okC endsC
      rw [e]
      rfl
    rw [this, h]
  | true =>
    have e : selM (cutS S) c = [] := by
      unfold selM cutS
      rw [List.filter_filter, List.filter_eq_nil_iff]
      intro m _
      show ¬ ((decide (m.2.1 = c) && decide (m.1 ∈ S.ac)) && (decide (m.1 ∉ S.ac) || decide (m.2.1 ∉ (consL S).map (·.1)))) = true
      by_cases e : m.2.1 = c
      · have : m.2.1 ∈ (consL S).map (·.1) := by
          rw [e]
          exact mem_cons_fst.mpr ⟨hc, h⟩
        by_cases k : m.1 ∈ S.ac
        · rw [decide_eq_false (fun x : m.1 ∉ S.ac => x k), decide_eq_false (fun x : m.2.1 ∉ _ => x this), Bool.or_false, Bool.and_false]
          exact Bool.false_ne_true
        · rw [decide_eq_false k, Bool.and_false, Bool.false_and]
          exact Bool.false_ne_true
      · rw [decide_eq_false e, Bool.false_and, Bool.false_and]
        exact Bool.false_ne_true
    unfold okC endsC
    rw [e]
    simp
theorem cutS_cons (S : Sy) : consL (cutS S) = [] := by
  unfold consL consTo
  rw [List.map_eq_nil_iff, List.filter_eq_nil_iff]
  intro c hc
  obtain ⟨j, hj, rfl⟩ := List.mem_map.mp hc
  have := List.mem_range.mp hj
  rw [cutS_okC (by omega)]
  exact Bool.false_ne_true
theorem cutS_cut (S : Sy) : cutS (cutS S) = cutS S := by
  show Sy.mk _ _ _ = Sy.mk _ _ _
  have e := cutS_cons S
  congr 1
  show (cutS S).mv.filter _ = (cutS S).mv
  rw [List.filter_eq_self]
  intro m _
  rw [e]
  simp
def spConsOf : Sp := fun vs H Q _ => ∃ (p : Addr) (S : Sy), vs = [.ref p] ∧ SysAt H p S ∧ Good S ∧ ∀ (t : Addr) H', Same H H' → ExitsAt H' t (consL S) → Q (.ref t) H'
def spCutOf : Sp := fun vs H Q _ => ∃ (p : Addr) (S : Sy), vs = [.ref p] ∧ SysAt H p S ∧ Good S ∧ ∀ (t : Addr) H', Same H H' → SysAt H' t (cutS S) → Q (.ref t) H'
theorem str1_eq (c d : Nat) : decide (V.str ⟨#[c]⟩ = V.str ⟨#[d]⟩) = decide (c = d) := by
  refine decide_eq_decide.mpr ⟨fun h => ?_, fun h => by rw [h]⟩
  exact (List.cons.inj (congrArg (fun s : Str => s.cps.toList) (V.str.inj h))).1
theorem same1_of {xs : List Nat} {m M : Int} (h1 : m ∈ xs.map fun (n : Nat) => (n : Int)) (h2 : ∀ y ∈ xs.map fun (n : Nat) => (n : Int), m ≤ y) (h3 : M ∈ xs.map fun (n : Nat) => (n : Int)) (h4 : ∀ y ∈ xs.map fun (n : Nat) => (n : Int), y ≤ M) : decide (m = M) = same1 xs := by
  rw [Bool.eq_iff_iff, decide_eq_true_eq]
  unfold same1
  rw [List.all_eq_true]
  have hd : ∀ x ∈ xs, xs.headD 0 ∈ xs := fun x hx => by
    cases xs with
    | nil => cases hx
    | cons y l => exact List.mem_cons_self ..
  constructor
  · intro e x hx
    have a := h2 _ (List.mem_map_of_mem hx)
    have b := h4 _ (List.mem_map_of_mem hx)
    have c := h2 _ (List.mem_map_of_mem (hd x hx))
    have d := h4 _ (List.mem_map_of_mem (hd x hx))
    exact decide_eq_true (by omega)
  · intro h
    obtain ⟨x, hx, rfl⟩ := List.mem_map.mp h1
    obtain ⟨y, hy, rfl⟩ := List.mem_map.mp h3
    have a := of_decide_eq_true (h x hx)
    have b := of_decide_eq_true (h y hy)
    rw [a, b]
theorem natsV_ints (xs : List Nat) : natsV xs = (xs.map fun (n : Nat) => (n : Int)).map V.int := by
  unfold natsV
  rw [List.map_map]
  rfl
theorem abcdZ : LetZ "abcd" := letz_by (by decide +kernel)
theorem abcdN : (Str.ofString "abcd").cps.size = 4 := by decide +kernel
section
variable {P : Program} {w : World} {K : PySem.W.Frag} {mg : Str → Option Value} {base : Heap} {tL tM tV : Tok}
abbrev N_consistent_of : List Str := ["system", "_", "moves", "accepting", "found", "letter", "ends", "start", "other", "end"]
theorem sc_consistent_of : FnScope ["system", "_", "moves", "accepting", "found", "letter", "ends", "start", "other", "end"] ["system"] (defScope s_consistent_of) := ⟨rfl, rfl, rfl, by decide +kernel, rfl, by decide +kernel, by decide +kernel⟩
set_option maxHeartbeats 1000000 in
theorem ok_consof {f : Addr} {fd : FuncData} (B : Bt K mg tL tM tV) (Dd : Df K mg "consistent_of" s_consistent_of ["system"] f fd) : FnOk P w K mg base CX0 1 f fd ["system"] spConsOf := by
  refine Dd.F.ok sc_consistent_of (fun vs H Q Ex h => ?_) (fun cdv A outer s H vs Q Ex hr h => ?_)
  · obtain ⟨p, S, rfl, _⟩ := h
    rfl
  obtain ⟨p, S, rfl, hS, hG, q⟩ := h
  refine ⟨_, (pss_cons (ps_asg (pv 0) (pg_tup rfl (pgs_cons (pg_name (i := 1) sc_consistent_of.nd rfl (Or.inl rfl)) (pgs_cons (pg_name (i := 2) sc_consistent_of.nd rfl (Or.inl rfl)) (pgs_cons (pg_name (i := 3) sc_consistent_of.nd rfl (Or.inr rfl)) pgs_nil)))))
    (pss_cons (ps_set (i := 4) sc_consistent_of.nd rfl (Or.inl rfl) (pe_lst pa_nil))
    (pss_cons (ps_for PassesOwn.never rfl (pi_str (pe_glob (v := .str "abcd") rfl B.g_LETTERS ⟨_, rfl⟩)) (pg_name (i := 5) sc_consistent_of.nd rfl (Or.inr rfl)) (pss_cons (ps_setLc (i := 6) (own := [("start", 7), ("other", 8), ("end", 9)]) (g := gTup K 3 (gCons (gName 7) (gCons (gName 8) (gCons (gName 9) gNil)))) rfl sc_consistent_of.nd rfl rfl (sw_true rfl rfl rfl (by decide +kernel)) (pi_tup (pv 2)) (blkOk_by (N := N_consistent_of) (sc := defScope s_consistent_of) (by decide +kernel)) (fun _ _ _ _ _ => pg_tup rfl (pgs_cons (pg_name (i := 7) sc_consistent_of.nd rfl (Or.inl rfl)) (pgs_cons (pg_name (i := 8) sc_consistent_of.nd rfl (Or.inl rfl)) (pgs_cons (pg_name (i := 9) sc_consistent_of.nd rfl (Or.inl rfl)) pgs_nil)))) (fun _ _ _ _ _ => pts_one (PW.pt (pw_and (pt_cmpR op_eq (pv 8) (pv 5) (nomark _)) (pw_and1 (pt_cmpR (r := rInB K) (op_in_seqB rfl) (pv 7) (pv 3) rfl))))) (fun _ _ _ _ _ => (pv 9)))
    (pss_one (ps_if (PW.pt (pw_and (pt_cmpR op_eq (pe_callB call_len rfl B.b_len boot_len (pa_cons (pv 6) pa_nil)) (pe_callB call_len rfl B.b_len boot_len (pa_cons (pv 3) pa_nil)) (nomark _)) (pw_and (pt_truth (pv 6) (by intro _; rfl)) (pw_and1 (pt_cmpR op_eq (pe_callB (cr_min rfl) rfl B.b_min boot_min (pa_cons (pv 6) pa_nil)) (pe_callB (cr_max rfl) rfl B.b_max boot_max (pa_cons (pv 6) pa_nil)) (nomark _)))))) (pss_one (ps_expr (pe_bm PySem.F.plainAttrs_list PySem.F.slot_list_append PySem.F.type_list_append mt_append (pv 4) (pa_cons (pe_tup (pa_cons (pv 5) (pa_cons (pe_ix (r := rIxL K) ix_list (pv 6) pe_int (fun _ _ => rfl)) pa_nil))) pa_nil)))) pss_nil))))
    (pss_one (ps_ret (pe_callTy (r := rTupOf K) call_tuple_ofK rfl B.b_tuple boot_tuple (pa_cons (pv 4) pa_nil))))))), ?_⟩
  obtain ⟨a, b, c, ts, h1, h2, h3, h4, h5⟩ := hS.ex
  refine ⟨_, rfl, p, _, rfl, SqT.of h1, rfl, _, _, rfl, _, _, rfl, _, _, rfl, rfl, ?_⟩
  refine ⟨by show 0 ≤ sizeLine; decide, fun L hL => ?_⟩
  have u1 := same_upd (o := .lst []) hL
  have al := hG.alen
  have ml := hG.ml
  refine ⟨"abcd", rfl, for_strB (z := "abcd") (fun i σ' H' => ∃ (es : List V) (o5 o6 o7 o8 o9 : Option V), σ' = [some (.ref p), some (.ref a), some (.ref b), some (.ref c), some (.ref L), o5, o6, o7, o8, o9] ∧ Same H H' ∧ H' L = some (.lst es) ∧ Two (ExitAt H') es (consTo S i)) ?_ ?_ ?_⟩
  · exact ⟨[], none, none, none, none, none, rfl, u1, upd_same, .nil⟩
  · rintro i cc σ' H1 hc ⟨es, o5, o6, o7, o8, o9, rfl, s1, hes, two⟩
    obtain rfl := abcdZ.2 i cc hc
    have hi4 : i < 4 := by
      have := (Array.getElem?_eq_some_iff.mp hc).1
      rw [abcdN] at this
      exact this
    have elen : es.length ≤ 4 := by
      have := consTo_len S i
      rw [two.len]
      omega
    refine ⟨_, rfl, b, rfl, ⟨_, SqT.of (s1 _ _ h3)⟩, fun M hM => ?_⟩
    refine lc_tupR (K := K) (a := b) (xs := ts) (fun j => natsV (((S.mv.take j).filter fun m => decide (m.2.1 = 97 + i) && decide (m.1 ∈ S.ac)).map (·.2.2))) rfl (fun j => ?_) hM (SqT.of (s1 _ _ h3)) (fun j x H' hx s2 fin fin0 => ?_) (fun H2 s2 hM2 => ?_)
    · rw [natsV_len, List.length_map]
      refine Nat.le_trans (List.length_filter_le _ _) ?_
      rw [List.length_take]
      omega
    · obtain ⟨m, hm, hmv⟩ := h4.get hx
      obtain ⟨t, rfl, ht⟩ := hmv.same (s1.trans s2)
      have tk := take_snoc hm
      have no : ¬ (decide (m.2.1 = 97 + i) && decide (m.1 ∈ S.ac)) = true → natsV (((S.mv.take (j + 1)).filter fun m => decide (m.2.1 = 97 + i) && decide (m.1 ∈ S.ac)).map (·.2.2)) = natsV (((S.mv.take j).filter fun m => decide (m.2.1 = 97 + i) && decide (m.1 ∈ S.ac)).map (·.2.2)) := fun n => by
        rw [tk, List.filter_append, List.filter_cons, if_neg n, List.filter_nil, List.append_nil]
      refine ⟨t, _, rfl, SqT.of ht, rfl, _, _, rfl, _, _, rfl, _, _, rfl, rfl, rfl, _, rfl, _, rfl, rfl, _, rfl, ?_⟩
      rw [str1_eq]
      refine ite2 (fun c1 => ?_) (fun c1 => iteF (fin0 _ (no fun h => c1 (by rw [Bool.and_eq_true] at h; exact h.1)) (Same.refl _)))
      refine ⟨_, rfl, _, rfl, c, _, rfl, .inr (SqT.of (s2 _ _ (s1 _ _ h5))), rfl, flat_nats _, _, rfl, ?_⟩
      show if inV (V.int (m.1 : Int)) (natsV S.ac) = true then _ else _
      rw [in_nats]
      refine ite2 (fun c2 => ⟨_, rfl, fin _ _ ?_ (Same.refl _)⟩) (fun c2 => fin0 _ (no fun h => c2 (by rw [Bool.and_eq_true] at h; exact h.2)) (Same.refl _))
      show natsV _ = natsV _ ++ [V.int (m.2.2 : Int)]
      rw [tk, List.filter_append, List.filter_cons, if_pos (by rw [c1, c2]; rfl), List.filter_nil, List.map_append, natsV_snoc]
      rfl
    · have hM3 : H2 M = some (.lst (natsV (endsC S (97 + i)))) := by
        rw [hM2, h4.len, List.take_length]
        rfl
      have s12 := s1.trans s2
      have hes2 := s2 _ _ hes
      have two2 := two.mono fun v x (h : ExitAt H1 v x) => (show ExitAt H2 v x from by obtain ⟨t, e, h⟩ := h; exact ⟨t, e, s2 _ _ h⟩)
      have LM : M ≠ L := fun e => by rw [e, hes] at hM; cases hM
      have nxt : okC S (97 + i) ≠ true → Two (ExitAt H2) es (consTo S (i + 1)) := fun n => by
        rw [consTo_no n]
        exact two2
      have okdef : okC S (97 + i) = (decide ((endsC S (97 + i)).length = S.ac.length) && (!(endsC S (97 + i)).isEmpty && same1 (endsC S (97 + i)))) := rfl
      have h5b := s12 _ _ h5
      refine ⟨_, rfl, _, (endsC S (97 + i)).length, rfl, .inl ⟨_, SqL.of hM3, by rw [natsV_len]⟩, _, rfl, _, S.ac.length, rfl, .inr ⟨_, SqT.of h5b, by rw [natsV_len]⟩, rfl, _, rfl, ite2 (fun c1 => ?_) (fun c1 => ?_)⟩
      · have e1 : (endsC S (97 + i)).length = S.ac.length := by
          have := V.int.inj (of_decide_eq_true c1)
          omega
        refine ⟨_, rfl, _, .inl ⟨_, SqL.of hM3, rfl⟩, ?_⟩
        have ee : (natsV (endsC S (97 + i))).isEmpty = (endsC S (97 + i)).isEmpty := by
          cases endsC S (97 + i) <;> rfl
        rw [ee]
        refine ite2 (fun c2 => ?_) (fun c2 => ?_)
        · have pos : 0 < (endsC S (97 + i)).length := by
            cases h : endsC S (97 + i) with
            | nil => rw [h] at c2; cases c2
            | cons x l => exact Nat.succ_pos _
          have hM4 : SqL K H2 M (((endsC S (97 + i)).map fun (n : Nat) => (n : Int)).map V.int) := by
            rw [← natsV_ints]
            exact SqL.of hM3
          refine ⟨_, rfl, M, _, rfl, hM4, by rw [List.length_map]; exact pos, fun m m1 m2 => ?_⟩
          refine ⟨_, rfl, M, _, rfl, hM4, by rw [List.length_map]; exact pos, fun m' m3 m4 => ⟨rfl, _, rfl, ?_⟩⟩
          have e3 : decide (V.int m = V.int m') = same1 (endsC S (97 + i)) := by
            rw [← same1_of m1 m2 m3 m4]
            exact decide_eq_decide.mpr ⟨V.int.inj, fun h => by rw [h]⟩
          rw [e3]
          refine ite2 (fun c3 => ?_) (fun c3 => ?_)
          · have ok : okC S (97 + i) = true := by rw [okdef, decide_eq_true e1, c2, c3]; rfl
            obtain ⟨y, hy⟩ : ∃ y, (endsC S (97 + i))[0]? = some y := ⟨_, List.getElem?_eq_getElem pos⟩
            have hd : (endsC S (97 + i)).headD 0 = y := by
              cases h : endsC S (97 + i) with
              | nil => rw [h] at hy; cases hy
              | cons x l => rw [h] at hy; exact Option.some.inj hy
            refine ⟨_, rfl, .inl ⟨rfl, _, SqL.of hes2⟩, _, rfl, _, rfl, M, _, 0, _, rfl, rfl, SqL.of hM3, at_of (j := 0) rfl (natsV_getN hy), by show 2 ≤ sizeLine; decide, fun T hT => ?_⟩
            have u2 := same_upd (o := .tup [V.str ⟨#[97 + i]⟩, .int (y : Int)]) hT
            have TL : T ≠ L := fun e => by rw [e, hes2] at hT; cases hT
            refine ⟨L, es, _, rfl, rfl, u2 _ _ hes2, Nat.lt_of_le_of_lt elen (by decide), es ++ [.ref T], _, _, _, _, _, rfl, fun b' o' hb' => by rw [upd_ne (ne_of_none hb' hL)]; exact u2 _ _ (s12 _ _ hb'), upd_same, ?_⟩
            rw [consTo_yes ok, hd]
            refine (two2.mono fun v x h => ?_).app (.cons ⟨T, rfl, ?_⟩ .nil)
            · obtain ⟨t, e, h⟩ := h
              exact ⟨t, e, by rw [upd_ne fun e => by rw [e, hes2] at h; cases h]; exact u2 _ _ h⟩
            · rw [upd_ne TL]
              exact upd_same
          · exact ⟨es, _, _, _, _, _, rfl, s12, hes2, nxt fun h => c3 (by rw [okdef, decide_eq_true e1, c2, Bool.true_and, Bool.true_and] at h; exact h)⟩
        · exact ⟨es, _, _, _, _, _, rfl, s12, hes2, nxt fun h => c2 (by rw [okdef, decide_eq_true e1, Bool.true_and, Bool.and_eq_true] at h; exact h.1)⟩
      · exact ⟨es, _, _, _, _, _, rfl, s12, hes2, nxt fun h => c1 (by
          rw [okdef, Bool.and_eq_true, decide_eq_true_eq] at h
          rw [h.1]
          exact decide_eq_true rfl)⟩
  · rintro σ' H1 ⟨es, o5, o6, o7, o8, o9, rfl, s1, hes, two⟩
    rw [abcdN] at two
    exact ⟨_, rfl, L, _, rfl, .inl ⟨SqL.of hes, fun t ht => q t _ (s1.trans (same_upd ht)) ⟨es, upd_same, two.mono fun v x h => by
      obtain ⟨q1, e, h⟩ := h
      exact ⟨q1, e, same_upd ht _ _ h⟩⟩⟩⟩
abbrev N_cut_of : List Str := ["system", "states", "moves", "accepting", "letters", "kept", "letter", "_", "move"]
theorem sc_cut_of : FnScope ["system", "states", "moves", "accepting", "letters", "kept", "letter", "_", "move"] ["system"] (defScope s_cut_of) := ⟨rfl, rfl, rfl, by decide +kernel, rfl, by decide +kernel, by decide +kernel⟩
set_option maxHeartbeats 1000000 in
theorem ok_cutof {f : Addr} {fd : FuncData} (B : Bt K mg tL tM tV) (Dd : Df K mg "cut_of" s_cut_of ["system"] f fd) (Gconsistent_of : Cl P w K mg base 1 "consistent_of" ["system"] spConsOf) : FnOk P w K mg base CX0 2 f fd ["system"] spCutOf := by
  refine Dd.F.ok sc_cut_of (fun vs H Q Ex h => ?_) (fun cdv A outer s H vs Q Ex hr h => ?_)
  · obtain ⟨p, S, rfl, _⟩ := h
    rfl
  obtain ⟨p, S, rfl, hS, hG, q⟩ := h
  refine ⟨_, (pss_cons (ps_asg (pv 0) (pg_tup rfl (pgs_cons (pg_name (i := 1) sc_cut_of.nd rfl (Or.inl rfl)) (pgs_cons (pg_name (i := 2) sc_cut_of.nd rfl (Or.inl rfl)) (pgs_cons (pg_name (i := 3) sc_cut_of.nd rfl (Or.inr rfl)) pgs_nil)))))
    (pss_cons (ps_set (i := 4) sc_cut_of.nd rfl (Or.inr rfl) (pe_lc (own := [("letter", 6), ("_", 7)]) (g := gTup K 2 (gCons (gName 6) (gCons (gName 7) gNil))) (tt := tYes) rfl sc_cut_of.nd (pi_tup (pe_cl Gconsistent_of (hr.mono (by omega)) rfl (pa_cons (pv 0) pa_nil))) (blkOk_by (N := N_cut_of) (sc := defScope s_cut_of) (by decide +kernel)) (fun _ _ _ _ _ => pg_tup rfl (pgs_cons (pg_name (i := 6) sc_cut_of.nd rfl (Or.inl rfl)) (pgs_cons (pg_name (i := 7) sc_cut_of.nd rfl (Or.inl rfl)) pgs_nil))) (fun _ _ _ _ _ => pts_nil) (fun _ _ _ _ _ => (pv 6))))
    (pss_cons (ps_setLc (i := 5) (own := [("move", 8)]) (g := gName 8) rfl sc_cut_of.nd rfl rfl (sw_true rfl rfl rfl (by decide +kernel)) (pi_tup (pv 2)) (blkOk_by (N := N_cut_of) (sc := defScope s_cut_of) (by decide +kernel)) (fun _ _ _ _ _ => pg_name (i := 8) sc_cut_of.nd rfl (Or.inl rfl)) (fun _ _ _ _ _ => pts_one (PW.pt (pw_or (pt_cmpR (r := rNotInB K) (op_notin_seqB rfl) (pe_ix (r := rIxT K) ix_tup (pv 8) pe_int (fun _ _ => rfl)) (pv 3) rfl) (pw_or1 (pt_cmpR (r := rNotInB K) (op_notin_seqB rfl) (pe_ix (r := rIxT K) ix_tup (pv 8) pe_int (fun _ _ => rfl)) (pv 4) rfl))))) (fun _ _ _ _ _ => (pv 8)))
    (pss_one (ps_ret (pe_tup (pa_cons (pv 1) (pa_cons (pe_callTy (r := rTupOf K) call_tuple_ofK rfl B.b_tuple boot_tuple (pa_cons (pv 5) pa_nil)) (pa_cons (pv 3) pa_nil))))))))), ?_⟩
  obtain ⟨a, b, c, ts, h1, h2, h3, h4, h5⟩ := hS.ex
  refine ⟨_, rfl, p, _, rfl, SqT.of h1, rfl, _, _, rfl, _, _, rfl, _, _, rfl, rfl, ?_⟩
  refine ⟨_, rfl, p, S, rfl, hS, hG, fun t H1 s1 hx => ?_⟩
  obtain ⟨es, he, two⟩ := hx
  refine ⟨t, rfl, ⟨_, SqT.of he⟩, fun L hL => ?_⟩
  have al := hG.alen
  have ml := hG.ml
  refine lc_tupR (K := K) (a := t) (xs := es) (fun j => (((consL S).map (·.1)).take j).map fun c => V.str ⟨#[c]⟩) rfl (fun j => ?_) hL (SqT.of he) (fun j x H' hx s2 fin fin0 => ?_) (fun H2 s2 hL2 => ?_)
  · have : (consL S).length ≤ 4 := consTo_len S 4
    rw [List.length_map, List.length_take, List.length_map]
    omega
  · obtain ⟨m, hm, hmv⟩ := two.get hx
    obtain ⟨q1, rfl, ht⟩ := hmv
    have tk := take_snoc (l := (consL S).map (·.1)) (i := j) (x := m.1) (by rw [List.getElem?_map, hm]; rfl)
    refine ⟨q1, _, rfl, SqT.of (s2 _ _ ht), rfl, _, _, rfl, _, _, rfl, rfl, rfl, tyes ⟨_, rfl, fin _ _ ?_ (Same.refl _)⟩⟩
    rw [tk, List.map_append]
    rfl
  have hL3 : H2 L = some (.lst (((consL S).map (·.1)).map fun c => V.str ⟨#[c]⟩)) := by
    rw [hL2, two.len, show (consL S).length = ((consL S).map (·.1)).length by rw [List.length_map], List.take_length]
  have s12 := s1.trans s2
  have inL : ∀ c : Nat, inV (V.str ⟨#[c]⟩) (((consL S).map (·.1)).map fun c => V.str ⟨#[c]⟩) = decide (c ∈ (consL S).map (·.1)) := fun c => by
    unfold inV
    rw [Bool.eq_iff_iff, decide_eq_true_eq, List.any_eq_true]
    constructor
    · rintro ⟨v, hv, h⟩
      obtain ⟨d, hd, rfl⟩ := List.mem_map.mp hv
      have e : d = c := (List.cons.inj (congrArg (fun s : Str => s.cps.toList) (beq_iff_eq.mp h))).1
      rw [← e]
      exact hd
    · exact fun h => ⟨_, List.mem_map_of_mem h, beq_iff_eq.mpr rfl⟩
  have flL : (((consL S).map (·.1)).map fun c => V.str ⟨#[c]⟩).all flatV = true := by
    rw [List.all_eq_true]
    intro v hv
    obtain ⟨d, _, rfl⟩ := List.mem_map.mp hv
    rfl
  refine ⟨_, rfl, b, rfl, ⟨_, SqT.of (s12 _ _ h3)⟩, fun M hM => ?_⟩
  have ML : M ≠ L := fun e => by rw [e, hL3] at hM; cases hM
  refine lc_tup (K := K) (a := b) (xs := ts) (fun j H' => Same H2 H' ∧ ∃ ws : List V, H' M = some (.lst ws) ∧ Two (MoveAt H') ws ((S.mv.take j).filter fun m => decide (m.1 ∉ S.ac) || decide (m.2.1 ∉ (consL S).map (·.1)))) ⟨same_upd hM, [], upd_same, .nil⟩ (fun i H' _ h => SqT.of (h.1 _ _ (s12 _ _ h3))) (fun j x H' hx h => ?_) (fun H' h => ?_)
  · obtain ⟨s3, ws, hws, two2⟩ := h
    obtain ⟨m, hm, hmv⟩ := h4.get hx
    obtain ⟨q1, rfl, ht⟩ := hmv.same (s12.trans s3)
    have tk := take_snoc hm
    have wl : ws.length ≤ 1000 := by
      rw [two2.len]
      exact Nat.le_trans (List.length_filter_le _ _) (by rw [List.length_take]; omega)
    have yes : (decide (m.1 ∉ S.ac) || decide (m.2.1 ∉ (consL S).map (·.1))) = true → ∃ acc, H' M = some (.lst acc) ∧ acc.length < sizeLine ∧ Same H2 (upd H' M (.lst (acc ++ [V.ref q1]))) ∧ ∃ ws : List V, (upd H' M (.lst (acc ++ [V.ref q1]))) M = some (.lst ws) ∧ Two (MoveAt (upd H' M (.lst (acc ++ [V.ref q1])))) ws ((S.mv.take (j + 1)).filter fun m => decide (m.1 ∉ S.ac) || decide (m.2.1 ∉ (consL S).map (·.1))) := fun e => by
      refine ⟨ws, hws, Nat.lt_of_le_of_lt wl (by decide), fun b' o' hb' => by rw [upd_ne (ne_of_none hb' hM)]; exact s3 _ _ hb', _, upd_same, ?_⟩
      rw [tk, List.filter_append, List.filter_cons, if_pos e, List.filter_nil]
      have up : ∀ v m, MoveAt H' v m → MoveAt (upd H' M (.lst (ws ++ [V.ref q1]))) v m := fun v m h => by
        obtain ⟨t, e, h⟩ := h
        exact ⟨t, e, by rw [upd_ne fun e => by rw [e, hws] at h; cases h]; exact h⟩
      exact (two2.mono up).app (.cons (up _ _ ⟨q1, rfl, ht⟩) .nil)
    refine ⟨rfl, _, rfl, q1, _, 0, _, rfl, rfl, SqT.of ht, at_zero, _, rfl, c, _, rfl, .inr (SqT.of (s3 _ _ (s12 _ _ h5))), rfl, flat_nats _, _, rfl, ?_⟩
    show if (!inV (V.int (m.1 : Int)) (natsV S.ac)) = true then _ else _
    rw [in_nats]
    refine ite2 (fun c1 => ?_) (fun c1 => ?_)
    · have n1 : m.1 ∉ S.ac := fun h => by rw [decide_eq_true h] at c1; cases c1
      exact iteT ⟨_, rfl, yes (by rw [decide_eq_true n1, Bool.true_or])⟩
    · refine ⟨_, rfl, q1, _, 1, _, rfl, rfl, SqT.of ht, at_one, _, rfl, L, _, rfl, .inl (SqL.of (s3 _ _ hL3)), rfl, flL, _, rfl, ?_⟩
      show if (!inV (V.str ⟨#[m.2.1]⟩) (((consL S).map (·.1)).map fun c => V.str ⟨#[c]⟩)) = true then _ else _
      rw [inL]
      refine ite2 (fun c2 => ?_) (fun c2 => ?_)
      · have n2 : m.2.1 ∉ (consL S).map (·.1) := fun h => by rw [decide_eq_true h] at c2; cases c2
        exact ⟨_, rfl, yes (by rw [decide_eq_true n2, Bool.or_true])⟩
      · refine ⟨s3, ws, hws, ?_⟩
        rw [tk, List.filter_append, List.filter_cons, if_neg ?_, List.filter_nil, List.append_nil]
        · exact two2
        · intro h
          rcases Bool.or_eq_true _ _ ▸ h with h | h
          · exact c1 (by rw [decide_eq_false (of_decide_eq_true h)]; rfl)
          · exact c2 (by rw [decide_eq_false (of_decide_eq_true h)]; rfl)
  · obtain ⟨s3, ws, hws, two2⟩ := h
    rw [h4.len, List.take_length] at two2
    have s13 := s12.trans s3
    refine ⟨_, rfl, _, rfl, M, _, rfl, .inl ⟨SqL.of hws, fun t2 ht2 => ?_⟩⟩
    have u4 := same_upd (o := .tup ws) ht2
    refine ⟨_, rfl, by show 3 ≤ sizeLine; decide, fun r hr => ?_⟩
    have u5 := same_upd (o := .tup [.ref a, .ref t2, .ref c]) hr
    have U := s13.trans (u4.trans u5)
    exact q r _ U ⟨a, t2, c, ws, upd_same, U _ _ h2, u5 _ _ upd_same, (two2.mono fun v m (h : MoveAt H' v m) => h.same u4).mono fun v m (h : MoveAt _ v m) => h.same u5, U _ _ h5⟩
end
end My
namespace My
open PySem PySem.Spec PyProof.Rows L2
theorem exs_eqv : ∀ a b : List (Nat × Nat), PyData.eqvAll (a.map exD) (b.map exD) = decide (a = b)
  | [], [] => by simp [PyData.eqvAll]
  | [], y :: b => by simp [PyData.eqvAll]
  | x :: a, [] => by simp [PyData.eqvAll]
  | x :: a, y :: b => by
    have ih := exs_eqv a b
    show PyData.eqvAll (exD x :: a.map exD) (exD y :: b.map exD) = _
    simp only [PyData.eqvAll, exD_eqv, ih]
    rw [Bool.eq_iff_iff]
    simp
theorem exT_eqv (a b : List (Nat × Nat)) : PyData.eqv (.tuple (a.map exD)) (.tuple (b.map exD)) = decide (a = b) := by
  rw [← exs_eqv]
  simp only [PyData.eqv]
def alikeB (S : Sy) (orb : List Nat) (x y : Nat) : Bool := (decide (x ∈ S.ac) == decide (y ∈ S.ac)) && decide (exitsL S orb x = exitsL S orb y)
def pairF (al : Nat → Nat → Bool) (x y : Nat) : Option (Nat × Nat) := if al x y = true then none else some (x, y)
def fp (al : Nat → Nat → Bool) (g : List Nat) : Option (Nat × Nat) := (List.range g.length).findSome? fun j => (g.drop (j + 1)).findSome? (pairF al (g.getD j 0))
noncomputable def unlL (S : Sy) : Option (Nat × Nat) := (orbsL S).findSome? fun orb => fp (alikeB S orb) (gatesL S orb)
theorem fs_hit {α β : Type} {l : List α} {f : α → Option β} {i : Nat} {x : α} {r : β} (h : ∀ y ∈ l.take i, f y = none) (hx : l[i]? = some x) (hr : f x = some r) : l.findSome? f = some r := by
  have e : l = l.take i ++ (x :: l.drop (i + 1)) := by
    obtain ⟨hi, e⟩ := List.getElem?_eq_some_iff.mp hx
    rw [← e, ← List.drop_eq_getElem_cons hi, List.take_append_drop]
  rw [e, List.findSome?_append, List.findSome?_eq_none_iff.mpr h, List.findSome?_cons, hr]
  rfl
theorem fs_none {α β : Type} {l : List α} {f : α → Option β} (h : ∀ y ∈ l, f y = none) : l.findSome? f = none := List.findSome?_eq_none_iff.mpr h
theorem cut_lo (g : List Nat) (k : Nat) : cutV (natsV g) (some (k : Int)) none = natsV (g.drop k) := by
  unfold cutV
  rw [HT.sIx_none, HT.sIx_nat, natsV_len]
  have : (natsV g).drop (min k g.length) = natsV (g.drop k) := by
    unfold natsV
    rw [← List.map_drop]
    by_cases h : k ≤ g.length
    · rw [Nat.min_eq_left h]
    · rw [Nat.min_eq_right (by omega), List.drop_length, List.drop_eq_nil_of_le (by omega)]
  rw [this, List.take_of_length_le]
  rw [natsV_len, List.length_drop]
  omega
def UnlAt (H : Hp) (v : V) : Option (Nat × Nat) → Prop
  | none => v = .non
  | some x => ∃ t, v = .ref t ∧ H t = some (.tup [.int (x.1 : Int), .int (x.2 : Int)])
def spAlike : Sp := fun vs H Q _ => ∃ (p o : Addr) (S : Sy) (orb : List Nat) (x y : Nat), vs = [.ref p, .ref o, .int x, .int y] ∧ SysAt H p S ∧ Good S ∧ H o = some (.tup (natsV orb)) ∧ ∀ H', Same H H' → Q (.bl (alikeB S orb x y)) H'
def spUnl : Sp := fun vs H Q _ => ∃ (p : Addr) (S : Sy), vs = [.ref p] ∧ SysAt H p S ∧ Good S ∧ ∀ v H', Same H H' → UnlAt H' v (unlL S) → Q v H'
section
variable {P : Program} {w : World} {K : PySem.W.Frag} {mg : Str → Option Value} {base : Heap} {tL tM tV : Tok}
abbrev N_are_alike : List Str := ["system", "orbit", "one", "other"]
theorem sc_are_alike : FnScope ["system", "orbit", "one", "other"] ["system", "orbit", "one", "other"] (defScope s_are_alike) := ⟨rfl, rfl, rfl, by decide +kernel, rfl, by decide +kernel, by decide +kernel⟩
theorem ok_alike {f : Addr} {fd : FuncData} (B : Bt K mg tL tM tV) (Dd : Df K mg "are_alike" s_are_alike ["system", "orbit", "one", "other"] f fd) (Gexits_of : Cl P w K mg base 1 "exits_of" ["system", "orbit", "state"] spExitsOf) : FnOk P w K mg base CX0 2 f fd ["system", "orbit", "one", "other"] spAlike := by
  refine Dd.F.ok sc_are_alike (fun vs H Q Ex h => ?_) (fun cdv A outer s H vs Q Ex hr h => ?_)
  · obtain ⟨p, o, S, orb, x, y, rfl, _⟩ := h
    rfl
  obtain ⟨p, o, S, orb, x, y, rfl, hS, hG, ho, q⟩ := h
  refine ⟨_, (pss_cons (ps_if (pt_cmpR op_ne (pe_cmpR (r := rInB K) (op_in_seqB rfl) (pv 2) (pe_ix (r := rIxT K) ix_tup (pv 0) pe_int (fun _ _ => rfl)) rfl) (pe_cmpR (r := rInB K) (op_in_seqB rfl) (pv 3) (pe_ix (r := rIxT K) ix_tup (pv 0) pe_int (fun _ _ => rfl)) rfl) (nomark _)) (pss_one (ps_ret pe_bl)) pss_nil)
    (pss_one (ps_ret (pe_cmpR (op_eqD (u64 hr)) (pe_cl Gexits_of (hr.mono (by omega)) rfl (pa_cons (pv 0) (pa_cons (pv 1) (pa_cons (pv 2) pa_nil)))) (pe_cl Gexits_of (hr.mono (by omega)) rfl (pa_cons (pv 0) (pa_cons (pv 1) (pa_cons (pv 3) pa_nil)))) (nomark _))))), ?_⟩
  obtain ⟨a, b, c, ts, h1, h2, h3, h4, h5⟩ := hS.ex
  refine ⟨_, rfl, _, rfl, p, _, 2, _, rfl, rfl, SqT.of h1, at_of (j := 2) rfl rfl, c, _, rfl, .inr (SqT.of h5), rfl, flat_nats _, ?_⟩
  refine ⟨_, rfl, _, rfl, p, _, 2, _, rfl, rfl, SqT.of h1, at_of (j := 2) rfl rfl, c, _, rfl, .inr (SqT.of h5), rfl, flat_nats _, ?_⟩
  refine ⟨rfl, _, rfl, ?_⟩
  have e0 : decide (V.bl (if false = true then !inV (V.int (x : Int)) (natsV S.ac) else inV (V.int (x : Int)) (natsV S.ac)) = V.bl (if false = true then !inV (V.int (y : Int)) (natsV S.ac) else inV (V.int (y : Int)) (natsV S.ac))) = (decide (x ∈ S.ac) == decide (y ∈ S.ac)) := by
    rw [if_neg Bool.false_ne_true, if_neg Bool.false_ne_true, in_nats, in_nats, dec_bl]
  rw [e0]
  have ad : alikeB S orb x y = ((decide (x ∈ S.ac) == decide (y ∈ S.ac)) && decide (exitsL S orb x = exitsL S orb y)) := rfl
  cases c1 : (decide (x ∈ S.ac) == decide (y ∈ S.ac)) with
  | false =>
    have := q H (Same.refl _)
    rw [ad, c1, Bool.false_and] at this
    exact iteT this
  | true =>
    refine iteF ?_
    refine ⟨_, rfl, _, rfl, _, rfl, p, o, S, orb, x, rfl, hS, hG, ho, fun t1 H1 s1 x1 => ⟨_, rfl, _, rfl, _, rfl, p, o, S, orb, y, rfl, hS.same s1, hG, s1 _ _ ho, fun t2 H2 s2 x2 => ⟨_, _, dp_exs (x1.same s2), dp_exs x2, exDs_shaped (exits_le hG), exDs_shaped (exits_le hG), ?_⟩⟩⟩
    have := q H2 (s1.trans s2)
    rw [ad, c1, Bool.true_and] at this
    rw [exT_eqv]
    exact this
abbrev N_unlike_gates_of : List Str := ["system", "orbit", "found", "at", "one", "other"]
theorem sc_unlike_gates_of : FnScope ["system", "orbit", "found", "at", "one", "other"] ["system"] (defScope s_unlike_gates_of) := ⟨rfl, rfl, rfl, by decide +kernel, rfl, by decide +kernel, by decide +kernel⟩
set_option maxHeartbeats 1000000 in
theorem ok_unlof {f : Addr} {fd : FuncData} (B : Bt K mg tL tM tV) (Dd : Df K mg "unlike_gates_of" s_unlike_gates_of ["system"] f fd) (Gorbits_of : Cl P w K mg base 2 "orbits_of" ["system"] spOrbitsOf) (Ggates_of : Cl P w K mg base 2 "gates_of" ["system", "orbit"] spGatesOf) (Gare_alike : Cl P w K mg base 2 "are_alike" ["system", "orbit", "one", "other"] spAlike) : FnOk P w K mg base CX0 3 f fd ["system"] spUnl := by
  refine Dd.F.ok sc_unlike_gates_of (fun vs H Q Ex h => ?_) (fun cdv A outer s H vs Q Ex hr h => ?_)
  · obtain ⟨p, S, rfl, _⟩ := h
    rfl
  obtain ⟨p, S, rfl, hS, hG, q⟩ := h
  refine ⟨_, (pss_cons (ps_for PassesOwn.never rfl (pi_list (pe_cl Gorbits_of (hr.mono (by omega)) rfl (pa_cons (pv 0) pa_nil))) (pg_name (i := 1) sc_unlike_gates_of.nd rfl (Or.inl rfl)) (pss_cons (ps_set (i := 2) sc_unlike_gates_of.nd rfl (Or.inl rfl) (pe_cl Ggates_of (hr.mono (by omega)) rfl (pa_cons (pv 0) (pa_cons (pv 1) pa_nil))))
    (pss_one (ps_for PassesOwn.never rfl (pi_enumT rfl B.b_enumerate (pa_cons (pv 2) pa_nil)) (pg_tup rfl (pgs_cons (pg_name (i := 3) sc_unlike_gates_of.nd rfl (Or.inl rfl)) (pgs_cons (pg_name (i := 4) sc_unlike_gates_of.nd rfl (Or.inl rfl)) pgs_nil))) (pss_one (ps_for PassesOwn.never rfl (pi_tup (pe_slice sl_tupA (pv 2) (po_some (pe_op op_add (pv 3) pe_int)) po_none)) (pg_name (i := 5) sc_unlike_gates_of.nd rfl (Or.inl rfl)) (pss_one (ps_if (pt_not (pt_val (pe_cl Gare_alike (hr.mono (by omega)) rfl (pa_cons (pv 0) (pa_cons (pv 1) (pa_cons (pv 4) (pa_cons (pv 5) pa_nil))))))) (pss_one (ps_ret (pe_tup (pa_cons (pv 4) (pa_cons (pv 5) pa_nil))))) pss_nil))))))))
    (pss_one (ps_ret pe_non))), ?_⟩
  refine ⟨_, rfl, p, S, rfl, hS, hG, fun R H1 s1 hR0 hRT => ?_⟩
  obtain ⟨ts, hts, two⟩ := hRT
  have tl := two.len
  refine ⟨R, rfl, ⟨_, SqL.of hts⟩, for_list (K := K) (a := R) (xs := ts) (fun i σ' H' => ∃ (o1 o2 o3 o4 o5 : Option V), σ' = [some (.ref p), o1, o2, o3, o4, o5] ∧ Same H1 H' ∧ ∀ orb ∈ (orbsL S).take i, fp (alikeB S orb) (gatesL S orb) = none) ?_ ?_ ?_ ?_⟩
  · exact ⟨none, none, none, none, none, rfl, Same.refl _, fun orb h => by (cases h)⟩
  · rintro i σ' H' _ ⟨o1, o2, o3, o4, o5, rfl, s2, _⟩
    exact SqL.of (s2 _ _ hts)
  · rintro i v σ' H2 hv ⟨o1, o2, o3, o4, o5, rfl, s2, hno⟩
    obtain ⟨row, hrow, q1, rfl, hq1⟩ := two.get hv
    obtain ⟨x0, _, er, _, _⟩ := orbs_get hrow
    have rl : row.length ≤ 40 := by rw [er]; exact orb_len hG x0
    have S2 := s1.trans s2
    refine ⟨_, rfl, _, rfl, p, q1, S, row, rfl, hS.same S2, hG, s2 _ _ hq1, by omega, fun g H3 s3 hg => ?_⟩
    have S3 := S2.trans s3
    generalize hgs : gatesL S row = gs at hg
    refine ⟨_, rfl, g, _, rfl, SqT.of hg, for_enumT (K := K) (a := g) (xs := natsV gs) (fun j σ' H' => ∃ (o3 o4 o5 : Option V), σ' = [some (.ref p), some (.ref q1), some (.ref g), o3, o4, o5] ∧ Same H3 H' ∧ ∀ k < j, (gs.drop (k + 1)).findSome? (pairF (alikeB S row) (gs.getD k 0)) = none) ?_ ?_ ?_ ?_⟩
    · exact ⟨_, _, _, rfl, Same.refl _, fun k hk => by omega⟩
    · rintro j σ' H' _ ⟨o3, o4, o5, rfl, s4, _⟩
      exact SqT.of (s4 _ _ hg)
    · rintro j v T σ' H4 hv4 ⟨o3, o4, o5, rfl, s4, hnoj⟩ hT
      obtain ⟨x, hx, rfl⟩ := natsV_getB hv4
      have uT := same_upd (o := .tup [V.int (j : Nat), .int (x : Int)]) hT
      have gx : gs.getD j 0 = x := by rw [List.getD_eq_getElem?_getD, hx]; rfl
      refine ⟨T, _, rfl, SqT.of upd_same, rfl, _, _, rfl, _, _, rfl, rfl, ?_⟩
      refine ⟨_, rfl, _, rfl, _, _, rfl, rfl, ?_⟩
      have e1 : ((j : Int) + 1) = ((j + 1 : Nat) : Int) := by omega
      refine ⟨_, rfl, slA_lo (uT _ _ (s4 _ _ hg)) fun Z H5 s5 hZ => ?_⟩
      have hZ : H5 Z = some (.tup (cutV (natsV gs) (some ((j : Int) + 1)) none)) := hZ
      rw [e1, cut_lo] at hZ
      have S5 := S3.trans (s4.trans (uT.trans s5))
      have hq5 := (s3.trans (s4.trans (uT.trans s5))) _ _ (s2 _ _ hq1)
      have hg5 := (s4.trans (uT.trans s5)) _ _ hg
      refine ⟨Z, rfl, ⟨_, SqT.of hZ⟩, for_tup (K := K) (a := Z) (xs := natsV (gs.drop (j + 1))) (fun k σ' H' => ∃ (o5 : Option V), σ' = [some (.ref p), some (.ref q1), some (.ref g), some (.int (j : Nat)), some (.int (x : Int)), o5] ∧ Same H5 H' ∧ ∀ y ∈ (gs.drop (j + 1)).take k, pairF (alikeB S row) x y = none) ?_ ?_ ?_ ?_⟩
      · exact ⟨_, rfl, Same.refl _, fun y hy => by (cases hy)⟩
      · rintro k σ' H' _ ⟨o5, rfl, s6, _⟩
        exact SqT.of (s6 _ _ hZ)
      · rintro k v σ' H6 hv6 ⟨o5, rfl, s6, hnok⟩
        obtain ⟨y, hy, rfl⟩ := natsV_getB hv6
        have S6 := S5.trans s6
        refine ⟨_, rfl, _, rfl, _, rfl, _, rfl, p, q1, S, row, x, y, rfl, hS.same S6, hG, s6 _ _ hq5, fun H7 s7 => ⟨_, rfl, ?_⟩⟩
        have S7 := S6.trans s7
        cases hal : alikeB S row x y with
        | true =>
          refine iteF ⟨_, rfl, s6.trans s7, fun z hz => ?_⟩
          rw [take_snoc hy] at hz
          rcases List.mem_append.mp hz with hz | hz
          · exact hnok z hz
          · rw [List.mem_singleton.mp hz]
            unfold pairF
            rw [if_pos hal]
        | false =>
          refine iteT ⟨_, rfl, _, rfl, by show 2 ≤ sizeLine; decide, fun t ht => ?_⟩
          refine q _ _ (S7.trans (same_upd ht)) ?_
          have hp : pairF (alikeB S row) x y = some (x, y) := by
            unfold pairF
            rw [if_neg (by rw [hal]; exact Bool.false_ne_true)]
          have h1 : (gs.drop (j + 1)).findSome? (pairF (alikeB S row) (gs.getD j 0)) = some (x, y) := by
            rw [gx]
            exact fs_hit hnok hy hp
          have h2 : fp (alikeB S row) (gatesL S row) = some (x, y) := by
            unfold fp
            rw [hgs]
            have jl : j < gs.length := (List.getElem?_eq_some_iff.mp hx).1
            refine fs_hit (i := j) (x := j) (fun z hz => ?_) (by rw [List.getElem?_range jl]) h1
            have : z < j := by
              rw [List.take_range] at hz
              have := List.mem_range.mp hz
              omega
            exact hnoj z this
          have h3 : unlL S = some (x, y) := fs_hit hno hrow h2
          rw [h3]
          exact ⟨t, rfl, upd_same⟩
      · rintro σ' H6 ⟨o5, rfl, s6, hnok⟩
        rw [natsV_len, List.take_length] at hnok
        refine ⟨_, _, _, rfl, s4.trans (uT.trans (s5.trans s6)), fun k hk => ?_⟩
        by_cases c : k = j
        · rw [c, gx]
          exact fs_none hnok
        · exact hnoj k (by omega)
    · rintro σ' H4 ⟨o3, o4, o5, rfl, s4, hnoj⟩
      rw [natsV_len] at hnoj
      refine ⟨_, _, _, _, _, rfl, s2.trans (s3.trans s4), fun orb ho => ?_⟩
      rw [take_snoc hrow] at ho
      rcases List.mem_append.mp ho with ho | ho
      · exact hno orb ho
      · rw [List.mem_singleton.mp ho]
        unfold fp
        rw [hgs]
        exact fs_none fun k hk => hnoj k (List.mem_range.mp hk)
  · rintro σ' H2 ⟨o1, o2, o3, o4, o5, rfl, s2, hno⟩
    rw [tl, List.take_length] at hno
    refine q .non H2 (s1.trans s2) ?_
    have : unlL S = none := fs_none hno
    rw [this]
    exact rfl
end
end My
namespace My
open PySem PySem.Spec PyProof.Rows L2
noncomputable def reachL (S : Sy) (s : Nat) : List Nat := S.st.filter fun n => dec (Rch S s n)
theorem mem_reach {S : Sy} (G : Good S) {s n : Nat} (hs : s ∈ S.st) : n ∈ reachL S s ↔ Rch S s n := by
  unfold reachL
  rw [List.mem_filter, dec_iff]
  exact ⟨fun h => h.2, fun h => ⟨h.mem G hs, h⟩⟩
theorem reach_rise {S : Sy} (G : Good S) (s : Nat) : (reachL S s).Pairwise (· < ·) := G.rise.sublist List.filter_sublist
/-- ints that are sorted are the naturals that rise -/
theorem sorted_nats {ns : List Int} {fs rs : List Nat} (hp : ns.Perm (fs.map fun (n : Nat) => (n : Int))) (hs : ns.Pairwise (· ≤ ·)) (nd : fs.Nodup) (hr : rs.Pairwise (· < ·)) (hm : ∀ n, n ∈ fs ↔ n ∈ rs) : ns = rs.map fun (n : Nat) => (n : Int) := by
  have hn : ∀ x ∈ ns, 0 ≤ x := fun x hx => by
    obtain ⟨n, _, rfl⟩ := List.mem_map.mp (hp.mem_iff.mp hx)
    omega
  have e : ns = (ns.map Int.toNat).map fun (n : Nat) => (n : Int) := by
    rw [List.map_map]
    refine (List.map_id ns).symm.trans (List.map_congr_left fun x hx => ?_)
    have := hn x hx
    show x = ((x.toNat : Nat) : Int)
    omega
  have nd2 : ns.Nodup := hp.nodup_iff.mpr (by
    rw [List.nodup_iff_pairwise_ne, List.pairwise_map]
    exact nd.imp fun h => by omega)
  have st : ns.Pairwise (· < ·) := by
    have := List.Pairwise.and hs nd2
    exact this.imp fun h => by omega
  have r1 : (ns.map Int.toNat).Pairwise (· < ·) := by
    rw [List.pairwise_map]
    refine st.imp_of_mem fun {x y} hx hy h => ?_
    have := hn x hx
    omega
  have : ns.map Int.toNat = rs := rise_ext _ _ r1 hr fun n => by
    rw [← hm]
    constructor
    · intro h
      obtain ⟨x, hx, rfl⟩ := List.mem_map.mp h
      obtain ⟨n, hn, e⟩ := List.mem_map.mp (hp.mem_iff.mp hx)
      rw [← e]
      exact hn
    · intro h
      exact List.mem_map.mpr ⟨(n : Int), hp.mem_iff.mpr (List.mem_map_of_mem h), by omega⟩
  rw [e, this]
def roundB (S : Sy) (orb : List Nat) : Bool := S.mv.any fun m => decide (m.1 ∈ orb) && decide (m.2.2 ∈ orb)
def spReach : Sp := fun vs H Q _ => ∃ (p : Addr) (S : Sy) (s : Nat), vs = [.ref p, .int s] ∧ SysAt H p S ∧ Good S ∧ s ∈ S.st ∧ ∀ (t : Addr) H', Same H H' → H' t = some (.tup (natsV (reachL S s))) → Q (.ref t) H'
def spRound : Sp := fun vs H Q _ => ∃ (p o : Addr) (S : Sy) (orb : List Nat), vs = [.ref p, .ref o] ∧ SysAt H p S ∧ Good S ∧ H o = some (.tup (natsV orb)) ∧ ∀ H', Same H H' → Q (.bl (roundB S orb)) H'
def spGoes : Sp := fun vs H Q _ => ∃ (p : Addr) (S : Sy) (s : Nat), vs = [.ref p, .int s] ∧ SysAt H p S ∧ Good S ∧ s ∈ S.st ∧ ∀ H', Same H H' → Q (.bl (roundB S (orbL S s))) H'
section
variable {P : Program} {w : World} {K : PySem.W.Frag} {mg : Str → Option Value} {base : Heap} {tL tM tV : Tok}
abbrev N_is_round : List Str := ["system", "orbit", "start", "_", "end"]
theorem sc_is_round : FnScope ["system", "orbit", "start", "_", "end"] ["system", "orbit"] (defScope s_is_round) := ⟨rfl, rfl, rfl, by decide +kernel, rfl, by decide +kernel, by decide +kernel⟩
theorem ok_round {f : Addr} {fd : FuncData} (B : Bt K mg tL tM tV) (Dd : Df K mg "is_round" s_is_round ["system", "orbit"] f fd) : FnOk P w K mg base CX0 1 f fd ["system", "orbit"] spRound := by
  refine Dd.F.ok sc_is_round (fun vs H Q Ex h => ?_) (fun cdv A outer s H vs Q Ex hr h => ?_)
  · obtain ⟨p, o, S, orb, rfl, _⟩ := h
    rfl
  obtain ⟨p, o, S, orb, rfl, hS, hG, ho, q⟩ := h
  refine ⟨_, (pss_one (ps_ret (pe_callB (cr_any rfl) rfl B.b_any boot_any (pa_cons (pe_lc (own := [("start", 2), ("_", 3), ("end", 4)]) (g := gTup K 3 (gCons (gName 2) (gCons (gName 3) (gCons (gName 4) gNil)))) (tt := tYes) rfl sc_is_round.nd (pi_tup (pe_ix (r := rIxT K) ix_tup (pv 0) pe_int (fun _ _ => rfl))) (blkOk_by (N := N_is_round) (sc := defScope s_is_round) (by decide +kernel)) (fun _ _ _ _ _ => pg_tup rfl (pgs_cons (pg_name (i := 2) sc_is_round.nd rfl (Or.inl rfl)) (pgs_cons (pg_name (i := 3) sc_is_round.nd rfl (Or.inl rfl)) (pgs_cons (pg_name (i := 4) sc_is_round.nd rfl (Or.inl rfl)) pgs_nil)))) (fun _ _ _ _ _ => pts_nil) (fun _ _ _ _ _ => (pe_and (pe_cmpR (r := rInB K) (op_in_seqB rfl) (pv 2) (pv 1) rfl) (pe_one (pe_cmpR (r := rInB K) (op_in_seqB rfl) (pv 4) (pv 1) rfl))))) pa_nil)))), ?_⟩
  obtain ⟨a, b, c, ts, h1, h2, h3, h4, h5⟩ := hS.ex
  have ml := hG.ml
  refine ⟨_, rfl, p, _, 1, _, rfl, rfl, SqT.of h1, at_one, b, rfl, ⟨_, SqT.of h3⟩, fun M hM => ?_⟩
  refine lc_tupR (K := K) (a := b) (xs := ts) (fun j => ((S.mv.take j).map fun m => decide (m.1 ∈ orb) && decide (m.2.2 ∈ orb)).map V.bl) rfl (fun j => ?_) hM (SqT.of h3) (fun j x H' hx s1 fin fin0 => ?_) (fun H1 s1 hk1 => ?_)
  · rw [List.length_map, List.length_map, List.length_take]
    omega
  · obtain ⟨m, hm, hmv⟩ := h4.get hx
    obtain ⟨t, rfl, ht⟩ := hmv.same s1
    have ho1 := s1 _ _ ho
    have fin2 := fin (.bl (decide (m.1 ∈ orb) && decide (m.2.2 ∈ orb))) H' (by rw [take_snoc hm, List.map_append, List.map_append]; rfl) (Same.refl _)
    refine ⟨t, _, rfl, SqT.of ht, rfl, _, _, rfl, _, _, rfl, _, _, rfl, rfl, rfl, tyes ⟨_, rfl, _, rfl, o, _, rfl, .inr (SqT.of ho1), rfl, flat_nats _, ?_⟩⟩
    refine ⟨_, rfl, ?_⟩
    show if inV (V.int (m.1 : Int)) (natsV orb) = true then _ else _
    rw [in_nats]
    refine ite2 (fun c1 => ?_) (fun c1 => ?_)
    · refine ⟨_, rfl, _, rfl, o, _, rfl, .inr (SqT.of ho1), rfl, flat_nats _, ?_⟩
      have e : (if false = true then !inV (V.int (m.2.2 : Int)) (natsV orb) else inV (V.int (m.2.2 : Int)) (natsV orb)) = (decide (m.1 ∈ orb) && decide (m.2.2 ∈ orb)) := by
        rw [if_neg Bool.false_ne_true, in_nats, c1, Bool.true_and]
      rw [e]
      exact fin2
    · rw [eq_false_of_ne_true c1, Bool.false_and] at fin2
      exact fin2
  · rw [h4.len, List.take_length] at hk1
    refine ⟨M, _, rfl, SqL.of hk1, ?_⟩
    have e : (((S.mv.map fun m => decide (m.1 ∈ orb) && decide (m.2.2 ∈ orb)).any id) : Bool) = roundB S orb := by
      unfold roundB
      rw [List.any_map]
      rfl
    rw [e]
    exact q H1 s1
abbrev N__law_round : List Str := ["system", "orbit", "start", "letter", "end"]
theorem sc__law_round : FnScope ["system", "orbit", "start", "letter", "end"] ["system", "orbit"] (defScope s__law_round) := ⟨rfl, rfl, rfl, by decide +kernel, rfl, by decide +kernel, by decide +kernel⟩
theorem ok_lround {f : Addr} {fd : FuncData} (B : Bt K mg tL tM tV) (Dd : Df K mg "_law_round" s__law_round ["system", "orbit"] f fd) : FnOk P w K mg base CX0 1 f fd ["system", "orbit"] spRound := by
  refine Dd.F.ok sc__law_round (fun vs H Q Ex h => ?_) (fun cdv A outer s H vs Q Ex hr h => ?_)
  · obtain ⟨p, o, S, orb, rfl, _⟩ := h
    rfl
  obtain ⟨p, o, S, orb, rfl, hS, hG, ho, q⟩ := h
  refine ⟨_, (pss_one (ps_ret (pe_callB (cr_any rfl) rfl B.b_any boot_any (pa_cons (pe_lc (own := [("start", 2), ("letter", 3), ("end", 4)]) (g := gTup K 3 (gCons (gName 2) (gCons (gName 3) (gCons (gName 4) gNil)))) (tt := tYes) rfl sc__law_round.nd (pi_tup (pe_ix (r := rIxT K) ix_tup (pv 0) pe_int (fun _ _ => rfl))) (blkOk_by (N := N__law_round) (sc := defScope s__law_round) (by decide +kernel)) (fun _ _ _ _ _ => pg_tup rfl (pgs_cons (pg_name (i := 2) sc__law_round.nd rfl (Or.inl rfl)) (pgs_cons (pg_name (i := 3) sc__law_round.nd rfl (Or.inl rfl)) (pgs_cons (pg_name (i := 4) sc__law_round.nd rfl (Or.inl rfl)) pgs_nil)))) (fun _ _ _ _ _ => pts_nil) (fun _ _ _ _ _ => (pe_and (pe_cmpR (r := rInB K) (op_in_seqB rfl) (pv 2) (pv 1) rfl) (pe_one (pe_cmpR (r := rInB K) (op_in_seqB rfl) (pv 4) (pv 1) rfl))))) pa_nil)))), ?_⟩
  obtain ⟨a, b, c, ts, h1, h2, h3, h4, h5⟩ := hS.ex
  have ml := hG.ml
  refine ⟨_, rfl, p, _, 1, _, rfl, rfl, SqT.of h1, at_one, b, rfl, ⟨_, SqT.of h3⟩, fun M hM => ?_⟩
  refine lc_tupR (K := K) (a := b) (xs := ts) (fun j => ((S.mv.take j).map fun m => decide (m.1 ∈ orb) && decide (m.2.2 ∈ orb)).map V.bl) rfl (fun j => ?_) hM (SqT.of h3) (fun j x H' hx s1 fin fin0 => ?_) (fun H1 s1 hk1 => ?_)
  · rw [List.length_map, List.length_map, List.length_take]
    omega
  · obtain ⟨m, hm, hmv⟩ := h4.get hx
    obtain ⟨t, rfl, ht⟩ := hmv.same s1
    have ho1 := s1 _ _ ho
    have fin2 := fin (.bl (decide (m.1 ∈ orb) && decide (m.2.2 ∈ orb))) H' (by rw [take_snoc hm, List.map_append, List.map_append]; rfl) (Same.refl _)
    refine ⟨t, _, rfl, SqT.of ht, rfl, _, _, rfl, _, _, rfl, _, _, rfl, rfl, rfl, tyes ⟨_, rfl, _, rfl, o, _, rfl, .inr (SqT.of ho1), rfl, flat_nats _, ?_⟩⟩
    refine ⟨_, rfl, ?_⟩
    show if inV (V.int (m.1 : Int)) (natsV orb) = true then _ else _
    rw [in_nats]
    refine ite2 (fun c1 => ?_) (fun c1 => ?_)
    · refine ⟨_, rfl, _, rfl, o, _, rfl, .inr (SqT.of ho1), rfl, flat_nats _, ?_⟩
      have e : (if false = true then !inV (V.int (m.2.2 : Int)) (natsV orb) else inV (V.int (m.2.2 : Int)) (natsV orb)) = (decide (m.1 ∈ orb) && decide (m.2.2 ∈ orb)) := by
        rw [if_neg Bool.false_ne_true, in_nats, c1, Bool.true_and]
      rw [e]
      exact fin2
    · rw [eq_false_of_ne_true c1, Bool.false_and] at fin2
      exact fin2
  · rw [h4.len, List.take_length] at hk1
    refine ⟨M, _, rfl, SqL.of hk1, ?_⟩
    have e : (((S.mv.map fun m => decide (m.1 ∈ orb) && decide (m.2.2 ∈ orb)).any id) : Bool) = roundB S orb := by
      unfold roundB
      rw [List.any_map]
      rfl
    rw [e]
    exact q H1 s1
end
end My
namespace My
open PySem PySem.Spec PyProof.Rows L2
theorem psd_eqv : ∀ a b : List Nat, PyData.eqvAll (psd a) (psd b) = decide (a = b)
  | [], [] => by simp [psd, PyData.eqvAll]
  | [], y :: b => by simp [psd, PyData.eqvAll]
  | x :: a, [] => by simp [psd, PyData.eqvAll]
  | x :: a, y :: b => by
    have ih := psd_eqv a b
    show PyData.eqvAll (PyData.int (x : Int) :: psd a) (PyData.int (y : Int) :: psd b) = _
    simp only [PyData.eqvAll, PyData.eqv, ih]
    rw [Bool.eq_iff_iff]
    simp
    omega
theorem row_eqv (a b : List Nat) : PyData.eqv (.tuple (psd a)) (.tuple (psd b)) = decide (a = b) := by
  rw [← psd_eqv]
  simp only [PyData.eqv]
theorem rowsall_eqv : ∀ a b : List (List Nat), PyData.eqvAll (a.map fun r => PyData.tuple (psd r)) (b.map fun r => PyData.tuple (psd r)) = decide (a = b)
  | [], [] => by simp [PyData.eqvAll]
  | [], y :: b => by simp [PyData.eqvAll]
  | x :: a, [] => by simp [PyData.eqvAll]
  | x :: a, y :: b => by
    have ih := rowsall_eqv a b
    show PyData.eqvAll (PyData.tuple (psd x) :: a.map fun r => PyData.tuple (psd r)) (PyData.tuple (psd y) :: b.map fun r => PyData.tuple (psd r)) = _
    simp only [PyData.eqvAll, row_eqv, ih]
    rw [Bool.eq_iff_iff]
    simp
theorem lists_eqv (a b : List (List Nat)) : PyData.eqv (.list (a.map fun r => PyData.tuple (psd r))) (.list (b.map fun r => PyData.tuple (psd r))) = decide (a = b) := by
  rw [← rowsall_eqv]
  simp only [PyData.eqv]
theorem rows_lay : ∀ rows : List (List Nat), PyData.canLayAll0 (rows.map fun r => PyData.tuple (psd r)) = true
  | [] => by simp [PyData.canLayAll0]
  | r :: rows => by
    have ih := rows_lay rows
    have h1 := psd_lay r
    simp [PyData.canLayAll0, PyData.canLay0] at ih h1 ⊢
    exact ⟨h1, ih⟩
theorem rows_dep : ∀ rows : List (List Nat), PyData.depthAll (rows.map fun r => PyData.tuple (psd r)) ≤ 1
  | [] => by simp [PyData.depthAll]
  | r :: rows => by
    have ih := rows_dep rows
    have h1 := psd_dep r
    simp only [List.map_cons, PyData.depthAll, PyData.depth, h1]
    omega
theorem rows_shaped (rows : List (List Nat)) : SeqAt.shaped (.list (rows.map fun r => PyData.tuple (psd r))) = true := by
  show (PyData.canLay0 (.list (rows.map fun r => PyData.tuple (psd r))) && decide (PyData.depth (.list (rows.map fun r => PyData.tuple (psd r))) ≤ 64)) = true
  have h1 : PyData.canLay0 (.list (rows.map fun r => PyData.tuple (psd r))) = true := rows_lay rows
  have h2 : PyData.depth (.list (rows.map fun r => PyData.tuple (psd r))) = PyData.depthAll (rows.map fun r => PyData.tuple (psd r)) + 1 := by simp [PyData.depth]
  have h3 := rows_dep rows
  rw [h1, h2, Bool.true_and]
  exact decide_eq_true (by omega)
/-- what is inward of an orbit -/
def innS (S : Sy) (orb : List Nat) : Sy := ⟨orb, S.mv.filter fun m => decide (m.1 ∈ orb) && decide (m.2.2 ∈ orb), gatesL S orb⟩
noncomputable def stuckB (S : Sy) : Bool := decide (orbsL S = [S.st]) && (roundB S S.st && decide (consL S = []))
def spInner : Sp := fun vs H Q _ => ∃ (p o : Addr) (S : Sy) (orb : List Nat), vs = [.ref p, .ref o] ∧ SysAt H p S ∧ Good S ∧ H o = some (.tup (natsV orb)) ∧ orb.length ≤ 1000 ∧ ∀ (t : Addr) H', Same H H' → SysAt H' t (innS S orb) → Q (.ref t) H'
def spStuck : Sp := fun vs H Q _ => ∃ (p : Addr) (S : Sy), vs = [.ref p] ∧ SysAt H p S ∧ Good S ∧ ∀ H', Same H H' → Q (.bl (stuckB S)) H'
theorem cons_le {S : Sy} : ∀ x ∈ consL S, x.1 ≤ 100 := fun x h => ((mem_cons_fst (S := S)).mp (List.mem_map_of_mem h)).1.2
section
variable {P : Program} {w : World} {K : PySem.W.Frag} {mg : Str → Option Value} {base : Heap} {tL tM tV : Tok}
theorem dp_rows {H : Hp} {L : Addr} {ts : List V} {rows : List (List Nat)} (h : H L = some (.lst ts)) (two : Two (fun t row => ∃ q, t = V.ref q ∧ H q = some (.tup (natsV row))) ts rows) : Dp K H (.ref L) (.list (rows.map fun r => PyData.tuple (psd r))) := by
  refine .lst (SqL.of h) ?_
  clear h
  induction two with
  | nil => exact .nil
  | cons h _ ih =>
    obtain ⟨q, rfl, hq⟩ := h
    exact .cons (.tup (SqT.of hq) (dpAll_ints _)) ih
abbrev N_inner_of : List Str := ["system", "orbit", "moves", "move"]
theorem sc_inner_of : FnScope ["system", "orbit", "moves", "move"] ["system", "orbit"] (defScope s_inner_of) := ⟨rfl, rfl, rfl, by decide +kernel, rfl, by decide +kernel, by decide +kernel⟩
theorem ok_inner {f : Addr} {fd : FuncData} (B : Bt K mg tL tM tV) (Dd : Df K mg "inner_of" s_inner_of ["system", "orbit"] f fd) (Ggates_of : Cl P w K mg base 2 "gates_of" ["system", "orbit"] spGatesOf) : FnOk P w K mg base CX0 3 f fd ["system", "orbit"] spInner := by
  refine Dd.F.ok sc_inner_of (fun vs H Q Ex h => ?_) (fun cdv A outer s H vs Q Ex hr h => ?_)
  · obtain ⟨p, o, S, orb, rfl, _⟩ := h
    rfl
  obtain ⟨p, o, S, orb, rfl, hS, hG, ho, hol, q⟩ := h
  refine ⟨_, (pss_cons (ps_setLc (i := 2) (own := [("move", 3)]) (g := gName 3) rfl sc_inner_of.nd rfl rfl (sw_true rfl rfl rfl (by decide +kernel)) (pi_tup (pe_ix (r := rIxT K) ix_tup (pv 0) pe_int (fun _ _ => rfl))) (blkOk_by (N := N_inner_of) (sc := defScope s_inner_of) (by decide +kernel)) (fun _ _ _ _ _ => pg_name (i := 3) sc_inner_of.nd rfl (Or.inl rfl)) (fun _ _ _ _ _ => pts_one (PW.pt (pw_and (pt_cmpR (r := rInB K) (op_in_seqB rfl) (pe_ix (r := rIxT K) ix_tup (pv 3) pe_int (fun _ _ => rfl)) (pv 1) rfl) (pw_and1 (pt_cmpR (r := rInB K) (op_in_seqB rfl) (pe_ix (r := rIxT K) ix_tup (pv 3) pe_int (fun _ _ => rfl)) (pv 1) rfl))))) (fun _ _ _ _ _ => (pv 3)))
    (pss_one (ps_ret (pe_tup (pa_cons (pv 1) (pa_cons (pe_callTy (r := rTupOf K) call_tuple_ofK rfl B.b_tuple boot_tuple (pa_cons (pv 2) pa_nil)) (pa_cons (pe_cl Ggates_of (hr.mono (by omega)) rfl (pa_cons (pv 0) (pa_cons (pv 1) pa_nil))) pa_nil))))))), ?_⟩
  obtain ⟨a, b, c, ts, h1, h2, h3, h4, h5⟩ := hS.ex
  have ml := hG.ml
  refine ⟨_, rfl, p, _, 1, _, rfl, rfl, SqT.of h1, at_one, b, rfl, ⟨_, SqT.of h3⟩, fun M hM => ?_⟩
  refine lc_tup (K := K) (a := b) (xs := ts) (fun j H' => Same H H' ∧ ∃ ws : List V, H' M = some (.lst ws) ∧ Two (MoveAt H') ws ((S.mv.take j).filter fun m => decide (m.1 ∈ orb) && decide (m.2.2 ∈ orb))) ⟨same_upd hM, [], upd_same, .nil⟩ (fun i H' _ h => SqT.of (h.1 _ _ h3)) (fun j x H' hx h => ?_) (fun H' h => ?_)
  · obtain ⟨s3, ws, hws, two2⟩ := h
    obtain ⟨m, hm, hmv⟩ := h4.get hx
    obtain ⟨q1, rfl, ht⟩ := hmv.same s3
    have tk := take_snoc hm
    have ho1 := s3 _ _ ho
    have wl : ws.length ≤ 1000 := by
      rw [two2.len]
      exact Nat.le_trans (List.length_filter_le _ _) (by rw [List.length_take]; omega)
    have yes : (decide (m.1 ∈ orb) && decide (m.2.2 ∈ orb)) = true → ∃ acc, H' M = some (.lst acc) ∧ acc.length < sizeLine ∧ Same H (upd H' M (.lst (acc ++ [V.ref q1]))) ∧ ∃ ws : List V, (upd H' M (.lst (acc ++ [V.ref q1]))) M = some (.lst ws) ∧ Two (MoveAt (upd H' M (.lst (acc ++ [V.ref q1])))) ws ((S.mv.take (j + 1)).filter fun m => decide (m.1 ∈ orb) && decide (m.2.2 ∈ orb)) := fun e => by
      refine ⟨ws, hws, Nat.lt_of_le_of_lt wl (by decide), fun b' o' hb' => by rw [upd_ne (ne_of_none hb' hM)]; exact s3 _ _ hb', _, upd_same, ?_⟩
      rw [tk, List.filter_append, List.filter_cons, if_pos e, List.filter_nil]
      have up : ∀ v m, MoveAt H' v m → MoveAt (upd H' M (.lst (ws ++ [V.ref q1]))) v m := fun v m h => by
        obtain ⟨t, e, h⟩ := h
        exact ⟨t, e, by rw [upd_ne fun e => by rw [e, hws] at h; cases h]; exact h⟩
      exact (two2.mono up).app (.cons (up _ _ ⟨q1, rfl, ht⟩) .nil)
    have no : ¬ (decide (m.1 ∈ orb) && decide (m.2.2 ∈ orb)) = true → Same H H' ∧ ∃ ws : List V, H' M = some (.lst ws) ∧ Two (MoveAt H') ws ((S.mv.take (j + 1)).filter fun m => decide (m.1 ∈ orb) && decide (m.2.2 ∈ orb)) := fun e => by
      refine ⟨s3, ws, hws, ?_⟩
      rw [tk, List.filter_append, List.filter_cons, if_neg e, List.filter_nil, List.append_nil]
      exact two2
    refine ⟨rfl, _, rfl, q1, _, 0, _, rfl, rfl, SqT.of ht, at_zero, _, rfl, o, _, rfl, .inr (SqT.of ho1), rfl, flat_nats _, _, rfl, ?_⟩
    show if inV (V.int (m.1 : Int)) (natsV orb) = true then _ else _
    rw [in_nats]
    refine ite2 (fun c1 => ?_) (fun c1 => iteF (no fun h => c1 (Bool.and_eq_true _ _ ▸ h).1))
    refine ⟨_, rfl, q1, _, 2, _, rfl, rfl, SqT.of ht, at_of (j := 2) rfl rfl, _, rfl, o, _, rfl, .inr (SqT.of ho1), rfl, flat_nats _, _, rfl, ?_⟩
    show if inV (V.int (m.2.2 : Int)) (natsV orb) = true then _ else _
    rw [in_nats]
    refine ite2 (fun c2 => ⟨_, rfl, yes (by rw [c1, c2]; rfl)⟩) (fun c2 => no fun h => c2 (Bool.and_eq_true _ _ ▸ h).2)
  · obtain ⟨s3, ws, hws, two2⟩ := h
    rw [h4.len, List.take_length] at two2
    refine ⟨_, rfl, _, rfl, M, _, rfl, .inl ⟨SqL.of hws, fun t2 ht2 => ?_⟩⟩
    have u4 := same_upd (o := .tup ws) ht2
    have s4 := s3.trans u4
    refine ⟨_, rfl, _, rfl, p, o, S, orb, rfl, hS.same s4, hG, s4 _ _ ho, hol, fun g H5 s5 hg => ?_⟩
    refine ⟨by show 3 ≤ sizeLine; decide, fun r hr => ?_⟩
    have u5 := same_upd (o := .tup [.ref o, .ref t2, .ref g]) hr
    have U := s4.trans (s5.trans u5)
    have V5 := s5.trans u5
    exact q r _ U ⟨o, t2, g, ws, upd_same, U _ _ ho, V5 _ _ upd_same, (two2.mono fun v m (h : MoveAt H' v m) => h.same u4).mono fun v m (h : MoveAt _ v m) => h.same V5, u5 _ _ hg⟩
abbrev N__is_stuck : List Str := ["system", "states"]
theorem sc__is_stuck : FnScope ["system", "states"] ["system"] (defScope s__is_stuck) := ⟨rfl, rfl, rfl, by decide +kernel, rfl, by decide +kernel, by decide +kernel⟩
theorem ok_stuck {f : Addr} {fd : FuncData} (B : Bt K mg tL tM tV) (Dd : Df K mg "_is_stuck" s__is_stuck ["system"] f fd) (Gorbits_of : Cl P w K mg base 2 "orbits_of" ["system"] spOrbitsOf) (Gis_round : Cl P w K mg base 1 "is_round" ["system", "orbit"] spRound) (Gconsistent_of : Cl P w K mg base 1 "consistent_of" ["system"] spConsOf) : FnOk P w K mg base CX0 3 f fd ["system"] spStuck := by
  refine Dd.F.ok sc__is_stuck (fun vs H Q Ex h => ?_) (fun cdv A outer s H vs Q Ex hr h => ?_)
  · obtain ⟨p, S, rfl, _⟩ := h
    rfl
  obtain ⟨p, S, rfl, hS, hG, q⟩ := h
  refine ⟨_, (pss_cons (ps_set (i := 1) sc__is_stuck.nd rfl (Or.inl rfl) (pe_ix (r := rIxT K) ix_tup (pv 0) pe_int (fun _ _ => rfl)))
    (pss_one (ps_ret (pe_and (pe_cmpR (op_eqD (u64 hr)) (pe_cl Gorbits_of (hr.mono (by omega)) rfl (pa_cons (pv 0) pa_nil)) (pe_lst (pa_cons (pv 1) pa_nil)) (nomark _)) (pe_and (pe_cl Gis_round (hr.mono (by omega)) rfl (pa_cons (pv 0) (pa_cons (pv 1) pa_nil))) (pe_one (pe_cmpR (op_eqD (u64 hr)) (pe_cl Gconsistent_of (hr.mono (by omega)) rfl (pa_cons (pv 0) pa_nil)) (pe_tup pa_nil) (nomark _)))))))), ?_⟩
  obtain ⟨a, b, c, ts, h1, h2, h3, h4, h5⟩ := hS.ex
  refine ⟨_, rfl, p, _, 0, _, rfl, rfl, SqT.of h1, at_zero, ?_⟩
  refine ⟨_, rfl, p, S, rfl, hS, hG, fun R H1 s1 hR0 hRT => ?_⟩
  obtain ⟨rs, hrs, two⟩ := hRT
  refine ⟨_, rfl, by show 1 ≤ sizeLine; decide, fun M hM => ?_⟩
  have u := same_upd (o := .lst [V.ref a]) hM
  have S2 := s1.trans u
  have two1 : Two (fun t row => ∃ q, t = V.ref q ∧ (upd H1 M (.lst [V.ref a])) q = some (.tup (natsV row))) rs (orbsL S) := two.mono fun t r ⟨q, e, h⟩ => ⟨q, e, u _ _ h⟩
  have two2 : Two (fun t row => ∃ q, t = V.ref q ∧ (upd H1 M (.lst [V.ref a])) q = some (.tup (natsV row))) [V.ref a] [S.st] := .cons ⟨a, rfl, S2 _ _ h2⟩ .nil
  refine ⟨_, _, dp_rows (u _ _ hrs) two1, dp_rows upd_same two2, rows_shaped _, rows_shaped _, ?_⟩
  rw [lists_eqv]
  have e0 : stuckB S = (decide (orbsL S = [S.st]) && (roundB S S.st && decide (consL S = []))) := rfl
  refine ⟨_, rfl, ?_⟩
  refine ite2 (fun c1 => ?_) (fun c1 => ?_)
  · refine ⟨_, rfl, _, rfl, p, a, S, S.st, rfl, hS.same S2, hG, S2 _ _ h2, fun H3 s3 => ?_⟩
    refine ⟨_, rfl, ite2 (fun c2 => ?_) (fun c2 => ?_)⟩
    · refine ⟨_, rfl, p, S, rfl, hS.same (S2.trans s3), hG, fun t H4 s4 hx => ?_⟩
      refine ⟨by show 0 ≤ sizeLine; decide, fun z hz => ?_⟩
      have u4 := same_upd (o := .tup []) hz
      refine ⟨_, _, dp_exs (hx.same u4), .tup (SqT.of upd_same) .nil, exDs_shaped cons_le, by decide, ?_⟩
      have e1 := exT_eqv (consL S) []
      have e2 : PyData.eqv (.tuple ((consL S).map exD)) (.tuple []) = decide (consL S = []) := e1
      rw [e2]
      have := q _ (S2.trans (s3.trans (s4.trans u4)))
      rw [e0, c1, c2, Bool.true_and, Bool.true_and] at this
      exact this
    · have := q _ (S2.trans s3)
      rw [e0, c1, eq_false_of_ne_true c2, Bool.true_and, Bool.false_and] at this
      exact this
  · have := q _ S2
    rw [e0, eq_false_of_ne_true c1, Bool.false_and] at this
    exact this
end
end My
namespace My
open PySem PySem.Spec PyProof.Rows L2
/-! ### going inward: the mathematics -/
def sizeS (S : Sy) : Nat := S.st.length + S.mv.length
noncomputable def kidsO (R : Sy) : List (List Nat) := (orbsL R).filter (roundB R)
noncomputable def kidsL (S : Sy) : List (Nat × Sy) := if stuckB S = true then [] else (kidsO (cutS S)).map fun o => (o.headD 0, innS (cutS S) o)
abbrev Nd := List Nat × Sy
noncomputable def pre : Nat → List Nat → Sy → List Nd
  | 0, p, S => [(p, S)]
  | n + 1, p, S => (p, S) :: (kidsL S).flatMap fun k => pre n (p ++ [k.1]) k.2
noncomputable def preS (x : Nd) : List Nd := pre (sizeS x.2) x.1 x.2
theorem orbsL_get {S : Sy} {o : List Nat} (h : o ∈ orbsL S) : ∃ x ∈ S.st, o = orbL S x ∧ (orbL S x).head? = some x := by
  obtain ⟨i, hi⟩ := List.getElem?_of_mem h
  obtain ⟨x, _, e, hd, hx⟩ := orbs_get hi
  exact ⟨x, hx, e, hd⟩
theorem innS_good {S : Sy} (G : Good S) {x : Nat} (hx : x ∈ S.st) : Good (innS S (orbL S x)) where
  ne := fun h => by
    have := orb_self hx
    rw [show orbL S x = [] from h] at this
    cases this
  rise := G.rise.sublist List.filter_sublist
  lt := fun y hy => G.lt y (mem_orb.mp hy).1
  mrise := G.mrise.sublist List.filter_sublist
  min := fun m hm => by
    obtain ⟨h1, h2⟩ := List.mem_filter.mp hm
    obtain ⟨h3, h4⟩ := (Bool.and_eq_true _ _ ▸ h2 : _ ∧ _)
    have := G.min m h1
    exact ⟨of_decide_eq_true h3, of_decide_eq_true h4, this.2.2.1, this.2.2.2⟩
  ml := Nat.le_trans (List.length_filter_le _ _) G.ml
  arise := (G.rise.sublist List.filter_sublist).sublist List.filter_sublist
  asub := fun y hy => (List.mem_filter.mp hy).1
theorem kid_of {S : Sy} {k : Nat × Sy} (h : k ∈ kidsL S) : stuckB S = false ∧ ∃ x ∈ S.st, orbL (cutS S) x ∈ orbsL (cutS S) ∧ roundB (cutS S) (orbL (cutS S) x) = true ∧ (orbL (cutS S) x).head? = some x ∧ k = (x, innS (cutS S) (orbL (cutS S) x)) := by
  unfold kidsL at h
  by_cases c : stuckB S = true
  · rw [if_pos c] at h
    cases h
  rw [if_neg c] at h
  obtain ⟨o, ho, rfl⟩ := List.mem_map.mp h
  obtain ⟨h1, h2⟩ := List.mem_filter.mp ho
  obtain ⟨x, hx, rfl, hd⟩ := orbsL_get h1
  refine ⟨eq_false_of_ne_true c, x, hx, h1, h2, hd, ?_⟩
  have : (orbL (cutS S) x).headD 0 = x := by
    rw [List.headD_eq_head?_getD, hd]
    rfl
  rw [this]
theorem kid_good {S : Sy} (G : Good S) {k : Nat × Sy} (h : k ∈ kidsL S) : Good k.2 := by
  obtain ⟨_, x, hx, _, _, _, rfl⟩ := kid_of h
  exact innS_good (cutS_good G) hx
theorem orb_all {S : Sy} {x : Nat} (h : (orbL S x).length = S.st.length) : orbL S x = S.st := List.Sublist.eq_of_length List.filter_sublist h
theorem one_orbit {S : Sy} (G : Good S) (h : ∀ a ∈ S.st, ∀ b ∈ S.st, Rch S a b) : orbsL S = [S.st] := by
  have e : ∀ s ∈ S.st, orbL S s = S.st := fun s hs => by
    refine List.filter_eq_self.mpr fun o ho => dec_iff.mpr ⟨h s hs o ho, h o ho s hs⟩
  have hne := G.ne
  have hr := G.rise
  unfold orbsL
  obtain ⟨x, xs, hx⟩ : ∃ x xs, S.st = x :: xs := by
    cases hh : S.st with
    | nil => exact absurd hh hne
    | cons x xs => exact ⟨x, xs, rfl⟩
  have f : (S.st.filter fun s => decide ((orbL S s).head? = some s)) = [x] := by
    have e1 : (S.st.filter fun s => decide ((orbL S s).head? = some s)) = S.st.filter fun s => decide (s = x) := by
      refine List.filter_congr fun s hs => ?_
      rw [e s hs, hx]
      exact decide_eq_decide.mpr ⟨fun h => (Option.some.inj h).symm, fun h => by rw [h]; rfl⟩
    rw [e1, hx, List.filter_cons, if_pos (decide_eq_true rfl)]
    congr 1
    rw [hx] at hr
    refine List.filter_eq_nil_iff.mpr fun y hy h => ?_
    have := (List.pairwise_cons.mp hr).1 y hy
    have := of_decide_eq_true h
    omega
  rw [f]
  show [orbL S x] = _
  rw [e x (by rw [hx]; exact List.mem_cons_self ..)]
theorem kid_size {S : Sy} (G : Good S) {k : Nat × Sy} (h : k ∈ kidsL S) : sizeS k.2 < sizeS S := by
  obtain ⟨ns, x, hx, _, hr, _, rfl⟩ := kid_of h
  have l1 : (orbL (cutS S) x).length ≤ S.st.length := List.length_filter_le _ _
  have l2 : (innS (cutS S) (orbL (cutS S) x)).mv.length ≤ (cutS S).mv.length := List.length_filter_le _ _
  have l3 : (cutS S).mv.length ≤ S.mv.length := List.length_filter_le _ _
  show (orbL (cutS S) x).length + (innS (cutS S) (orbL (cutS S) x)).mv.length < S.st.length + S.mv.length
  by_cases e : (orbL (cutS S) x).length = S.st.length
  · have ea : orbL (cutS S) x = S.st := orb_all (S := cutS S) e
    have all : ∀ a ∈ S.st, ∀ b ∈ S.st, Rch S a b := fun a ha b hb => by
      rw [← ea] at ha hb
      exact cutS_rch ((mem_orb.mp ha).2.2.trans (mem_orb.mp hb).2.1)
    have h1 := one_orbit G all
    rw [ea] at hr
    obtain ⟨m, hm, hm2⟩ := List.any_eq_true.mp hr
    have hm3 := (List.mem_filter.mp hm).1
    have h2 : roundB S S.st = true := List.any_eq_true.mpr ⟨m, hm3, hm2⟩
    have h3 : consL S ≠ [] := fun h3 => by
      unfold stuckB at ns
      rw [h1, h2, h3] at ns
      simp at ns
    obtain ⟨y, hy⟩ := List.exists_mem_of_ne_nil _ h3
    have hc := (mem_cons_fst (S := S)).mp (List.mem_map_of_mem hy)
    have hne : endsC S y.1 ≠ [] := fun h => by
      have := hc.2
      unfold okC at this
      rw [h] at this
      simp at this
    obtain ⟨e1, he1⟩ := List.exists_mem_of_ne_nil _ hne
    obtain ⟨m2, hm4, _⟩ := List.mem_map.mp he1
    obtain ⟨hm5, hm6⟩ := List.mem_filter.mp hm4
    obtain ⟨hc1, hc2⟩ := (Bool.and_eq_true _ _ ▸ hm6 : _ ∧ _)
    have lt : (cutS S).mv.length < S.mv.length := by
      refine List.length_filter_lt_length_iff_exists.mpr ⟨m2, hm5, fun h => ?_⟩
      rcases Bool.or_eq_true _ _ ▸ h with h | h
      · exact of_decide_eq_true h (of_decide_eq_true hc2)
      · refine of_decide_eq_true h ?_
        rw [of_decide_eq_true hc1]
        exact List.mem_map_of_mem hy
    omega
  · omega
theorem pre_stable : ∀ (n : Nat) (p : List Nat) (S : Sy), Good S → sizeS S ≤ n → pre (n + 1) p S = pre n p S
  | 0, p, S, G, h => by
    have := List.length_pos_iff.mpr G.ne
    unfold sizeS at h
    omega
  | n + 1, p, S, G, h => by
    show (p, S) :: (kidsL S).flatMap (fun k => pre (n + 1) (p ++ [k.1]) k.2) = (p, S) :: (kidsL S).flatMap fun k => pre n (p ++ [k.1]) k.2
    congr 1
    rw [List.flatMap_def, List.flatMap_def]
    congr 1
    refine List.map_congr_left fun k hk => pre_stable n _ _ (kid_good G hk) ?_
    have := kid_size G hk
    omega
theorem pre_size {n : Nat} {p : List Nat} {S : Sy} (G : Good S) (h : sizeS S ≤ n) : pre n p S = preS (p, S) := by
  obtain ⟨d, rfl⟩ := Nat.exists_eq_add_of_le h
  induction d with
  | zero => rfl
  | succ d ih => rw [← Nat.add_assoc, pre_stable _ _ _ G (Nat.le_add_right _ _), ih (Nat.le_add_right _ _)]
theorem preS_eq {p : List Nat} {S : Sy} (G : Good S) : preS (p, S) = (p, S) :: (kidsL S).flatMap fun k => preS (p ++ [k.1], k.2) := by
  have hp := List.length_pos_iff.mpr G.ne
  obtain ⟨n, hn⟩ : ∃ n, sizeS S = n + 1 := ⟨sizeS S - 1, by unfold sizeS; omega⟩
  show pre (sizeS S) p S = _
  rw [hn]
  show (p, S) :: (kidsL S).flatMap (fun k => pre n (p ++ [k.1]) k.2) = _
  congr 1
  rw [List.flatMap_def, List.flatMap_def]
  congr 1
  refine List.map_congr_left fun k hk => pre_size (kid_good G hk) ?_
  have := kid_size G hk
  omega
theorem preS_kid {p : List Nat} {S : Sy} (G : Good S) {k : Nat × Sy} (h : k ∈ kidsL S) {x : Nd} (hx : x ∈ preS (p ++ [k.1], k.2)) : x ∈ preS (p, S) := by
  rw [preS_eq G]
  exact List.mem_cons_of_mem _ (List.mem_flatMap.mpr ⟨k, h, hx⟩)
/-- by the tree -/
theorem walk_ind {M : Nd → Prop} {S0 : Sy} (G0 : Good S0) {p0 : List Nat} (h0 : M (p0, S0)) (hs : ∀ p S, Good S → M (p, S) → ∀ k ∈ kidsL S, M (p ++ [k.1], k.2)) : ∀ x ∈ preS (p0, S0), M x ∧ Good x.2 := by
  suffices h : ∀ (n : Nat) (p : List Nat) (S : Sy), sizeS S ≤ n → Good S → M (p, S) → ∀ x ∈ preS (p, S), M x ∧ Good x.2 from h _ _ _ (Nat.le_refl _) G0 h0
  intro n
  induction n with
  | zero =>
    intro p S h G
    have := List.length_pos_iff.mpr G.ne
    unfold sizeS at h
    omega
  | succ n ih =>
    intro p S h G hm x hx
    rw [preS_eq G] at hx
    rcases List.mem_cons.mp hx with rfl | hx
    · exact ⟨hm, G⟩
    · obtain ⟨k, hk, hx⟩ := List.mem_flatMap.mp hx
      have := kid_size G hk
      exact ih _ _ (by omega) (kid_good G hk) (hs p S G hm k hk) x hx
theorem mv_len {S : Sy} (G : Good S) : S.mv.length ≤ 160 := by
  have h := rise_short (S.mv.map fun m => 4 * m.1 + (m.2.1 - 97)) 0 160 ?_ ?_
  · rw [List.length_map] at h
    exact h
  · rw [List.pairwise_map]
    refine G.mrise.imp_of_mem fun {a b} ha hb h => ?_
    have h1 := G.min a ha
    have h2 := G.min b hb
    omega
  · intro x hx
    obtain ⟨m, hm, rfl⟩ := List.mem_map.mp hx
    have h1 := G.min m hm
    have h2 := G.lt _ h1.1
    omega
theorem size_le {S : Sy} (G : Good S) : sizeS S ≤ 200 := by
  have := mv_len G
  have := G.len
  unfold sizeS
  omega
/-- moves within orbits that share no state -/
theorem split_sum : ∀ (os : List (List Nat)) (ms : List Mv), os.Pairwise (fun r r' => ∀ x ∈ r, x ∉ r') → (os.map fun o => (ms.filter fun m => decide (m.1 ∈ o) && decide (m.2.2 ∈ o)).length).sum ≤ ms.length
  | [], ms, _ => Nat.zero_le _
  | o :: os, ms, h => by
    rw [List.pairwise_cons] at h
    have ih := split_sum os (ms.filter fun m => !decide (m.1 ∈ o)) h.2
    have e : (os.map fun o' => (ms.filter fun m => decide (m.1 ∈ o') && decide (m.2.2 ∈ o')).length) = os.map fun o' => ((ms.filter fun m => !decide (m.1 ∈ o)).filter fun m => decide (m.1 ∈ o') && decide (m.2.2 ∈ o')).length := by
      refine List.map_congr_left fun o' ho' => ?_
      rw [List.filter_filter]
      congr 1
      refine List.filter_congr fun m _ => ?_
      by_cases c : m.1 ∈ o'
      · have : m.1 ∉ o := fun c2 => h.1 o' ho' _ c2 c
        simp [c, this]
      · simp [c]
    have l1 : (ms.filter fun m => decide (m.1 ∈ o) && decide (m.2.2 ∈ o)).length ≤ (ms.filter fun m => decide (m.1 ∈ o)).length := by
      rw [← List.countP_eq_length_filter, ← List.countP_eq_length_filter]
      exact List.countP_mono_left fun m _ h => (Bool.and_eq_true _ _ ▸ h : _ ∧ _).1
    have l2 : (ms.filter fun m => decide (m.1 ∈ o)).length + (ms.filter fun m => !decide (m.1 ∈ o)).length = ms.length := by
      rw [← List.countP_eq_length_filter, ← List.countP_eq_length_filter]
      have := List.length_eq_countP_add_countP (fun m : Mv => decide (m.1 ∈ o)) (l := ms)
      rw [this]
      congr 1
      refine List.countP_congr fun m _ => ?_
      simp
    rw [List.map_cons, List.sum_cons, e]
    omega
theorem orbs_apart {S : Sy} (G : Good S) : (orbsL S).Pairwise (fun r r' => ∀ x ∈ r, x ∉ r') := by
  rw [List.pairwise_iff_getElem]
  intro i j hi hj hij x hx hy
  have := orbs_one G (List.getElem?_eq_getElem hi) (List.getElem?_eq_getElem hj) hx hy
  omega
theorem kids_sum {S : Sy} (G : Good S) : ((kidsL S).map fun k => k.2.mv.length).sum ≤ S.mv.length := by
  unfold kidsL
  by_cases c : stuckB S = true
  · rw [if_pos c]
    exact Nat.zero_le _
  rw [if_neg c, List.map_map]
  have := split_sum (kidsO (cutS S)) (cutS S).mv ((orbs_apart (cutS_good G)).sublist List.filter_sublist)
  exact Nat.le_trans this (List.length_filter_le _ _)
theorem kid_mv {S : Sy} {k : Nat × Sy} (h : k ∈ kidsL S) : 1 ≤ k.2.mv.length := by
  obtain ⟨_, x, _, _, hr, _, rfl⟩ := kid_of h
  obtain ⟨m, hm, hm2⟩ := List.any_eq_true.mp hr
  exact List.length_pos_of_mem (List.mem_filter.mpr ⟨hm, hm2⟩)
theorem sum_ge {α : Type} (l : List α) (f : α → Nat) (h : ∀ x ∈ l, 1 ≤ f x) : l.length ≤ (l.map f).sum := by
  induction l with
  | nil => exact Nat.zero_le _
  | cons x l ih =>
    have h1 := h x (List.mem_cons_self ..)
    have h2 := ih fun y hy => h y (List.mem_cons_of_mem _ hy)
    rw [List.map_cons, List.sum_cons, List.length_cons]
    omega
theorem sum_le {α : Type} (l : List α) (f : α → Nat) (g : α → Nat) (n : Nat) (h : ∀ x ∈ l, f x ≤ 1 + n * g x) : (l.map f).sum ≤ l.length + n * (l.map g).sum := by
  induction l with
  | nil => exact Nat.zero_le _
  | cons x l ih =>
    have h1 := h x (List.mem_cons_self ..)
    have h2 := ih fun y hy => h y (List.mem_cons_of_mem _ hy)
    rw [List.map_cons, List.sum_cons, List.map_cons, List.sum_cons, List.length_cons, Nat.mul_add]
    omega
theorem pre_count : ∀ (n : Nat) (p : List Nat) (S : Sy), Good S → (pre n p S).length ≤ 1 + n * S.mv.length
  | 0, p, S, _ => by
    show 1 ≤ 1 + 0 * S.mv.length
    omega
  | n + 1, p, S, G => by
    show ((p, S) :: (kidsL S).flatMap fun k => pre n (p ++ [k.1]) k.2).length ≤ _
    have h1 := sum_le (kidsL S) (fun k => (pre n (p ++ [k.1]) k.2).length) (fun k => k.2.mv.length) n fun k hk => pre_count n _ _ (kid_good G hk)
    have h2 := sum_ge (kidsL S) (fun k => k.2.mv.length) fun k hk => kid_mv hk
    have h3 := kids_sum G
    have h4 : n * ((kidsL S).map fun k => k.2.mv.length).sum ≤ n * S.mv.length := Nat.mul_le_mul_left _ h3
    rw [List.length_cons, List.length_flatMap, Nat.add_mul, Nat.one_mul]
    omega
theorem preS_count {p : List Nat} {S : Sy} (G : Good S) : (preS (p, S)).length ≤ 40000 := by
  have h1 := pre_count (sizeS S) p S G
  have h2 := mv_len G
  have h3 := size_le G
  have h4 : sizeS S * S.mv.length ≤ 200 * 160 := Nat.mul_le_mul h3 h2
  show (pre (sizeS S) p S).length ≤ 40000
  omega
theorem path_len {S : Sy} (G : Good S) : ∀ x ∈ preS ([], S), x.1.length + sizeS x.2 ≤ sizeS S := fun x hx => by
  refine (walk_ind (M := fun x => x.1.length + sizeS x.2 ≤ sizeS S) G (by show 0 + sizeS S ≤ sizeS S; omega) (fun p T GT h k hk => ?_) x hx).1
  have := kid_size GT hk
  have h : p.length + sizeS T ≤ sizeS S := h
  show (p ++ [k.1]).length + sizeS k.2 ≤ sizeS S
  rw [List.length_append, List.length_singleton]
  omega
theorem walk_good {S : Sy} (G : Good S) : ∀ x ∈ preS ([], S), Good x.2 := fun x hx => (walk_ind (M := fun _ => True) G trivial (fun _ _ _ _ _ _ => trivial) x hx).2
end My
namespace My
open PySem PySem.Spec PyProof.Rows L2
def NdAt (H : Hp) (v : V) (x : Nd) : Prop := ∃ t a b, v = .ref t ∧ H t = some (.tup [.ref a, .ref b]) ∧ H a = some (.tup (natsV x.1)) ∧ SysAt H b x.2
theorem NdAt.pers {H H' : Hp} {v : V} {x : Nd} (k : Pers H H') (h : NdAt H v x) : NdAt H' v x := by
  obtain ⟨t, a, b, e, h1, h2, h3⟩ := h
  exact ⟨t, a, b, e, k.tup _ _ h1, k.tup _ _ h2, h3.pers k⟩
theorem NdAt.same {H H' : Hp} {v : V} {x : Nd} (k : Same H H') (h : NdAt H v x) : NdAt H' v x := h.pers (Pers.same k)
def NdsAt (H : Hp) (R : Addr) (xs : List Nd) : Prop := ∃ ts : List V, H R = some (.lst ts) ∧ Two (NdAt H) ts xs
def spSysIn : Sp := fun vs H Q _ => ∃ (p : Addr) (S : Sy), vs = [.ref p] ∧ SysAt H p S ∧ Good S ∧ ∀ (R : Addr) H', Same H H' → H R = none → NdsAt H' R (preS ([], S)) → Q (.ref R) H'
def spPaths : Sp := fun vs H Q _ => ∃ (p : Addr) (S : Sy), vs = [.ref p] ∧ SysAt H p S ∧ Good S ∧ ∀ (R : Addr) H', Same H H' → H R = none → RowsTu H' R ((preS ([], S)).map (·.1)) → Q (.ref R) H'
abbrev Why := Option (Nat × Nat)
noncomputable def whyL (T : Sy) : Option Why := if stuckB T = true then some none else (unlL (cutS T)).map some
noncomputable def firstL' (xs : List Nd) : Option (List Nat × Why) := xs.findSome? fun x => (whyL x.2).map fun y => (x.1, y)
def whyV : Why → List V
  | none => [.str "stuck"]
  | some x => [.str "gates", .int (x.1 : Int), .int (x.2 : Int)]
def ReasonAt (H : Hp) (v : V) : Option (List Nat × Why) → Prop
  | none => v = .non
  | some x => ∃ t a b, v = .ref t ∧ H t = some (.tup [.ref a, .ref b]) ∧ H a = some (.tup (natsV x.1)) ∧ H b = some (.tup (whyV x.2))
def spFirstOf : Sp := fun vs H Q _ => ∃ (R : Addr) (xs : List Nd), vs = [.ref R] ∧ NdsAt H R xs ∧ (∀ x ∈ xs, Good x.2) ∧ ∀ v H', Same H H' → ReasonAt H' v (firstL' xs) → Q v H'
noncomputable def reasonL (S : Sy) : Option (List Nat × Why) := firstL' (preS ([], S))
def spReason : Sp := fun vs H Q _ => ∃ (p : Addr) (S : Sy), vs = [.ref p] ∧ SysAt H p S ∧ Good S ∧ ∀ v H', Same H H' → ReasonAt H' v (reasonL S) → Q v H'
def spSmooth : Sp := fun vs H Q _ => ∃ (p : Addr) (S : Sy), vs = [.ref p] ∧ SysAt H p S ∧ Good S ∧ ∀ H', Same H H' → Q (.bl (reasonL S).isNone) H'
def kd (p : List Nat) (R : Sy) (o : List Nat) : Nd := (p ++ [o.headD 0], innS R o)
theorem kids_kd {p : List Nat} {S : Sy} (h : stuckB S = false) : ((kidsL S).flatMap fun k => preS (p ++ [k.1], k.2)) = ((kidsO (cutS S)).map (kd p (cutS S))).flatMap preS := by
  unfold kidsL
  rw [if_neg (by rw [h]; exact Bool.false_ne_true), List.flatMap_map, List.flatMap_map]
  rfl
theorem flat_ge (xs : List Nd) (h : ∀ x ∈ xs, Good x.2) : xs.length ≤ (xs.flatMap preS).length := by
  rw [List.length_flatMap]
  refine sum_ge xs (fun x => (preS x).length) fun x hx => ?_
  obtain ⟨p, S⟩ := x
  rw [preS_eq (h _ hx), List.length_cons]
  omega
structure WInv (S : Sy) (H : Hp) (F W : Addr) (H' : Hp) (fm wm : List Nd) : Prop where
  same : Same H H'
  hF : NdsAt H' F fm
  hW : NdsAt H' W wm
  good : ∀ x ∈ wm, Good x.2
  all : fm ++ wm.reverse.flatMap preS = preS ([], S)
theorem NdsAt.store {H : Hp} {R1 R2 : Addr} {ys : List V} {xs xs2 : List Nd} (ne : R1 ≠ R2) (h2 : NdsAt H R2 xs2) (h : NdsAt H R1 xs) : NdsAt (upd H R2 (.lst ys)) R1 xs := by
  obtain ⟨ts, h1, two⟩ := h
  obtain ⟨ts2, g1, _⟩ := h2
  exact ⟨ts, by rw [upd_ne ne]; exact h1, two.mono fun _ _ => NdAt.pers (Pers.store g1)⟩
theorem NdsAt.same {H H' : Hp} {R : Addr} {xs : List Nd} (s : Same H H') (h : NdsAt H R xs) : NdsAt H' R xs := by
  obtain ⟨ts, h1, two⟩ := h
  exact ⟨ts, s _ _ h1, two.mono fun _ _ => NdAt.same s⟩
section
variable {P : Program} {w : World} {K : PySem.W.Frag} {mg : Str → Option Value} {base : Heap} {tL tM tV : Tok}
abbrev N__systems_inward : List Str := ["system", "found", "waiting", "path", "latest", "rest", "orbit"]
theorem sc__systems_inward : FnScope ["system", "found", "waiting", "path", "latest", "rest", "orbit"] ["system"] (defScope s__systems_inward) := ⟨rfl, rfl, rfl, by decide +kernel, rfl, by decide +kernel, by decide +kernel⟩
set_option maxHeartbeats 2000000 in
theorem ok_sysin {f : Addr} {fd : FuncData} (B : Bt K mg tL tM tV) (Dd : Df K mg "_systems_inward" s__systems_inward ["system"] f fd) (G_is_stuck : Cl P w K mg base 3 "_is_stuck" ["system"] spStuck) (Gcut_of : Cl P w K mg base 2 "cut_of" ["system"] spCutOf) (Gorbits_of : Cl P w K mg base 2 "orbits_of" ["system"] spOrbitsOf) (Gis_round : Cl P w K mg base 1 "is_round" ["system", "orbit"] spRound) (Ginner_of : Cl P w K mg base 3 "inner_of" ["system", "orbit"] spInner) : FnOk P w K mg base CX0 4 f fd ["system"] spSysIn := by
  refine Dd.F.ok sc__systems_inward (fun vs H Q Ex h => ?_) (fun cdv A outer s H vs Q Ex hr h => ?_)
  · obtain ⟨p, S, rfl, _⟩ := h
    rfl
  obtain ⟨p, S, rfl, hS, hG, q⟩ := h
  refine ⟨_, (pss_cons (ps_set (i := 1) sc__systems_inward.nd rfl (Or.inl rfl) (pe_lst pa_nil))
    (pss_cons (ps_set (i := 2) sc__systems_inward.nd rfl (Or.inl rfl) (pe_lst (pa_cons (pe_tup (pa_cons (pe_tup pa_nil) (pa_cons (pv 0) pa_nil))) pa_nil)))
    (pss_cons (ps_while PassesOwn.never (pt_truth (pv 2) (by intro _; rfl)) (pss_cons (ps_asg (pe_bm0 PySem.F.plainAttrs_list PySem.F.slot_list_pop PySem.F.type_list_pop mt_pop (pv 2)) (pg_tup rfl (pgs_cons (pg_name (i := 3) sc__systems_inward.nd rfl (Or.inl rfl)) (pgs_cons (pg_name (i := 4) sc__systems_inward.nd rfl (Or.inl rfl)) pgs_nil))))
    (pss_cons (ps_expr (pe_bm PySem.F.plainAttrs_list PySem.F.slot_list_append PySem.F.type_list_append mt_append (pv 1) (pa_cons (pe_tup (pa_cons (pv 3) (pa_cons (pv 4) pa_nil))) pa_nil)))
    (pss_one (ps_if (pt_not (pt_val (pe_cl G_is_stuck (hr.mono (by omega)) rfl (pa_cons (pv 4) pa_nil)))) (pss_cons (ps_set (i := 5) sc__systems_inward.nd rfl (Or.inl rfl) (pe_cl Gcut_of (hr.mono (by omega)) rfl (pa_cons (pv 4) pa_nil)))
    (pss_one (ps_for PassesOwn.never rfl (RT.pi_revA rfl B.b_reversed (pe_cl Gorbits_of (hr.mono (by omega)) rfl (pa_cons (pv 5) pa_nil))) (pg_name (i := 6) sc__systems_inward.nd rfl (Or.inl rfl)) (pss_one (ps_if (pt_val (pe_cl Gis_round (hr.mono (by omega)) rfl (pa_cons (pv 5) (pa_cons (pv 6) pa_nil)))) (pss_one (ps_expr (pe_bm PySem.F.plainAttrs_list PySem.F.slot_list_append PySem.F.type_list_append mt_append (pv 2) (pa_cons (pe_tup (pa_cons (pe_op op_catA (pv 3) (pe_tup (pa_cons (pe_ix (r := rIxT K) ix_tup (pv 6) pe_int (fun _ _ => rfl)) pa_nil))) (pa_cons (pe_cl Ginner_of (hr.mono (by omega)) rfl (pa_cons (pv 5) (pa_cons (pv 6) pa_nil))) pa_nil))) pa_nil)))) pss_nil))))) pss_nil)))))
    (pss_one (ps_ret (pv 1)))))), ?_⟩
  refine ⟨by show 0 ≤ sizeLine; decide, fun F hF => ?_⟩
  have uF := same_upd (o := .lst []) hF
  refine ⟨by show 0 ≤ sizeLine; decide, fun T0 hT0 => ?_⟩
  have uT0 := same_upd (o := .tup []) hT0
  refine ⟨_, rfl, by show 2 ≤ sizeLine; decide, fun T1 hT1 => ?_⟩
  have uT1 := same_upd (o := .tup [.ref T0, .ref p]) hT1
  refine ⟨by show 1 ≤ sizeLine; decide, fun W hW => ?_⟩
  have uW := same_upd (o := .lst [.ref T1]) hW
  have sF := uT0.trans (uT1.trans uW)
  have FW : F ≠ W := fun e => by
    have : (upd H F (.lst [])) F = some (.lst []) := upd_same
    have := (uT0.trans uT1) _ _ this
    rw [show F = W from e] at this hW
    rw [hW] at this
    cases this
  have hWn : H W = none := (uF.trans (uT0.trans uT1)).free hW
  have tot : (preS ([], S)).length ≤ 40000 := preS_count hG
  refine ⟨fun n σ' H' => ∃ (fm wm : List Nd) (o3 o4 o5 o6 : Option V), σ' = [some (.ref p), some (.ref F), some (.ref W), o3, o4, o5, o6] ∧ WInv S H F W H' fm wm ∧ n = (wm.reverse.flatMap preS).length, ⟨_, [], [([], S)], none, none, none, none, rfl, ⟨uF.trans sF, ⟨[], sF _ _ upd_same, .nil⟩, ⟨[.ref T1], upd_same, .cons ⟨T1, T0, p, rfl, uW _ _ upd_same, (uT1.trans uW) _ _ upd_same, hS.same (uF.trans sF)⟩ .nil⟩, fun x hx => by rw [List.mem_singleton.mp hx]; exact hG, by simp⟩, rfl⟩, ?_⟩
  rintro n σ' H2 ⟨fm, wm, o3, o4, o5, o6, rfl, I, rfl⟩
  obtain ⟨ws, hws, two⟩ := I.hW
  refine ⟨_, rfl, _, .inl ⟨_, SqL.of hws, rfl⟩, ite2 (fun c => ?_) (fun c => ?_)⟩
  · obtain ⟨wm', x, rfl⟩ : ∃ wm' x, wm = wm' ++ [x] := by
      rcases List.eq_nil_or_concat wm with h | ⟨a, b, h⟩
      · rw [h] at two
        cases two
        cases c
      · exact ⟨a, b, by rw [h, List.concat_eq_append]⟩
    obtain ⟨ws', v, rfl, two', t, a, b, rfl, ht, ha, hb⟩ := two.unsnoc
    obtain ⟨path, T⟩ := x
    have hGT : Good T := I.good _ (List.mem_append_right _ (List.mem_singleton.mpr rfl))
    have hG' : ∀ x ∈ wm', Good x.2 := fun x hx => I.good x (List.mem_append_left _ hx)
    have hall := I.all
    have hrev : (wm' ++ [(path, T)]).reverse.flatMap preS = preS (path, T) ++ wm'.reverse.flatMap preS := by
      rw [List.reverse_append]
      rfl
    rw [hrev] at hall ⊢
    have hall0 := hall
    rw [preS_eq hGT] at hall ⊢
    have hlen := congrArg List.length hall
    rw [List.length_append, List.length_append, List.length_cons] at hlen
    have wl : wm'.length ≤ (wm'.reverse.flatMap preS).length := by
      have := flat_ge wm'.reverse fun x hx => hG' x (List.mem_reverse.mp hx)
      rw [List.length_reverse] at this
      exact this
    have wl2 := two'.len
    have pl : path.length ≤ 200 := by
      have hm : (path, T) ∈ preS ([], S) := by
        rw [← hall]
        exact List.mem_append_right _ (List.mem_append_left _ (List.mem_cons_self ..))
      have h1 := path_len hG _ hm
      have h2 := size_le hG
      have h3 : (path, T).1.length = path.length := rfl
      omega
    refine ⟨fun σ3 H3 => ∃ (fm wm : List Nd) (o3 o4 o5 o6 : Option V), σ3 = [some (.ref p), some (.ref F), some (.ref W), o3, o4, o5, o6] ∧ WInv S H F W H3 fm wm ∧ (wm.reverse.flatMap preS).length < ((path, T) :: ((kidsL T).flatMap fun k => preS (path ++ [k.1], k.2)) ++ wm'.reverse.flatMap preS).length, fun σ3 H3 ⟨fm, wm, o3, o4, o5, o6, e, I3, l⟩ => ⟨_, l, fm, wm, o3, o4, o5, o6, e, I3, rfl⟩, ?_⟩
    have hpop : (ws' ++ [V.ref t])[(ws' ++ [V.ref t]).length - 1]? = some (.ref t) := by
      rw [List.length_append, List.length_singleton, Nat.add_sub_cancel, List.getElem?_append_right (Nat.le_refl _), Nat.sub_self]
      rfl
    have hdrop : (ws' ++ [V.ref t]).dropLast = ws' := List.dropLast_concat ..
    refine ⟨_, rfl, .inl ⟨rfl, _, SqL.of hws⟩, W, _, _, rfl, rfl, hws, hpop, ?_⟩
    rw [hdrop]
    have P1 : Pers H2 (upd H2 W (.lst ws')) := Pers.store hws
    have S1 : Same H (upd H2 W (.lst ws')) := fun b o hb => by
      rw [upd_ne fun e => by rw [e, hWn] at hb; cases hb]
      exact I.same _ _ hb
    have hF1 : NdsAt (upd H2 W (.lst ws')) F fm := NdsAt.store FW I.hW I.hF
    have hW1 : NdsAt (upd H2 W (.lst ws')) W wm' := ⟨ws', upd_same, two'.mono fun _ _ => NdAt.pers P1⟩
    have ht1 := P1.tup _ _ ht
    have ha1 := P1.tup _ _ ha
    have hb1 := hb.pers P1
    revert S1 hF1 hW1 ht1 ha1 hb1
    generalize (upd H2 W (.lst ws')) = H3
    intro S1 hF1 hW1 ht1 ha1 hb1
    refine ⟨t, _, rfl, SqT.of ht1, rfl, _, _, rfl, _, _, rfl, rfl, ?_⟩
    obtain ⟨fs, hfs, twof⟩ := id hF1
    have fl := twof.len
    refine ⟨_, rfl, .inl ⟨rfl, _, SqL.of hfs⟩, _, rfl, _, rfl, by show 2 ≤ sizeLine; decide, fun T2 hT2 => ?_⟩
    have u2 := same_upd (o := .tup [.ref a, .ref b]) hT2
    refine ⟨F, fs, _, rfl, rfl, u2 _ _ hfs, ?_, ?_⟩
    · exact Nat.lt_of_le_of_lt (m := 40000) (by rw [fl]; omega) (by decide)
    have P4 : Pers H3 (upd (upd H3 T2 (.tup [.ref a, .ref b])) F (.lst (fs ++ [.ref T2]))) := (Pers.same u2).trans (Pers.store (u2 _ _ hfs))
    have hFn : H F = none := hF
    have S4 : Same H (upd (upd H3 T2 (.tup [.ref a, .ref b])) F (.lst (fs ++ [.ref T2]))) := fun b' o' hb' => by
      rw [upd_ne (ne_of_none hb' hFn)]
      exact u2 _ _ (S1 _ _ hb')
    have hT24 : (upd (upd H3 T2 (.tup [.ref a, .ref b])) F (.lst (fs ++ [.ref T2]))) T2 = some (.tup [.ref a, .ref b]) := by
      rw [upd_ne fun e => by rw [← e, hT2] at hfs; cases hfs]
      exact upd_same
    have hF4 : NdsAt (upd (upd H3 T2 (.tup [.ref a, .ref b])) F (.lst (fs ++ [.ref T2]))) F (fm ++ [(path, T)]) := ⟨_, upd_same, (twof.mono fun _ _ => NdAt.pers P4).app (.cons ⟨T2, a, b, rfl, hT24, P4.tup _ _ ha1, hb1.pers P4⟩ .nil)⟩
    have hW4 : NdsAt (upd (upd H3 T2 (.tup [.ref a, .ref b])) F (.lst (fs ++ [.ref T2]))) W wm' := NdsAt.store (Ne.symm FW) (hF1.same u2) (hW1.same u2)
    have ha4 := P4.tup _ _ ha1
    have hb4 := hb1.pers P4
    revert S4 hF4 hW4 ha4 hb4
    generalize (upd (upd H3 T2 (.tup [.ref a, .ref b])) F (.lst (fs ++ [.ref T2]))) = H4
    intro S4 hF4 hW4 ha4 hb4
    refine ⟨_, rfl, b, T, rfl, hb4, hGT, fun H5 s5 => ⟨_, rfl, ?_⟩⟩
    have S5 := S4.trans s5
    refine ite2 (fun c1 => ?_) (fun c1 => ?_)
    · have ns : stuckB T = false := by
        cases h : stuckB T with
        | false => rfl
        | true => rw [h] at c1; cases c1
      have hGc := cutS_good hGT
      refine ⟨_, rfl, b, T, rfl, hb4.same s5, hGT, fun r H6 s6 hR => ?_⟩
      refine ⟨_, rfl, r, cutS T, rfl, hR, hGc, fun R H7 s7 hR0 hRT => ?_⟩
      obtain ⟨os, hos, twoo⟩ := hRT
      have ol := orbs_len hGc
      have S57 := s5.trans (s6.trans s7)
      have hRW : R ≠ W := fun e => by
        obtain ⟨ts, h1, _⟩ := hW4.same (s5.trans s6)
        rw [e, h1] at hR0
        cases hR0
      have hRF : R ≠ F := fun e => by
        obtain ⟨ts, h1, _⟩ := hF4.same (s5.trans s6)
        rw [e, h1] at hR0
        cases hR0
      refine ⟨R, os, rfl, .inl ⟨SqL.of hos, RT.for_Itv (K := K) (a := R) (xs := os) (fun i σ' H' => ∃ o6, σ' = [some (.ref p), some (.ref F), some (.ref W), some (.ref a), some (.ref b), some (.ref r), o6] ∧ Same H H' ∧ Pers H7 H' ∧ H' R = some (.lst os) ∧ NdsAt H' F (fm ++ [(path, T)]) ∧ NdsAt H' W (wm' ++ (((orbsL (cutS T)).drop (os.length - i)).filter (roundB (cutS T))).reverse.map (kd path (cutS T)))) ?_ ?_ ?_ ?_⟩⟩
      · refine ⟨o6, rfl, S4.trans S57, Pers.refl _, hos, hF4.same S57, ?_⟩
        rw [Nat.sub_zero, twoo.len, List.drop_length]
        simpa using hW4.same S57
      · rintro i σ' H' ⟨o6, rfl, _, _, h, _⟩
        exact SqL.of h
      · rintro i v σ' H8 hi hv ⟨o6, rfl, S8, P8, hos8, hF8, hW8⟩
        obtain ⟨row, hrow, q1, rfl, hq1⟩ := twoo.get hv
        have hq8 := P8.tup _ _ hq1
        have hR8 := hR.pers ((Pers.same s7).trans P8)
        obtain ⟨x0, hx0, er, _, hd⟩ : ∃ x0, ∃ _ : x0 ∈ T.st, row = orbL (cutS T) x0 ∧ True ∧ (orbL (cutS T) x0).head? = some x0 := by
          obtain ⟨x, h1, h2, h3⟩ := orbsL_get (List.mem_of_getElem? hrow)
          exact ⟨x, h1, h2, trivial, h3⟩
        have rl : row.length ≤ 40 := by rw [er]; exact orb_len hGc x0
        have hhd : row.headD 0 = x0 := by rw [er, List.headD_eq_head?_getD, hd]; rfl
        have hr0 : row[0]? = some x0 := by rw [← List.head?_eq_getElem?, er]; exact hd
        have ndrop : (orbsL (cutS T)).drop (os.length - (i + 1)) = row :: (orbsL (cutS T)).drop (os.length - i) := by
          have e1 : os.length - (i + 1) = os.length - 1 - i := by omega
          obtain ⟨hlt, hget⟩ := List.getElem?_eq_some_iff.mp hrow
          rw [e1, List.drop_eq_getElem_cons hlt, hget]
          congr 2
          omega
        refine ⟨_, rfl, _, rfl, r, q1, cutS T, row, rfl, hR8, hGc, hq8, fun H9 s9 => ⟨_, rfl, ?_⟩⟩
        have S9 := S8.trans s9
        refine ite2 (fun c2 => ?_) (fun c2 => ?_)
        · obtain ⟨wv, hwv, twow⟩ := hW8.same s9
          have wvl : wv.length ≤ 40040 := by
            rw [twow.len, List.length_append, List.length_map, List.length_reverse]
            have l1 := List.length_filter_le (roundB (cutS T)) ((orbsL (cutS T)).drop (os.length - i))
            have l2 : ((orbsL (cutS T)).drop (os.length - i)).length ≤ (orbsL (cutS T)).length := by rw [List.length_drop]; omega
            omega
          refine ⟨_, rfl, .inl ⟨rfl, _, SqL.of hwv⟩, ?_⟩
          have ha9 : H9 a = some (.tup (natsV path)) := s9 _ _ (P8.tup _ _ (S57 _ _ ha4))
          refine ⟨_, rfl, _, rfl, q1, _, 0, .int (x0 : Int), rfl, rfl, SqT.of (s9 _ _ hq8), at_of (j := 0) rfl (natsV_getN hr0), by show 1 ≤ sizeLine; decide, fun Z hZ => ?_⟩
          have uZ := same_upd (o := .tup [V.int (x0 : Int)]) hZ
          refine catA_of (uZ _ _ ha9) upd_same (by rw [natsV_len]; exact Nat.le_trans (m := 201) (by show path.length + 1 ≤ 201; omega) (by decide)) fun y HA sA hy => ?_
          rw [natsV_snoc] at hy
          have hy : HA y = some (.tup (natsV (kd path (cutS T) row).1)) := by
            show _ = some (HO.tup (natsV (path ++ [row.headD 0])))
            rw [hhd]
            exact hy
          have S9A := uZ.trans sA
          refine ⟨_, rfl, _, rfl, r, q1, cutS T, row, rfl, (hR8.same s9).same S9A, hGc, S9A _ _ (s9 _ _ hq8), by omega, fun z HB sB hz => ?_⟩
          refine ⟨by show 2 ≤ sizeLine; decide, fun T3 hT3 => ?_⟩
          have u3 := same_upd (o := .tup [.ref y, .ref z]) hT3
          have SB := S9A.trans (sB.trans u3)
          refine ⟨W, wv, _, rfl, rfl, SB _ _ hwv, Nat.lt_of_le_of_lt wvl (by decide), ?_⟩
          have PC : Pers (upd HB T3 (.tup [.ref y, .ref z])) (upd (upd HB T3 (.tup [.ref y, .ref z])) W (.lst (wv ++ [.ref T3]))) := Pers.store (SB _ _ hwv)
          have PB := (Pers.same SB).trans PC
          refine ⟨_, rfl, fun b' o' hb' => by rw [upd_ne (ne_of_none hb' hWn)]; exact SB _ _ (S9 _ _ hb'), P8.trans ((Pers.same s9).trans PB), by rw [upd_ne hRW]; exact SB _ _ (s9 _ _ hos8), NdsAt.store FW ⟨wv, SB _ _ hwv, twow.mono fun _ _ => NdAt.same SB⟩ ((hF8.same s9).same SB), wv ++ [.ref T3], upd_same, ?_⟩
          rw [ndrop, List.filter_cons, if_pos c2, List.reverse_cons, List.map_append, ← List.append_assoc]
          refine (twow.mono fun _ _ => NdAt.pers PB).app (.cons ⟨T3, y, z, rfl, PC.tup _ _ upd_same, PC.tup _ _ (u3 _ _ (sB _ _ hy)), (hz.same u3).pers PC⟩ .nil) |>.mono fun v n h => ?_
          exact h
        · refine ⟨_, rfl, S9, P8.trans (Pers.same s9), s9 _ _ hos8, hF8.same s9, ?_⟩
          rw [ndrop, List.filter_cons, if_neg c2]
          exact hW8.same s9
      · rintro σ' H8 ⟨o6, rfl, S8, P8, hos8, hF8, hW8⟩
        rw [Nat.sub_self, List.drop_zero] at hW8
        have ek := kids_kd (p := path) ns
        have er : (wm' ++ ((orbsL (cutS T)).filter (roundB (cutS T))).reverse.map (kd path (cutS T))).reverse.flatMap preS = ((kidsL T).flatMap fun k => preS (path ++ [k.1], k.2)) ++ wm'.reverse.flatMap preS := by
          rw [ek, List.reverse_append, List.map_reverse, List.reverse_reverse, List.flatMap_append]
          rfl
        refine ⟨fm ++ [(path, T)], _, _, _, _, _, rfl, ⟨S8, hF8, hW8, fun x hx => ?_, ?_⟩, ?_⟩
        · rcases List.mem_append.mp hx with hx | hx
          · exact hG' x hx
          · obtain ⟨o, ho, rfl⟩ := List.mem_map.mp hx
            obtain ⟨x1, hx1, e1, _⟩ := orbsL_get (List.mem_filter.mp (List.mem_reverse.mp ho)).1
            rw [e1]
            exact innS_good hGc hx1
        · rw [er, ← hall, List.append_assoc]
          rfl
        · rw [er, List.cons_append, List.length_cons]
          omega
    · have st : stuckB T = true := by
        cases h : stuckB T with
        | true => rfl
        | false => rw [h] at c1; exact absurd rfl c1
      have ek : kidsL T = [] := if_pos st
      refine ⟨fm ++ [(path, T)], wm', _, _, _, _, rfl, ⟨S5, hF4.same s5, hW4.same s5, hG', ?_⟩, ?_⟩
      · rw [← hall, ek, List.append_assoc]
        rfl
      · rw [ek, List.cons_append, List.length_cons, List.flatMap_nil, List.nil_append]
        omega
  · have e : wm = [] := by
      cases wm with
      | nil => rfl
      | cons x wm =>
        cases two
        exact absurd rfl c
    have hall := I.all
    rw [e, List.reverse_nil, List.flatMap_nil, List.append_nil] at hall
    refine ⟨_, rfl, q F H2 I.same hF ?_⟩
    rw [← hall]
    exact I.hF
abbrev N__first_of : List Str := ["systems", "path", "latest", "pair"]
theorem sc__first_of : FnScope ["systems", "path", "latest", "pair"] ["systems"] (defScope s__first_of) := ⟨rfl, rfl, rfl, by decide +kernel, rfl, by decide +kernel, by decide +kernel⟩
theorem ok_firstof {f : Addr} {fd : FuncData} (B : Bt K mg tL tM tV) (Dd : Df K mg "_first_of" s__first_of ["systems"] f fd) (G_is_stuck : Cl P w K mg base 3 "_is_stuck" ["system"] spStuck) (Gcut_of : Cl P w K mg base 2 "cut_of" ["system"] spCutOf) (Gunlike_gates_of : Cl P w K mg base 3 "unlike_gates_of" ["system"] spUnl) : FnOk P w K mg base CX0 4 f fd ["systems"] spFirstOf := by
  refine Dd.F.ok sc__first_of (fun vs H Q Ex h => ?_) (fun cdv A outer s H vs Q Ex hr h => ?_)
  · obtain ⟨R, xs, rfl, _⟩ := h
    rfl
  obtain ⟨R, xs, rfl, hN, hg, q⟩ := h
  refine ⟨_, (pss_cons (ps_for PassesOwn.never rfl (pi_list (pv 0)) (pg_tup rfl (pgs_cons (pg_name (i := 1) sc__first_of.nd rfl (Or.inl rfl)) (pgs_cons (pg_name (i := 2) sc__first_of.nd rfl (Or.inl rfl)) pgs_nil))) (pss_cons (ps_if (pt_val (pe_cl G_is_stuck (hr.mono (by omega)) rfl (pa_cons (pv 2) pa_nil))) (pss_one (ps_ret (pe_tup (pa_cons (pv 1) (pa_cons (pe_tup (pa_cons pe_str pa_nil)) pa_nil))))) pss_nil)
    (pss_cons (ps_set (i := 3) sc__first_of.nd rfl (Or.inl rfl) (pe_cl Gunlike_gates_of (hr.mono (by omega)) rfl (pa_cons (pe_cl Gcut_of (hr.mono (by omega)) rfl (pa_cons (pv 2) pa_nil)) pa_nil)))
    (pss_one (ps_if (pt_cmpR op_notN (pv 3) pe_non (nomark _)) (pss_one (ps_ret (pe_tup (pa_cons (pv 1) (pa_cons (pe_op op_catA (pe_tup (pa_cons pe_str pa_nil)) (pv 3)) pa_nil))))) pss_nil)))))
    (pss_one (ps_ret pe_non))), ?_⟩
  obtain ⟨ts, hts, two⟩ := hN
  refine ⟨_, rfl, R, rfl, ⟨_, SqL.of hts⟩, for_list (K := K) (a := R) (xs := ts) (fun i σ' H' => ∃ (o1 o2 o3 : Option V), σ' = [some (.ref R), o1, o2, o3] ∧ Same H H' ∧ ∀ x ∈ xs.take i, whyL x.2 = none) ?_ ?_ ?_ ?_⟩
  · exact ⟨none, none, none, rfl, Same.refl _, fun x h => by (cases h)⟩
  · rintro i σ' H' _ ⟨o1, o2, o3, rfl, s1, _⟩
    exact SqL.of (s1 _ _ hts)
  · rintro i v σ' H1 hv ⟨o1, o2, o3, rfl, s1, hno⟩
    obtain ⟨nd, hnd, hat⟩ := two.get hv
    obtain ⟨t, a, b, rfl, ht, ha, hb⟩ := hat.same s1
    obtain ⟨path, T⟩ := nd
    have hT : Good T := hg _ (List.mem_of_getElem? hnd)
    have hit : ∀ y, whyL T = some y → firstL' xs = some (path, y) := fun y hy => by
      unfold firstL'
      refine fs_hit (i := i) (x := (path, T)) (fun z hz => by rw [hno z hz]; rfl) hnd ?_
      show (whyL T).map _ = _
      rw [hy]
      rfl
    refine ⟨t, _, rfl, SqT.of ht, rfl, _, _, rfl, _, _, rfl, rfl, ?_⟩
    refine ⟨_, rfl, b, T, rfl, hb, hT, fun H2 s2 => ⟨_, rfl, ?_⟩⟩
    have S2 := s1.trans s2
    refine ite2 (fun c1 => ?_) (fun c1 => ?_)
    · refine ⟨_, rfl, by show 1 ≤ sizeLine; decide, fun Z hZ => ?_⟩
      have uZ := same_upd (o := .tup [V.str "stuck"]) hZ
      refine ⟨by show 2 ≤ sizeLine; decide, fun Y hY => ?_⟩
      have uY := same_upd (o := .tup [V.ref a, .ref Z]) hY
      refine q _ _ (S2.trans (uZ.trans uY)) ?_
      rw [hit none (if_pos c1)]
      exact ⟨Y, a, Z, rfl, upd_same, uY _ _ (uZ _ _ (s2 _ _ ha)), uY _ _ upd_same⟩
    · refine ⟨_, rfl, b, T, rfl, hb.same s2, hT, fun r H3 s3 hr => ⟨r, cutS T, rfl, hr, cutS_good hT, fun u H4 s4 hu => ?_⟩⟩
      have S4 := S2.trans (s3.trans s4)
      cases hh : unlL (cutS T) with
      | none =>
        rw [hh] at hu
        obtain rfl : u = .non := hu
        refine ⟨_, rfl, rfl, _, rfl, iteF ⟨_, _, _, rfl, S4, fun x hx => ?_⟩⟩
        rw [take_snoc hnd] at hx
        rcases List.mem_append.mp hx with hx | hx
        · exact hno x hx
        · rw [List.mem_singleton.mp hx]
          show (if stuckB T = true then some none else (unlL (cutS T)).map some) = none
          rw [if_neg c1, hh]
          rfl
      | some pr =>
        rw [hh] at hu
        obtain ⟨tp, rfl, htp⟩ := hu
        refine ⟨_, rfl, rfl, _, rfl, iteT ⟨_, rfl, by show 1 ≤ sizeLine; decide, fun Z hZ => ?_⟩⟩
        have uZ := same_upd (o := .tup [V.str "gates"]) hZ
        refine ⟨_, rfl, catA_of upd_same (uZ _ _ htp) (by show 1 + 2 ≤ sizeLine; decide) fun Y H5 s5 hY => ?_⟩
        refine ⟨by show 2 ≤ sizeLine; decide, fun X hX => ?_⟩
        have uX := same_upd (o := .tup [V.ref a, .ref Y]) hX
        refine q _ _ (S4.trans (uZ.trans (s5.trans uX))) ?_
        have e : whyL T = some (some pr) := by
          show (if stuckB T = true then some none else (unlL (cutS T)).map some) = _
          rw [if_neg c1, hh]
          rfl
        rw [hit _ e]
        exact ⟨X, a, Y, rfl, upd_same, uX _ _ (s5 _ _ (uZ _ _ (s4 _ _ (s3 _ _ (s2 _ _ ha))))), uX _ _ hY⟩
  · rintro σ' H1 ⟨o1, o2, o3, rfl, s1, hno⟩
    rw [two.len, List.take_length] at hno
    refine q _ _ s1 ?_
    have : firstL' xs = none := fs_none fun x hx => by
      show (whyL x.2).map _ = none
      rw [hno x hx]
      rfl
    rw [this]
    exact rfl
abbrev N_find_reason : List Str := ["system"]
theorem sc_find_reason : FnScope ["system"] ["system"] (defScope s_find_reason) := ⟨rfl, rfl, rfl, by decide +kernel, rfl, by decide +kernel, by decide +kernel⟩
theorem ok_findreason {f : Addr} {fd : FuncData} (B : Bt K mg tL tM tV) (Dd : Df K mg "find_reason" s_find_reason ["system"] f fd) (G_systems_inward : Cl P w K mg base 4 "_systems_inward" ["system"] spSysIn) (G_first_of : Cl P w K mg base 4 "_first_of" ["systems"] spFirstOf) : FnOk P w K mg base CX0 5 f fd ["system"] spReason := by
  refine Dd.F.ok sc_find_reason (fun vs H Q Ex h => ?_) (fun cdv A outer s H vs Q Ex hr h => ?_)
  · obtain ⟨p, S, rfl, _⟩ := h
    rfl
  obtain ⟨p, S, rfl, hS, hG, q⟩ := h
  refine ⟨_, (pss_one (ps_ret (pe_cl G_first_of (hr.mono (by omega)) rfl (pa_cons (pe_cl G_systems_inward (hr.mono (by omega)) rfl (pa_cons (pv 0) pa_nil)) pa_nil)))), ?_⟩
  exact ⟨_, rfl, p, S, rfl, hS, hG, fun R H1 s1 _ hN => ⟨R, _, rfl, hN, walk_good hG, fun v H2 s2 h => q v H2 (s1.trans s2) h⟩⟩
abbrev N_first_reason : List Str := ["system"]
theorem sc_first_reason : FnScope ["system"] ["system"] (defScope s_first_reason) := ⟨rfl, rfl, rfl, by decide +kernel, rfl, by decide +kernel, by decide +kernel⟩
theorem ok_firstreason {f : Addr} {fd : FuncData} (B : Bt K mg tL tM tV) (Dd : Df K mg "first_reason" s_first_reason ["system"] f fd) (Gcheck_system : Cl P w K mg base 5 "check_system" ["value"] spChkSys) (Gfind_reason : Cl P w K mg base 5 "find_reason" ["system"] spReason) : FnOk P w K mg base CX0 6 f fd ["system"] spReason := by
  refine Dd.F.ok sc_first_reason (fun vs H Q Ex h => ?_) (fun cdv A outer s H vs Q Ex hr h => ?_)
  · obtain ⟨p, S, rfl, _⟩ := h
    rfl
  obtain ⟨p, S, rfl, hS, hG, q⟩ := h
  refine ⟨_, (pss_cons (ps_expr (pe_cl Gcheck_system (hr.mono (by omega)) rfl (pa_cons (pv 0) pa_nil)))
    (pss_one (ps_ret (pe_cl Gfind_reason (hr.mono (by omega)) rfl (pa_cons (pv 0) pa_nil))))), ?_⟩
  exact ⟨_, rfl, p, S, rfl, hS, hG, fun H1 s1 => ⟨_, rfl, p, S, rfl, hS.same s1, hG, fun v H2 s2 r => q v H2 (s1.trans s2) r⟩⟩
abbrev N_is_smooth : List Str := ["system"]
theorem sc_is_smooth : FnScope ["system"] ["system"] (defScope s_is_smooth) := ⟨rfl, rfl, rfl, by decide +kernel, rfl, by decide +kernel, by decide +kernel⟩
theorem ok_smooth {f : Addr} {fd : FuncData} (B : Bt K mg tL tM tV) (Dd : Df K mg "is_smooth" s_is_smooth ["system"] f fd) (Gcheck_system : Cl P w K mg base 5 "check_system" ["value"] spChkSys) (Gfind_reason : Cl P w K mg base 5 "find_reason" ["system"] spReason) : FnOk P w K mg base CX0 6 f fd ["system"] spSmooth := by
  refine Dd.F.ok sc_is_smooth (fun vs H Q Ex h => ?_) (fun cdv A outer s H vs Q Ex hr h => ?_)
  · obtain ⟨p, S, rfl, _⟩ := h
    rfl
  obtain ⟨p, S, rfl, hS, hG, q⟩ := h
  refine ⟨_, (pss_cons (ps_expr (pe_cl Gcheck_system (hr.mono (by omega)) rfl (pa_cons (pv 0) pa_nil)))
    (pss_one (ps_ret (pe_cmpR op_isN (pe_cl Gfind_reason (hr.mono (by omega)) rfl (pa_cons (pv 0) pa_nil)) pe_non (nomark _))))), ?_⟩
  refine ⟨_, rfl, p, S, rfl, hS, hG, fun H1 s1 => ⟨_, rfl, p, S, rfl, hS.same s1, hG, fun v H2 s2 r => ⟨rfl, ?_⟩⟩⟩
  have := q H2 (s1.trans s2)
  cases hh : reasonL S with
  | none =>
    rw [hh] at r this
    obtain rfl : v = .non := r
    exact this
  | some x =>
    rw [hh] at r this
    obtain ⟨t, _, _, rfl, _⟩ := r
    exact this
end
end My
namespace My
open PySem PySem.Spec PyProof.Rows L2
theorem nodup_sub : ∀ (l ys : List Nat), l.Nodup → (∀ x ∈ l, x ∈ ys) → l.length ≤ ys.length
  | [], _, _, _ => Nat.zero_le _
  | x :: l, ys, h, hs => by
    rw [List.nodup_cons] at h
    have hx := hs x (List.mem_cons_self ..)
    have := nodup_sub l (ys.erase x) h.2 fun y hy => (List.mem_erase_of_ne fun (e : y = x) => h.1 (by rw [← e]; exact hy)).mpr (hs y (List.mem_cons_of_mem _ hy))
    rw [List.length_erase_of_mem hx] at this
    have := List.length_pos_of_mem hx
    rw [List.length_cons]
    omega
def spLR : Sp := fun vs H Q _ => ∃ (p : Addr) (S : Sy) (s : Nat), vs = [.ref p, .int s] ∧ SysAt H p S ∧ Good S ∧ s ∈ S.st ∧ ∀ (F : Addr) (fs : List Nat) H', Same H H' → H F = none → H' F = some (.lst (natsV fs)) → (fs.Nodup ∧ ∀ n, n ∈ fs ↔ Rch S s n) → Q (.ref F) H'
/-- what is found so far -/
structure Fnd (S : Sy) (s0 : Nat) (fs : List Nat) : Prop where
  s0m : s0 ∈ fs
  nd : fs.Nodup
  ok : ∀ f ∈ fs, f ∈ S.st ∧ Rch S s0 f
theorem Fnd.snoc {S : Sy} {s0 : Nat} {fs : List Nat} (h : Fnd S s0 fs) {x : Nat} (hx : x ∉ fs) (hs : x ∈ S.st) (hr : Rch S s0 x) : Fnd S s0 (fs ++ [x]) where
  s0m := List.mem_append_left _ h.s0m
  nd := by
    rw [List.nodup_append]
    exact ⟨h.nd, nodup_one x, fun a ha b hb e => hx (by rw [List.mem_singleton.mp hb] at e; rw [← e]; exact ha)⟩
  ok := fun f hf => by
    rcases List.mem_append.mp hf with hf | hf
    · exact h.ok f hf
    · rw [List.mem_singleton.mp hf]
      exact ⟨hs, hr⟩
section
variable {P : Program} {w : World} {K : PySem.W.Frag} {mg : Str → Option Value} {base : Heap} {tL tM tV : Tok}
abbrev N__law_reached : List Str := ["system", "state", "found", "turn", "start", "letter", "end"]
theorem sc__law_reached : FnScope ["system", "state", "found", "turn", "start", "letter", "end"] ["system", "state"] (defScope s__law_reached) := ⟨rfl, rfl, rfl, by decide +kernel, rfl, by decide +kernel, by decide +kernel⟩
set_option maxHeartbeats 1000000 in
theorem ok_lreached {f : Addr} {fd : FuncData} (B : Bt K mg tL tM tV) (Dd : Df K mg "_law_reached" s__law_reached ["system", "state"] f fd) : FnOk P w K mg base CX0 1 f fd ["system", "state"] spLR := by
  refine Dd.F.ok sc__law_reached (fun vs H Q Ex h => ?_) (fun cdv A outer s H vs Q Ex hr h => ?_)
  · obtain ⟨p, S, s, rfl, _⟩ := h
    rfl
  obtain ⟨p, S, s0, rfl, hS, hG, hs, q⟩ := h
  refine ⟨_, (pss_cons (ps_set (i := 2) sc__law_reached.nd rfl (Or.inl rfl) (pe_lst (pa_cons (pv 1) pa_nil)))
    (pss_cons (ps_for PassesOwn.never rfl (pi_range1 rfl B.b_range (pa_cons (pe_callB call_len rfl B.b_len boot_len (pa_cons (pe_ix (r := rIxT K) ix_tup (pv 0) pe_int (fun _ _ => rfl)) pa_nil)) pa_nil)) (pg_name (i := 3) sc__law_reached.nd rfl (Or.inl rfl)) (pss_one (ps_if (pt_cmpR op_lt (pv 3) (pe_callB call_len rfl B.b_len boot_len (pa_cons (pv 2) pa_nil)) (nomark _)) (pss_one (ps_for PassesOwn.never rfl (pi_tup (pe_ix (r := rIxT K) ix_tup (pv 0) pe_int (fun _ _ => rfl))) (pg_tup rfl (pgs_cons (pg_name (i := 4) sc__law_reached.nd rfl (Or.inl rfl)) (pgs_cons (pg_name (i := 5) sc__law_reached.nd rfl (Or.inl rfl)) (pgs_cons (pg_name (i := 6) sc__law_reached.nd rfl (Or.inl rfl)) pgs_nil)))) (pss_one (ps_if (PW.pt (pw_and (pt_cmpR op_eq (pv 4) (pe_ix (r := rIxL K) ix_list (pv 2) (pv 3) (fun _ _ => rfl)) (nomark _)) (pw_and1 (pt_cmpR (r := rNotInB K) (op_notin_seqB rfl) (pv 6) (pv 2) rfl)))) (pss_one (ps_expr (pe_bm PySem.F.plainAttrs_list PySem.F.slot_list_append PySem.F.type_list_append mt_append (pv 2) (pa_cons (pv 6) pa_nil)))) pss_nil)))) pss_nil)))
    (pss_one (ps_ret (pv 2))))), ?_⟩
  obtain ⟨a, b, c, ts, h1, h2, h3, h4, h5⟩ := hS.ex
  refine ⟨_, rfl, by show 1 ≤ sizeLine; decide, fun F hF => ?_⟩
  have u1 := same_upd (o := .lst [V.int (s0 : Int)]) hF
  have sl := hG.len
  refine ⟨_, rfl, p, _, 0, _, rfl, rfl, SqT.of (u1 _ _ h1), at_zero, _, S.st.length, rfl, .inr ⟨_, SqT.of (u1 _ _ h2), by rw [natsV_len]⟩, _, rfl, by omega, by omega, for_range (lo := 0) (n := S.st.length) (fun i σ' H' => ∃ (fs : List Nat) (o3 o4 o5 o6 : Option V), σ' = [some (.ref p), some (.int s0), some (.ref F), o3, o4, o5, o6] ∧ Same H H' ∧ H' F = some (.lst (natsV fs)) ∧ Fnd S s0 fs ∧ ∀ j < i, ∀ f, fs[j]? = some f → ∀ m ∈ S.mv, m.1 = f → m.2.2 ∈ fs) ?_ ?_ ?_⟩
  · exact ⟨[s0], none, none, none, none, rfl, u1, upd_same, ⟨List.mem_singleton.mpr rfl, nodup_one _, fun f hf => by rw [List.mem_singleton.mp hf]; exact ⟨hs, .refl _⟩⟩, fun j hj => by omega⟩
  · rintro i σ' H1 hi ⟨fs, o3, o4, o5, o6, rfl, s1, hF1, fn, cl⟩
    have fl := nodup_sub fs S.st fn.nd fun x hx => (fn.ok x hx).1
    refine ⟨_, rfl, _, rfl, _, fs.length, rfl, .inl ⟨_, SqL.of hF1, by rw [natsV_len]⟩, _, _, rfl, rfl, _, rfl, ite2 (fun c1 => ?_) (fun c1 => ?_)⟩
    · have hil : i < fs.length := by
        have := of_decide_eq_true c1
        omega
      obtain ⟨f, hf⟩ : ∃ f, fs[i]? = some f := ⟨_, List.getElem?_eq_getElem hil⟩
      have hfm := List.mem_of_getElem? hf
      refine ⟨_, rfl, p, _, 1, _, rfl, rfl, SqT.of (s1 _ _ h1), at_one, b, rfl, ⟨_, SqT.of (s1 _ _ h3)⟩, for_tup (K := K) (a := b) (xs := ts) (fun k σ' H' => ∃ (ex : List Nat) (o4 o5 o6 : Option V), σ' = [some (.ref p), some (.int s0), some (.ref F), some (.int (0 + (i : Nat))), o4, o5, o6] ∧ Same H H' ∧ H' F = some (.lst (natsV (fs ++ ex))) ∧ Fnd S s0 (fs ++ ex) ∧ ∀ m ∈ S.mv.take k, m.1 = f → m.2.2 ∈ fs ++ ex) ?_ ?_ ?_ ?_⟩
      · exact ⟨[], o4, o5, o6, rfl, s1, by rw [List.append_nil]; exact hF1, by rw [List.append_nil]; exact fn, fun m hm => by (cases hm)⟩
      · rintro k σ' H' _ ⟨ex, o4, o5, o6, rfl, s2, _⟩
        exact SqT.of (s2 _ _ h3)
      · rintro k v σ' H2 hv ⟨ex, o4, o5, o6, rfl, s2, hF2, fn2, cl2⟩
        obtain ⟨m, hm, hmv⟩ := h4.get hv
        obtain ⟨t, rfl, ht⟩ := hmv.same s2
        have hmS := List.mem_of_getElem? hm
        have tk := take_snoc hm
        have hfi : (fs ++ ex)[i]? = some f := by rw [List.getElem?_append_left hil]; exact hf
        have fl2 := nodup_sub (fs ++ ex) S.st fn2.nd fun x hx => (fn2.ok x hx).1
        refine ⟨t, _, rfl, SqT.of ht, rfl, _, _, rfl, _, _, rfl, _, _, rfl, rfl, ?_⟩
        refine ⟨_, rfl, _, rfl, _, rfl, F, _, _, _, rfl, rfl, SqL.of hF2, (by rw [Int.zero_add]; exact atI_nat (natsV_getN hfi)), rfl, _, rfl, ite2 (fun c2 => ?_) (fun c2 => ?_)⟩
        · have e1 : m.1 = f := by
            have := V.int.inj (of_decide_eq_true c2)
            omega
          refine ⟨_, rfl, _, rfl, F, _, rfl, .inl (SqL.of hF2), rfl, flat_nats _, _, rfl, ?_⟩
          show if (!inV (V.int (m.2.2 : Int)) (natsV (fs ++ ex))) = true then _ else _
          rw [in_nats]
          refine ite2 (fun c3 => ?_) (fun c3 => ?_)
          · have hn : m.2.2 ∉ fs ++ ex := fun h => by rw [decide_eq_true h] at c3; cases c3
            have fn3 := fn2.snoc hn (hG.min m hmS).2.1 (((fn.ok f hfm).2).trans (e1 ▸ Rch.one hmS))
            refine ⟨_, rfl, .inl ⟨rfl, _, SqL.of hF2⟩, _, rfl, F, _, _, rfl, rfl, hF2, ?_, ex ++ [m.2.2], _, _, _, rfl, fun b' o' hb' => by rw [upd_ne (ne_of_none hb' hF)]; exact s2 _ _ hb', ?_, by rw [← List.append_assoc]; exact fn3, ?_⟩
            · rw [natsV_len]
              exact Nat.lt_of_le_of_lt (m := 40) (by omega) (by decide)
            · rw [upd_same, natsV_snoc, List.append_assoc]
            · intro m' hm' e
              rw [← List.append_assoc]
              rw [tk] at hm'
              rcases List.mem_append.mp hm' with h | h
              · exact List.mem_append_left _ (cl2 m' h e)
              · rw [List.mem_singleton.mp h]
                exact List.mem_append_right _ (List.mem_singleton.mpr rfl)
          · refine ⟨ex, _, _, _, rfl, s2, hF2, fn2, fun m' hm' e => ?_⟩
            rw [tk] at hm'
            rcases List.mem_append.mp hm' with h | h
            · exact cl2 m' h e
            · rw [List.mem_singleton.mp h]
              by_cases k : m.2.2 ∈ fs ++ ex
              · exact k
              · exact absurd (by rw [decide_eq_false k]; rfl) c3
        · refine ⟨ex, _, _, _, rfl, s2, hF2, fn2, fun m' hm' e => ?_⟩
          rw [tk] at hm'
          rcases List.mem_append.mp hm' with h | h
          · exact cl2 m' h e
          · rw [List.mem_singleton.mp h] at e
            exact absurd (by rw [e]; exact decide_eq_true rfl) c2
      · rintro σ' H2 ⟨ex, o4, o5, o6, rfl, s2, hF2, fn2, cl2⟩
        rw [h4.len, List.take_length] at cl2
        refine ⟨fs ++ ex, _, _, _, _, rfl, s2, hF2, fn2, fun j hj g hg m hm e => ?_⟩
        have hjl : j < fs.length := by omega
        rw [List.getElem?_append_left hjl] at hg
        by_cases k : j = i
        · rw [k, hf] at hg
          cases hg
          exact cl2 m hm e
        · exact List.mem_append_left _ (cl j (by omega) g hg m hm e)
    · refine ⟨fs, _, _, _, _, rfl, s1, hF1, fn, fun j hj g hg m hm e => ?_⟩
      by_cases k : j = i
      · have hjl := (List.getElem?_eq_some_iff.mp hg).1
        exact absurd (decide_eq_true (by omega)) c1
      · exact cl j (by omega) g hg m hm e
  · rintro σ' H1 ⟨fs, o3, o4, o5, o6, rfl, s1, hF1, fn, cl⟩
    have fl := nodup_sub fs S.st fn.nd fun x hx => (fn.ok x hx).1
    refine ⟨_, rfl, q F fs H1 s1 hF hF1 ⟨fn.nd, fun n => ⟨fun h => (fn.ok n h).2, fun h => ?_⟩⟩⟩
    refine h.closed (F := fun n => n ∈ fs) fn.s0m fun m hm hx => ?_
    obtain ⟨j, hj⟩ := List.getElem?_of_mem hx
    exact cl j (by have := (List.getElem?_eq_some_iff.mp hj).1; omega) m.1 hj m hm rfl
end
end My
namespace My
open PySem PySem.Spec PyProof.Rows L2
theorem rows_any (b : List Nat) (rows : List (List Nat)) : ((rows.map fun r => PyData.tuple (psd r)).any fun z => PyData.eqv z (.tuple (psd b))) = decide (b ∈ rows) := by
  rw [Bool.eq_iff_iff, decide_eq_true_eq, List.any_eq_true]
  constructor
  · rintro ⟨z, hz, h⟩
    obtain ⟨r, hr, rfl⟩ := List.mem_map.mp hz
    rw [row_eqv, decide_eq_true_eq] at h
    rw [← h]
    exact hr
  · exact fun h => ⟨_, List.mem_map_of_mem h, by rw [row_eqv]; exact decide_eq_true rfl⟩
noncomputable def rowsTo (S : Sy) (i : Nat) : List (List Nat) := ((S.st.take i).filter fun s => decide ((orbL S s).head? = some s)).map (orbL S)
theorem rowsTo_all (S : Sy) : rowsTo S S.st.length = orbsL S := by
  unfold rowsTo
  rw [List.take_length]
  rfl
theorem rowsTo_yes {S : Sy} {i y : Nat} (h : S.st[i]? = some y) (e : (orbL S y).head? = some y) : rowsTo S (i + 1) = rowsTo S i ++ [orbL S y] := by
  unfold rowsTo
  rw [take_snoc h, List.filter_append, List.filter_cons, if_pos (decide_eq_true e), List.filter_nil, List.map_append]
  rfl
theorem rowsTo_no {S : Sy} {i y : Nat} (h : S.st[i]? = some y) (e : ¬ (orbL S y).head? = some y) : rowsTo S (i + 1) = rowsTo S i := by
  unfold rowsTo
  rw [take_snoc h, List.filter_append, List.filter_cons, if_neg (by rw [decide_eq_false e]; exact Bool.false_ne_true), List.filter_nil, List.append_nil]
theorem mem_rowsTo {S : Sy} (G : Good S) {i y : Nat} (h : S.st[i]? = some y) : orbL S y ∈ rowsTo S i ↔ ¬ (orbL S y).head? = some y := by
  have hy := List.mem_of_getElem? h
  constructor
  · intro hm e
    obtain ⟨z, hz, ez⟩ := List.mem_map.mp hm
    obtain ⟨hz1, hz2⟩ := List.mem_filter.mp hz
    have hz3 := of_decide_eq_true hz2
    rw [ez, e] at hz3
    have eyz := Option.some.inj hz3
    obtain ⟨j, hj⟩ := List.getElem?_of_mem hz1
    have hjl := (List.getElem?_eq_some_iff.mp hj).1
    rw [List.length_take] at hjl
    rw [List.getElem?_take_of_lt (by omega)] at hj
    have := pw_get G.rise (by omega : j < i) hj h
    omega
  · intro e
    obtain ⟨z, hz⟩ : ∃ z, (orbL S y).head? = some z := by
      have := orb_self hy
      cases k : orbL S y with
      | nil => rw [k] at this; cases this
      | cons z l => exact ⟨z, rfl⟩
    have hzm : z ∈ orbL S y := List.mem_of_head? hz
    obtain ⟨a1, a2, a3⟩ := mem_orb.mp hzm
    have eo := orb_eq a2 a3
    have zy : z < y := by
      have hr : (orbL S y).Pairwise (· < ·) := G.rise.sublist List.filter_sublist
      have hself := orb_self hy
      cases k : orbL S y with
      | nil => rw [k] at hself; cases hself
      | cons u l =>
        rw [k] at hz hr hself
        have eu : u = z := Option.some.inj hz
        rcases List.mem_cons.mp hself with c | c
        · exact absurd (by rw [k, c]; rfl) e
        · rw [← eu]
          exact (List.pairwise_cons.mp hr).1 y c
    obtain ⟨j, hj⟩ := List.getElem?_of_mem a1
    have hji : j < i := by
      rcases Nat.lt_trichotomy j i with c | c | c
      · exact c
      · rw [c, h] at hj
        have := Option.some.inj hj
        omega
      · have := pw_get G.rise c h hj
        omega
    refine List.mem_map.mpr ⟨z, List.mem_filter.mpr ⟨?_, decide_eq_true (by rw [← eo]; exact hz)⟩, eo.symm⟩
    exact List.mem_of_getElem? (i := j) (by rw [List.getElem?_take_of_lt hji]; exact hj)
section
variable {P : Program} {w : World} {K : PySem.W.Frag} {mg : Str → Option Value} {base : Heap} {tL tM tV : Tok}
abbrev N__law_orbits : List Str := ["system", "near", "state", "found", "orbit", "other"]
theorem sc__law_orbits : FnScope ["system", "near", "state", "found", "orbit", "other"] ["system"] (defScope s__law_orbits) := ⟨rfl, rfl, rfl, by decide +kernel, rfl, by decide +kernel, by decide +kernel⟩
set_option maxHeartbeats 1000000 in
theorem ok_lorbits {f : Addr} {fd : FuncData} (B : Bt K mg tL tM tV) (Dd : Df K mg "_law_orbits" s__law_orbits ["system"] f fd) (G_law_reached : Cl P w K mg base 1 "_law_reached" ["system", "state"] spLR) : FnOk P w K mg base CX0 2 f fd ["system"] spOrbitsOf := by
  refine Dd.F.ok sc__law_orbits (fun vs H Q Ex h => ?_) (fun cdv A outer s H vs Q Ex hr h => ?_)
  · obtain ⟨p, S, rfl, _⟩ := h
    rfl
  obtain ⟨p, S, rfl, hS, hG, q⟩ := h
  refine ⟨_, (pss_cons (ps_set (i := 1) sc__law_orbits.nd rfl (Or.inr rfl) pe_dnewK)
    (pss_cons (ps_for PassesOwn.never rfl (pi_tup (pe_ix (r := rIxT K) ix_tup (pv 0) pe_int (fun _ _ => rfl))) (pg_name (i := 2) sc__law_orbits.nd rfl (Or.inr rfl)) (pss_one (ps_dput (hu_of hr) (pv 1) (pv 2) (pe_cl G_law_reached (hr.mono (by omega)) rfl (pa_cons (pv 0) (pa_cons (pv 2) pa_nil))) rfl)))
    (pss_cons (ps_set (i := 3) sc__law_orbits.nd rfl (Or.inl rfl) (pe_lst pa_nil))
    (pss_cons (ps_for PassesOwn.never rfl (pi_tup (pe_ix (r := rIxT K) ix_tup (pv 0) pe_int (fun _ _ => rfl))) (pg_name (i := 2) sc__law_orbits.nd rfl (Or.inr rfl)) (pss_cons (ps_set (i := 4) sc__law_orbits.nd rfl (Or.inl rfl) (pe_callTy (r := rTupOf K) call_tuple_ofK rfl B.b_tuple boot_tuple (pa_cons (pe_lc (own := [("other", 5)]) (g := gName 5) rfl sc__law_orbits.nd (pi_tup (pe_ix (r := rIxT K) ix_tup (pv 0) pe_int (fun _ _ => rfl))) (blkOk_by (N := N__law_orbits) (sc := defScope s__law_orbits) (by decide +kernel)) (fun _ _ _ _ _ => pg_name (i := 5) sc__law_orbits.nd rfl (Or.inl rfl)) (fun _ _ _ _ _ => pts_one (PW.pt (pw_and (pt_cmpR (r := rInB K) (op_in_seqB rfl) (pv 5) (pe_dget (hu_of hr) (pv 1) (pv 2) (fun _ _ => rfl)) rfl) (pw_and1 (pt_cmpR (r := rInB K) (op_in_seqB rfl) (pv 2) (pe_dget (hu_of hr) (pv 1) (pv 5) (fun _ _ => rfl)) rfl))))) (fun _ _ _ _ _ => (pv 5))) pa_nil)))
    (pss_one (ps_if (pt_cmpR (r := rNotInD K) (op_notInD (u65 hr)) (pv 4) (pv 3) rfl) (pss_one (ps_expr (pe_bm PySem.F.plainAttrs_list PySem.F.slot_list_append PySem.F.type_list_append mt_append (pv 3) (pa_cons (pv 4) pa_nil)))) pss_nil))))
    (pss_one (ps_ret (pv 3))))))), ?_⟩
  obtain ⟨a, b, c, ts, h1, h2, h3, h4, h5⟩ := hS.ex
  have sl := hG.len
  refine fun D hD => ?_
  have u1 := same_upd (o := .dK []) hD
  refine ⟨_, rfl, p, _, 0, _, rfl, rfl, SqT.of (u1 _ _ h1), at_zero, a, rfl, ⟨_, SqT.of (u1 _ _ h2)⟩, for_tup (K := K) (a := a) (xs := natsV S.st) (fun i σ' H' => ∃ (kvs : List (L2.Key × V)) (o2 o3 o4 o5 : Option V), σ' = [some (.ref p), some (.ref D), o2, none, o4, o5] ∧ Same H H' ∧ H' D = some (.dK kvs) ∧ kvs.length ≤ i ∧ ∀ y ∈ S.st.take i, ∃ F fs, valV kvs (Sum.inl ((y : Nat) : Int)) = some (.ref F) ∧ H' F = some (.lst (natsV fs)) ∧ ∀ n, n ∈ fs ↔ Rch S y n) ?_ ?_ ?_ ?_⟩
  · exact ⟨[], none, none, none, none, rfl, u1, upd_same, Nat.le_refl _, fun y hy => by (cases hy)⟩
  · rintro i σ' H' _ ⟨kvs, o2, o3, o4, o5, rfl, s1, _⟩
    exact SqT.of (s1 _ _ h2)
  · rintro i v σ' H1 hv ⟨kvs, o2, o3, o4, o5, rfl, s1, hk, kl, kv⟩
    obtain ⟨y, hy, rfl⟩ := natsV_getB hv
    have hys := List.mem_of_getElem? hy
    have hil := (List.getElem?_eq_some_iff.mp hy).1
    refine ⟨_, rfl, _, rfl, p, S, y, rfl, hS.same s1, hG, hys, fun F fs H2 s2 hF0 hF hfs0 => ?_⟩
    have hfs := hfs0.2
    have hk2 := s2 _ _ hk
    refine ⟨_, rfl, _, rfl, D, _, rfl, DPut.k (k := Sum.inl (y : Int)) hk2 (Nat.lt_of_le_of_lt (m := 40) (by omega) (by decide)), ?_⟩
    refine ⟨_, _, none, _, _, rfl, fun b' o' hb' => by rw [upd_ne (ne_of_none hb' hD)]; exact s2 _ _ (s1 _ _ hb'), upd_same, Nat.le_trans (length_putK kvs _ _) (Nat.succ_le_succ kl), fun z hz => ?_⟩
    rw [valV_put]
    by_cases e : z = y
    · rw [e, if_pos rfl]
      exact ⟨F, fs, rfl, by rw [upd_ne fun e => by rw [e, hk2] at hF; cases hF]; exact hF, hfs⟩
    · rw [if_neg fun k => e (by have := Sum.inl.inj k; omega)]
      rw [take_snoc hy] at hz
      rcases List.mem_append.mp hz with hz | hz
      · obtain ⟨F', fs', e1, e2, e3⟩ := kv z hz
        have e2' := s2 _ _ e2
        exact ⟨F', fs', e1, by rw [upd_ne fun e => by rw [e, hk2] at e2'; cases e2']; exact e2', e3⟩
      · exact absurd (List.mem_singleton.mp hz) e
  · rintro σ' H1 ⟨kvs, o2, o3, o4, o5, rfl, s1, hk, kl, kv⟩
    rw [natsV_len, List.take_length] at kv
    refine ⟨by show 0 ≤ sizeLine; decide, fun L hL => ?_⟩
    have nL : H L = none := s1.free hL
    have uL := same_upd (o := .lst []) hL
    have S2 := s1.trans uL
    refine ⟨_, rfl, p, _, 0, _, rfl, rfl, SqT.of (S2 _ _ h1), at_zero, a, rfl, ⟨_, SqT.of (S2 _ _ h2)⟩, for_tup (K := K) (a := a) (xs := natsV S.st) (fun i σ' H' => ∃ (ws : List V) (o2 o4 o5 : Option V), σ' = [some (.ref p), some (.ref D), o2, some (.ref L), o4, o5] ∧ Same H1 H' ∧ H' L = some (.lst ws) ∧ Two (fun t row => ∃ q, t = V.ref q ∧ H' q = some (.tup (natsV row))) ws (rowsTo S i)) ?_ ?_ ?_ ?_⟩
    · exact ⟨[], _, _, _, rfl, uL, upd_same, .nil⟩
    · rintro i σ' H' _ ⟨ws, o2, o4, o5, rfl, s3, _⟩
      exact SqT.of (s3 _ _ (s1 _ _ h2))
    · rintro i v σ' H3 hv ⟨ws, o2, o4, o5, rfl, s3, hws, two⟩
      obtain ⟨y, hy, rfl⟩ := natsV_getB hv
      have hys := List.mem_of_getElem? hy
      have S3 := s1.trans s3
      have wl : ws.length ≤ 40 := by
        rw [two.len]
        unfold rowsTo
        rw [List.length_map]
        exact Nat.le_trans (List.length_filter_le _ _) (by rw [List.length_take]; omega)
      obtain ⟨F1, f1, e1, e2, e3⟩ := kv y hys
      refine ⟨_, rfl, p, _, 0, _, rfl, rfl, SqT.of (S3 _ _ h1), at_zero, a, rfl, ⟨_, SqT.of (S3 _ _ h2)⟩, fun M hM => ?_⟩
      refine lc_tupR (K := K) (a := a) (xs := natsV S.st) (ftR S.st fun o => dec (Rch S y o ∧ Rch S o y)) rfl (ftR_len (by omega)) hM (SqT.of (S3 _ _ h2)) (fun k x H' hx s4 fin fin0 => ?_) (fun H4 s4 hk4 => ?_)
      · obtain ⟨o, ho, rfl⟩ := natsV_getB hx
        have hos := List.mem_of_getElem? ho
        obtain ⟨F2, f2, e4, e5, e6⟩ := kv o hos
        have S4 := s3.trans s4
        have d1 : DGet H' D (V.int (y : Int)) (some (.ref F1)) := by
          have := DGet.k (k := Sum.inl (y : Int)) (S4 _ _ hk)
          rw [e1] at this
          exact this
        have d2 : DGet H' D (V.int (o : Int)) (some (.ref F2)) := by
          have := DGet.k (k := Sum.inl (o : Int)) (S4 _ _ hk)
          rw [e4] at this
          exact this
        have b1 : decide (o ∈ f1) = dec (Rch S y o) := by rw [Bool.eq_iff_iff, decide_eq_true_eq, dec_iff]; exact e3 o
        have b2 : decide (y ∈ f2) = dec (Rch S o y) := by rw [Bool.eq_iff_iff, decide_eq_true_eq, dec_iff]; exact e6 y
        refine ⟨rfl, _, rfl, _, rfl, _, rfl, D, _, rfl, d1, F1, _, rfl, .inl (SqL.of (S4 _ _ e2)), rfl, flat_nats _, _, rfl, ?_⟩
        show if inV (V.int (o : Int)) (natsV f1) = true then _ else _
        rw [in_nats, b1]
        refine ite2 (fun c1 => ?_) (fun c1 => iteF (fin0 _ (ftR_no ho ?_) (Same.refl _)))
        · refine ⟨_, rfl, _, rfl, _, rfl, D, _, rfl, d2, F2, _, rfl, .inl (SqL.of (S4 _ _ e5)), rfl, flat_nats _, _, rfl, ?_⟩
          show if inV (V.int (y : Int)) (natsV f2) = true then _ else _
          rw [in_nats, b2]
          refine ite2 (fun c2 => ?_) (fun c2 => fin0 _ (ftR_no ho ?_) (Same.refl _))
          · exact ⟨_, rfl, fin _ _ (ftR_yes ho (by rw [dec_and, c1, c2]; rfl)) (Same.refl _)⟩
          · rw [dec_and, eq_false_of_ne_true c2, Bool.and_false]
            exact Bool.false_ne_true
        · rw [dec_and, eq_false_of_ne_true c1, Bool.false_and]
          exact Bool.false_ne_true
      rw [ftR_all] at hk4
      refine ⟨M, _, rfl, .inl ⟨SqL.of hk4, fun t ht => ?_⟩⟩
      have st := same_upd (o := .tup (natsV (orbL S y))) ht
      have U := s4.trans st
      have hws5 := U _ _ hws
      have two5 := two.mono fun v r (hx : ∃ q, v = V.ref q ∧ H3 q = some (.tup (natsV r))) => (show ∃ q, v = V.ref q ∧ (upd H4 t (.tup (natsV (orbL S y)))) q = some (.tup (natsV r)) from by obtain ⟨q1, e, h⟩ := hx; exact ⟨q1, e, U _ _ h⟩)
      refine ⟨_, rfl, _, rfl, .tuple (psd (orbL S y)), (rowsTo S i).map (fun r => PyData.tuple (psd r)), .tup (SqT.of upd_same) (dpAll_ints _), dp_rows hws5 two5, tup_shaped _, rows_shaped _, _, rfl, ?_⟩
      rw [rows_any]
      show if (!decide (orbL S y ∈ rowsTo S i)) = true then _ else _
      refine ite2 (fun c1 => ?_) (fun c1 => ?_)
      · have hh : (orbL S y).head? = some y := by
          by_cases e : (orbL S y).head? = some y
          · exact e
          · rw [decide_eq_true ((mem_rowsTo hG hy).mpr e)] at c1
            cases c1
        refine ⟨_, rfl, .inl ⟨rfl, _, SqL.of hws5⟩, _, rfl, L, _, _, rfl, rfl, hws5, Nat.lt_of_le_of_lt wl (by decide), ws ++ [.ref t], _, _, _, rfl, fun b' o' hb' => by rw [upd_ne (ne_of_none hb' hL)]; exact U _ _ (s3 _ _ hb'), upd_same, ?_⟩
        rw [rowsTo_yes hy hh]
        refine (two5.mono fun v r hx => ?_).app (.cons ⟨t, rfl, ?_⟩ .nil)
        · obtain ⟨q1, e2, h⟩ := hx
          exact ⟨q1, e2, by rw [upd_ne fun e3 => by rw [e3, hws5] at h; cases h]; exact h⟩
        · rw [upd_ne fun e3 => by rw [e3, s4 _ _ hws] at ht; cases ht]
          exact upd_same
      · have hh : ¬ (orbL S y).head? = some y := by
          refine (mem_rowsTo hG hy).mp ?_
          by_cases e : orbL S y ∈ rowsTo S i
          · exact e
          · exact absurd (by rw [decide_eq_false e]; rfl) c1
        exact ⟨ws, _, _, _, rfl, s3.trans U, hws5, by rw [rowsTo_no hy hh]; exact two5⟩
    · rintro σ' H3 ⟨ws, o2, o4, o5, rfl, s3, hws, two⟩
      rw [natsV_len, rowsTo_all] at two
      exact ⟨_, rfl, q L H3 (s1.trans s3) nL ⟨ws, hws, two⟩⟩
abbrev N__law_orbit : List Str := ["system", "state", "orbit"]
theorem sc__law_orbit : FnScope ["system", "state", "orbit"] ["system", "state"] (defScope s__law_orbit) := ⟨rfl, rfl, rfl, by decide +kernel, rfl, by decide +kernel, by decide +kernel⟩
theorem ok_lorbit {f : Addr} {fd : FuncData} (B : Bt K mg tL tM tV) (Dd : Df K mg "_law_orbit" s__law_orbit ["system", "state"] f fd) (G_law_orbits : Cl P w K mg base 2 "_law_orbits" ["system"] spOrbitsOf) : FnOk P w K mg base CX0 3 f fd ["system", "state"] spOrbitAt := by
  refine Dd.F.ok sc__law_orbit (fun vs H Q Ex h => ?_) (fun cdv A outer s H vs Q Ex hr h => ?_)
  · obtain ⟨p, S, s, rfl, _⟩ := h
    rfl
  obtain ⟨p, S, y, rfl, hS, hG, hys, q⟩ := h
  refine ⟨_, (pss_one (ps_ret (pe_ix (r := rIxL K) ix_list (pe_lc (own := [("orbit", 2)]) (g := gName 2) rfl sc__law_orbit.nd (pi_list (pe_cl G_law_orbits (hr.mono (by omega)) rfl (pa_cons (pv 0) pa_nil))) (blkOk_by (N := N__law_orbit) (sc := defScope s__law_orbit) (by decide +kernel)) (fun _ _ _ _ _ => pg_name (i := 2) sc__law_orbit.nd rfl (Or.inl rfl)) (fun _ _ _ _ _ => pts_one (pt_cmpR (r := rInB K) (op_in_seqB rfl) (pv 1) (pv 2) rfl)) (fun _ _ _ _ _ => (pv 2))) pe_int (fun _ _ => rfl)))), ?_⟩
  refine ⟨_, rfl, p, S, rfl, hS, hG, fun R H1 s1 hR0 hRT => ?_⟩
  obtain ⟨ts, hts, two⟩ := hRT
  have ol := orbs_len hG
  have tl := two.len
  refine ⟨R, rfl, ⟨_, SqL.of hts⟩, fun M hM => ?_⟩
  refine lc_list (K := K) (a := R) (xs := ts) (fun j H' => Same H1 H' ∧ ∃ ws : List V, H' M = some (.lst ws) ∧ ws.length ≤ j ∧ (∀ v ∈ ws, ∃ t, v = .ref t ∧ H' t = some (.tup (natsV (orbL S y)))) ∧ ∀ k < j, ∀ r, (orbsL S)[k]? = some r → y ∈ r → ws ≠ []) ⟨same_upd hM, [], upd_same, Nat.le_refl _, fun v hv => by (cases hv), fun k hk => by omega⟩ (fun j H' _ h => SqL.of (h.1 _ _ hts)) (fun j x H' hx h => ?_) (fun H2 h => ?_)
  · obtain ⟨s2, ws, hws, wl, wv, wn⟩ := h
    obtain ⟨row, hrow, q1, rfl, hq1⟩ := two.get hx
    have hjl := (List.getElem?_eq_some_iff.mp hx).1
    have hq2 := s2 _ _ hq1
    obtain ⟨x0, _, er, _, _⟩ := orbs_get hrow
    refine ⟨rfl, _, rfl, _, rfl, q1, _, rfl, .inr (SqT.of hq2), rfl, flat_nats _, _, rfl, ?_⟩
    show if inV (V.int (y : Int)) (natsV row) = true then _ else _
    rw [in_nats]
    refine ite2 (fun c1 => ?_) (fun c1 => ?_)
    · have hyr : y ∈ row := of_decide_eq_true c1
      have er2 : row = orbL S y := by
        rw [er] at hyr ⊢
        obtain ⟨_, a2, a3⟩ := mem_orb.mp hyr
        exact orb_eq a2 a3
      refine ⟨_, rfl, ws, hws, Nat.lt_of_le_of_lt (m := 40) (by omega) (by decide), fun b' o' hb' => by rw [upd_ne (ne_of_none hb' hM)]; exact s2 _ _ hb', ws ++ [.ref q1], upd_same, by rw [List.length_append]; exact Nat.succ_le_succ wl, fun v hv => ?_, fun k _ r _ _ e => by simp at e⟩
      rcases List.mem_append.mp hv with hv | hv
      · obtain ⟨t, e, h⟩ := wv v hv
        exact ⟨t, e, by rw [upd_ne fun e => by rw [e, hws] at h; cases h]; exact h⟩
      · rw [List.mem_singleton.mp hv]
        exact ⟨q1, rfl, by rw [← er2, upd_ne (fun e => by rw [e, hws] at hq2; cases hq2)]; exact hq2⟩
    · refine ⟨s2, ws, hws, Nat.le_succ_of_le wl, wv, fun k hk r hr hyr => ?_⟩
      by_cases e : k = j
      · rw [e, hrow] at hr
        cases hr
        exact absurd (decide_eq_true hyr) c1
      · exact wn k (by omega) r hr hyr
  · obtain ⟨s2, ws, hws, wl, wv, wn⟩ := h
    obtain ⟨i, r, hi, hr⟩ := orbs_mem hys
    have hne := wn i (by rw [tl]; exact (List.getElem?_eq_some_iff.mp hi).1) r hi hr
    cases ws with
    | nil => exact absurd rfl hne
    | cons v l =>
      obtain ⟨t, rfl, ht⟩ := wv v (List.mem_cons_self ..)
      exact ⟨M, _, 0, _, rfl, rfl, SqL.of hws, at_zero, q t H2 (s1.trans s2) ht⟩
end
end My
namespace My
open PySem PySem.Spec PyProof.Rows L2
theorem repJ_two {H : Hp} {p : Addr} {xs : List V} {js : List J} {n : Nat} (h : H p = some (.tup xs)) (z : xs.length ≤ 100000) (two : Two (fun x j => RepJ H x j n) xs js) : RepJ H (.ref p) (.tup js) (n + 1) := .tup h z two.len fun _ _ _ hx hj => two.get2 hx hj
theorem two_map {α β γ : Type} {R : α → β → Prop} {T : α → γ → Prop} {g : β → γ} {as : List α} {bs : List β} (h : Two R as bs) (k : ∀ a b, R a b → T a (g b)) : Two T as (bs.map g) := by
  induction h with
  | nil => exact .nil
  | cons h _ ih => exact .cons (k _ _ h) ih
theorem two_nats {H : Hp} {n : Nat} : ∀ xs : List Nat, Two (fun x j => RepJ H x j n) (natsV xs) (xs.map fun (i : Nat) => J.int (i : Int))
  | [] => .nil
  | x :: xs => .cons (.int _) (two_nats xs)
def exJ (xs : List (Nat × Nat)) : J := .tup (xs.map fun x => .tup [.str ⟨#[x.1]⟩, .int (x.2 : Int)])
theorem exJ_rep {H : Hp} {t : Addr} {xs : List (Nat × Nat)} (h : ExitsAt H t xs) (hl : xs.length ≤ 1000) : RepJ H (.ref t) (exJ xs) 2 := by
  obtain ⟨ts, h1, two⟩ := h
  refine repJ_two h1 (by rw [two.len]; omega) (two_map two fun v x h => ?_)
  obtain ⟨q, rfl, h⟩ := h
  exact repJ_two h (by show 2 ≤ 100000; decide) (.cons (.str _) (.cons (.int _) .nil))
section
variable {P : Program} {w : World} {K : PySem.W.Frag} {mg : Str → Option Value} {base : Heap} {tL tM tV : Tok}
abbrev N__law_exits : List Str := ["system", "orbit", "state", "start", "letter", "end"]
theorem sc__law_exits : FnScope ["system", "orbit", "state", "start", "letter", "end"] ["system", "orbit", "state"] (defScope s__law_exits) := ⟨rfl, rfl, rfl, by decide +kernel, rfl, by decide +kernel, by decide +kernel⟩
theorem ok_lexits {f : Addr} {fd : FuncData} (B : Bt K mg tL tM tV) (Dd : Df K mg "_law_exits" s__law_exits ["system", "orbit", "state"] f fd) : FnOk P w K mg base CX0 1 f fd ["system", "orbit", "state"] spExitsOf := by
  refine Dd.F.ok sc__law_exits (fun vs H Q Ex h => ?_) (fun cdv A outer s H vs Q Ex hr h => ?_)
  · obtain ⟨p, o, S, orb, s, rfl, _⟩ := h
    rfl
  obtain ⟨p, o, S, orb, y, rfl, hS, hG, ho, q⟩ := h
  refine ⟨_, (pss_one (ps_ret (pe_callTy (r := rTupOf K) call_tuple_ofK rfl B.b_tuple boot_tuple (pa_cons (pe_lc (own := [("start", 3), ("letter", 4), ("end", 5)]) (g := gTup K 3 (gCons (gName 3) (gCons (gName 4) (gCons (gName 5) gNil)))) rfl sc__law_exits.nd (pi_tup (pe_ix (r := rIxT K) ix_tup (pv 0) pe_int (fun _ _ => rfl))) (blkOk_by (N := N__law_exits) (sc := defScope s__law_exits) (by decide +kernel)) (fun _ _ _ _ _ => pg_tup rfl (pgs_cons (pg_name (i := 3) sc__law_exits.nd rfl (Or.inl rfl)) (pgs_cons (pg_name (i := 4) sc__law_exits.nd rfl (Or.inl rfl)) (pgs_cons (pg_name (i := 5) sc__law_exits.nd rfl (Or.inl rfl)) pgs_nil)))) (fun _ _ _ _ _ => pts_one (PW.pt (pw_and (pt_cmpR op_eq (pv 3) (pv 2) (nomark _)) (pw_and1 (pt_cmpR (r := rNotInB K) (op_notin_seqB rfl) (pv 5) (pv 1) rfl))))) (fun _ _ _ _ _ => (pe_tup (pa_cons (pv 4) (pa_cons (pv 5) pa_nil))))) pa_nil)))), ?_⟩
  obtain ⟨a, b, c, ts, h1, h2, h3, h4, h5⟩ := hS.ex
  refine ⟨_, rfl, p, _, 1, _, rfl, rfl, SqT.of h1, at_one, b, rfl, ⟨_, SqT.of h3⟩, fun M hM => ?_⟩
  refine lc_tup (K := K) (a := b) (xs := ts) (fun i H' => Same H H' ∧ ∃ es : List V, H' M = some (.lst es) ∧ Two (ExitAt H') es (((S.mv.take i).filter fun m => decide (m.1 = y ∧ m.2.2 ∉ orb)).map fun m => (m.2.1, m.2.2))) ⟨same_upd hM, [], upd_same, .nil⟩ (fun i H' _ h => SqT.of (h.1 _ _ h3)) (fun i x H' hx h => ?_) (fun H' h => ?_)
  · obtain ⟨s1, es, hes, two⟩ := h
    obtain ⟨m, hm, hmv⟩ := h4.get hx
    obtain ⟨t, rfl, ht⟩ := hmv.same s1
    have tk := take_snoc hm
    have no : ¬ (m.1 = y ∧ m.2.2 ∉ orb) → ((S.mv.take (i + 1)).filter fun m => decide (m.1 = y ∧ m.2.2 ∉ orb)) = ((S.mv.take i).filter fun m => decide (m.1 = y ∧ m.2.2 ∉ orb)) := fun n => by
      rw [tk, List.filter_append, List.filter_cons, if_neg (by rw [decide_eq_false n]; exact Bool.false_ne_true), List.filter_nil, List.append_nil]
    have mlen : ((S.mv.take i).filter fun m => decide (m.1 = y ∧ m.2.2 ∉ orb)).length ≤ 1000 := Nat.le_trans (List.length_filter_le _ _) (by have := hG.ml; rw [List.length_take]; omega)
    refine ⟨t, _, rfl, SqT.of ht, rfl, _, _, rfl, _, _, rfl, _, _, rfl, rfl, rfl, _, rfl, _, rfl, rfl, _, rfl, ite2 (fun c1 => ?_) (fun c1 => iteF ⟨s1, es, hes, ?_⟩)⟩
    · have e1 : m.1 = y := by
        have := V.int.inj (of_decide_eq_true c1)
        omega
      refine ⟨_, rfl, _, rfl, o, _, rfl, .inr (SqT.of (s1 _ _ ho)), rfl, flat_nats _, _, rfl, ?_⟩
      show if (!inV (V.int (m.2.2 : Int)) (natsV orb)) = true then _ else _
      rw [in_nats]
      refine ite2 (fun c2 => ?_) (fun c2 => ⟨s1, es, hes, ?_⟩)
      · have e2 : m.2.2 ∉ orb := fun h => by
          rw [decide_eq_true h] at c2
          cases c2
        refine ⟨_, rfl, _, rfl, by show 2 ≤ sizeLine; decide, fun T hT => ?_⟩
        have sT := same_upd (o := .tup [V.str ⟨#[m.2.1]⟩, .int (m.2.2 : Int)]) hT
        have tl := two.len
        refine ⟨es, sT _ _ hes, ?_, fun b' o' hb' => by rw [upd_ne (ne_of_none hb' hM)]; exact sT _ _ (s1 _ _ hb'), es ++ [.ref T], upd_same, ?_⟩
        · rw [tl, List.length_map]
          exact Nat.lt_of_le_of_lt mlen (by decide)
        · rw [tk, List.filter_append, List.filter_cons, if_pos (decide_eq_true ⟨e1, e2⟩), List.filter_nil, List.map_append]
          refine (two.mono fun v r hx => ?_).app (.cons ⟨T, rfl, ?_⟩ .nil)
          · obtain ⟨q1, e2, h⟩ := hx
            exact ⟨q1, e2, by rw [upd_ne fun e3 => by rw [e3, hes] at h; cases h]; exact sT _ _ h⟩
          · rw [upd_ne fun e3 => by rw [e3, hes] at hT; cases hT]
            exact upd_same
      · rw [no fun h => c2 (by rw [decide_eq_false h.2]; rfl)]
        exact two
    · rw [no fun h => c1 (by rw [h.1]; exact decide_eq_true rfl)]
      exact two
  · obtain ⟨s1, es, hes, two⟩ := h
    rw [h4.len, List.take_length] at two
    exact ⟨M, es, rfl, .inl ⟨SqL.of hes, fun t ht => q t _ (s1.trans (same_upd ht)) ⟨es, upd_same, two.mono fun v r hx => by
      obtain ⟨q1, e2, h⟩ := hx
      exact ⟨q1, e2, (same_upd ht) _ _ h⟩⟩⟩⟩
abbrev N__law_gates : List Str := ["system", "orbit", "state"]
theorem sc__law_gates : FnScope ["system", "orbit", "state"] ["system", "orbit"] (defScope s__law_gates) := ⟨rfl, rfl, rfl, by decide +kernel, rfl, by decide +kernel, by decide +kernel⟩
theorem ok_lgates {f : Addr} {fd : FuncData} (B : Bt K mg tL tM tV) (Dd : Df K mg "_law_gates" s__law_gates ["system", "orbit"] f fd) (G_law_exits : Cl P w K mg base 1 "_law_exits" ["system", "orbit", "state"] spExitsOf) : FnOk P w K mg base CX0 2 f fd ["system", "orbit"] spGatesOf := by
  refine Dd.F.ok sc__law_gates (fun vs H Q Ex h => ?_) (fun cdv A outer s H vs Q Ex hr h => ?_)
  · obtain ⟨p, o, S, orb, rfl, _⟩ := h
    rfl
  obtain ⟨p, o, S, orb, rfl, hS, hG, ho, hol, q⟩ := h
  refine ⟨_, (pss_one (ps_ret (pe_callTy (r := rTupOf K) call_tuple_ofK rfl B.b_tuple boot_tuple (pa_cons (pe_lc (own := [("state", 2)]) (g := gName 2) rfl sc__law_gates.nd (pi_tup (pv 1)) (blkOk_by (N := N__law_gates) (sc := defScope s__law_gates) (by decide +kernel)) (fun _ _ _ _ _ => pg_name (i := 2) sc__law_gates.nd rfl (Or.inl rfl)) (fun _ _ _ _ _ => pts_one (PW.pt (pw_or (pt_cmpR (r := rInB K) (op_in_seqB rfl) (pv 2) (pe_ix (r := rIxT K) ix_tup (pv 0) pe_int (fun _ _ => rfl)) rfl) (pw_or1 (pt_cmpR (r := rNeD K) (op_neD (u64 hr)) (pe_cl G_law_exits (hr.mono (by omega)) rfl (pa_cons (pv 0) (pa_cons (pv 1) (pa_cons (pv 2) pa_nil)))) (pe_tup pa_nil) (nomark _)))))) (fun _ _ _ _ _ => (pv 2))) pa_nil)))), ?_⟩
  refine ⟨_, rfl, o, rfl, ⟨_, SqT.of ho⟩, fun M hM => ?_⟩
  refine lc_tupR (K := K) (a := o) (xs := natsV orb) (ftR orb fun s => decide (s ∈ S.ac) || !(exitsL S orb s).isEmpty) rfl (ftR_len (by omega)) hM (SqT.of ho) (fun k x H' hx s1 fin fin0 => ?_) (fun H1 s1 hk1 => ?_)
  · obtain ⟨y, hy, rfl⟩ := natsV_getB hx
    obtain ⟨a, b, c, ts, h1, h2, h3, h4, h5⟩ := (hS.same s1).ex
    refine ⟨rfl, _, rfl, _, rfl, p, _, 2, _, rfl, rfl, SqT.of h1, at_of (j := 2) rfl rfl, c, _, rfl, .inr (SqT.of h5), rfl, flat_nats _, _, rfl, ?_⟩
    show if inV (V.int (y : Int)) (natsV S.ac) = true then _ else _
    rw [in_nats]
    refine ite2 (fun c1 => iteT ⟨_, rfl, fin _ _ (ftR_yes hy (by rw [c1]; rfl)) (Same.refl _)⟩) (fun c1 => ?_)
    refine ⟨_, rfl, _, rfl, _, rfl, p, o, S, orb, y, rfl, hS.same s1, hG, s1 _ _ ho, fun t H2 s2 hx => ?_⟩
    refine ⟨Nat.zero_le _, fun T hT => ?_⟩
    have uT := same_upd (o := .tup []) hT
    refine ⟨_, _, dp_exs (hx.same uT), dp_exs (xs := []) ⟨[], upd_same, .nil⟩, exDs_shaped (exits_le hG), exDs_shaped (fun x h => by (cases h)), _, rfl, ?_⟩
    rw [exT_eqv]
    have ee : (!decide (exitsL S orb y = [])) = !(exitsL S orb y).isEmpty := by
      cases exitsL S orb y <;> simp
    have s2 := s2.trans uT
    rw [ee]
    refine ite2 (fun c2 => ⟨_, rfl, fin _ _ (ftR_yes hy (by rw [c2, Bool.or_true])) s2⟩) (fun c2 => fin0 _ (ftR_no hy ?_) s2)
    rw [eq_false_of_ne_true c1, eq_false_of_ne_true c2]
    exact Bool.false_ne_true
  rw [ftR_all] at hk1
  exact ⟨M, _, rfl, .inl ⟨SqL.of hk1, fun t ht => q t _ (s1.trans (same_upd ht)) upd_same⟩⟩
abbrev N__law_alike : List Str := ["system", "orbit", "one", "other"]
theorem sc__law_alike : FnScope ["system", "orbit", "one", "other"] ["system", "orbit", "one", "other"] (defScope s__law_alike) := ⟨rfl, rfl, rfl, by decide +kernel, rfl, by decide +kernel, by decide +kernel⟩
theorem ok_lalike {f : Addr} {fd : FuncData} (B : Bt K mg tL tM tV) (Dd : Df K mg "_law_alike" s__law_alike ["system", "orbit", "one", "other"] f fd) (G_law_exits : Cl P w K mg base 1 "_law_exits" ["system", "orbit", "state"] spExitsOf) : FnOk P w K mg base CX0 2 f fd ["system", "orbit", "one", "other"] spAlike := by
  refine Dd.F.ok sc__law_alike (fun vs H Q Ex h => ?_) (fun cdv A outer s H vs Q Ex hr h => ?_)
  · obtain ⟨p, o, S, orb, x, y, rfl, _⟩ := h
    rfl
  obtain ⟨p, o, S, orb, x, y, rfl, hS, hG, ho, q⟩ := h
  refine ⟨_, (pss_one (ps_ret (pe_and (pe_cmpR op_eq (pe_cmpR (r := rInB K) (op_in_seqB rfl) (pv 2) (pe_ix (r := rIxT K) ix_tup (pv 0) pe_int (fun _ _ => rfl)) rfl) (pe_cmpR (r := rInB K) (op_in_seqB rfl) (pv 3) (pe_ix (r := rIxT K) ix_tup (pv 0) pe_int (fun _ _ => rfl)) rfl) (nomark _)) (pe_one (pe_cmpR (op_eqD (u64 hr)) (pe_cl G_law_exits (hr.mono (by omega)) rfl (pa_cons (pv 0) (pa_cons (pv 1) (pa_cons (pv 2) pa_nil)))) (pe_cl G_law_exits (hr.mono (by omega)) rfl (pa_cons (pv 0) (pa_cons (pv 1) (pa_cons (pv 3) pa_nil)))) (nomark _)))))), ?_⟩
  obtain ⟨a, b, c, ts, h1, h2, h3, h4, h5⟩ := hS.ex
  refine ⟨_, rfl, _, rfl, p, _, 2, _, rfl, rfl, SqT.of h1, at_of (j := 2) rfl rfl, c, _, rfl, .inr (SqT.of h5), rfl, flat_nats _, ?_⟩
  refine ⟨_, rfl, _, rfl, p, _, 2, _, rfl, rfl, SqT.of h1, at_of (j := 2) rfl rfl, c, _, rfl, .inr (SqT.of h5), rfl, flat_nats _, ?_⟩
  have e0 : decide (V.bl (if false = true then !inV (V.int (x : Int)) (natsV S.ac) else inV (V.int (x : Int)) (natsV S.ac)) = V.bl (if false = true then !inV (V.int (y : Int)) (natsV S.ac) else inV (V.int (y : Int)) (natsV S.ac))) = (decide (x ∈ S.ac) == decide (y ∈ S.ac)) := by
    rw [if_neg Bool.false_ne_true, if_neg Bool.false_ne_true, in_nats, in_nats, dec_bl]
  refine ⟨rfl, _, rfl, ?_⟩
  rw [e0]
  have ad : alikeB S orb x y = ((decide (x ∈ S.ac) == decide (y ∈ S.ac)) && decide (exitsL S orb x = exitsL S orb y)) := rfl
  cases c1 : (decide (x ∈ S.ac) == decide (y ∈ S.ac)) with
  | false =>
    have := q H (Same.refl _)
    rw [ad, c1, Bool.false_and] at this
    exact iteF this
  | true =>
    refine iteT ?_
    refine ⟨_, rfl, _, rfl, _, rfl, p, o, S, orb, x, rfl, hS, hG, ho, fun t1 H1 s1 x1 => ⟨_, rfl, _, rfl, _, rfl, p, o, S, orb, y, rfl, hS.same s1, hG, s1 _ _ ho, fun t2 H2 s2 x2 => ⟨_, _, dp_exs (x1.same s2), dp_exs x2, exDs_shaped (exits_le hG), exDs_shaped (exits_le hG), ?_⟩⟩⟩
    have := q H2 (s1.trans s2)
    rw [ad, c1, Bool.true_and] at this
    rw [exT_eqv]
    exact this
end
end My
namespace My
open PySem PySem.Spec PyProof.Rows L2
def oV : Option Nat → V
  | none => .non
  | some n => .int (n : Int)
def firstL (S : Sy) (s c : Nat) : List Mv := S.mv.filter fun m => decide (m.1 = s) && decide (m.2.1 = c)
def firstEnd (S : Sy) (s c : Nat) : Option Nat := ((firstL S s c).map (·.2.2)).head?
theorem first_of {S : Sy} (G : Good S) {m : Mv} (hm : m ∈ S.mv) : firstEnd S m.1 m.2.1 = some m.2.2 := by
  have hmm : m ∈ firstL S m.1 m.2.1 := List.mem_filter.mpr ⟨hm, by rw [decide_eq_true rfl, decide_eq_true rfl]; rfl⟩
  unfold firstEnd
  cases h : firstL S m.1 m.2.1 with
  | nil => rw [h] at hmm; cases hmm
  | cons n l =>
    have hn : n ∈ firstL S m.1 m.2.1 := by rw [h]; exact List.mem_cons_self ..
    obtain ⟨n1, n2⟩ := List.mem_filter.mp hn
    rw [Bool.and_eq_true] at n2
    rw [mv_uniq G hm n1 (of_decide_eq_true n2.1).symm (of_decide_eq_true n2.2).symm]
    rfl
theorem first_some {S : Sy} {s c e : Nat} (h : firstEnd S s c = some e) : ∃ m ∈ S.mv, m.1 = s ∧ m.2.1 = c := by
  unfold firstEnd at h
  cases k : firstL S s c with
  | nil => rw [k] at h; cases h
  | cons n l =>
    have hn : n ∈ firstL S s c := by rw [k]; exact List.mem_cons_self ..
    obtain ⟨n1, n2⟩ := List.mem_filter.mp hn
    rw [Bool.and_eq_true] at n2
    exact ⟨n, n1, of_decide_eq_true n2.1, of_decide_eq_true n2.2⟩
theorem starts_eq {S : Sy} (G : Good S) (c : Nat) : (selM S c).map (·.1) = S.ac.filter fun s => (firstEnd S s c).isSome := by
  refine rise_ext _ _ ?_ (G.arise.sublist List.filter_sublist) fun x => ?_
  · rw [List.pairwise_map]
    have h1 : (selM S c).Pairwise (fun m n => m.1 < n.1 ∨ (m.1 = n.1 ∧ m.2.1 < n.2.1)) := G.mrise.sublist List.filter_sublist
    refine h1.imp_of_mem fun {m n} hm hn h => ?_
    have a := (List.mem_filter.mp hm).2
    have b := (List.mem_filter.mp hn).2
    rw [Bool.and_eq_true] at a b
    have a1 := of_decide_eq_true a.1
    have b1 := of_decide_eq_true b.1
    omega
  · constructor
    · intro h
      obtain ⟨m, hm, rfl⟩ := List.mem_map.mp h
      obtain ⟨h1, h2⟩ := List.mem_filter.mp hm
      rw [Bool.and_eq_true] at h2
      refine List.mem_filter.mpr ⟨of_decide_eq_true h2.2, ?_⟩
      have := first_of G h1
      rw [of_decide_eq_true h2.1] at this
      rw [this]
      rfl
    · intro h
      obtain ⟨h1, h2⟩ := List.mem_filter.mp h
      obtain ⟨e, he⟩ := Option.isSome_iff_exists.mp h2
      obtain ⟨m, hm, rfl, e2⟩ := first_some he
      exact List.mem_map.mpr ⟨m, List.mem_filter.mpr ⟨hm, by rw [decide_eq_true e2, decide_eq_true h1]; rfl⟩, rfl⟩
theorem endsC_len {S : Sy} (G : Good S) (c : Nat) : (endsC S c).length = S.ac.length ↔ ∀ s ∈ S.ac, (firstEnd S s c).isSome = true := by
  have : (endsC S c).length = (S.ac.filter fun s => (firstEnd S s c).isSome).length := by
    rw [← starts_eq G]
    unfold endsC
    rw [List.length_map, List.length_map]
  rw [this, List.length_filter_eq_length_iff]
theorem endsC_eq {S : Sy} (G : Good S) (c : Nat) (h : ∀ s ∈ S.ac, (firstEnd S s c).isSome = true) : (S.ac.map fun s => oV (firstEnd S s c)) = natsV (endsC S c) := by
  have e1 : S.ac = (selM S c).map (·.1) := by
    rw [starts_eq G, List.filter_eq_self.mpr h]
  have e2 : (S.ac.map fun s => oV (firstEnd S s c)) = ((selM S c).map (·.1)).map fun s => oV (firstEnd S s c) := congrArg (List.map fun s => oV (firstEnd S s c)) e1
  rw [e2, List.map_map]
  unfold natsV endsC
  rw [List.map_map]
  refine List.map_congr_left fun m hm => ?_
  obtain ⟨h1, h2⟩ := List.mem_filter.mp hm
  rw [Bool.and_eq_true] at h2
  show oV (firstEnd S m.1 c) = V.int (m.2.2 : Int)
  have := first_of G h1
  rw [of_decide_eq_true h2.1] at this
  rw [this]
  rfl
theorem none_in {S : Sy} {c : Nat} : inV .non (S.ac.map fun s => oV (firstEnd S s c)) = !(S.ac.all fun s => (firstEnd S s c).isSome) := by
  unfold inV
  rw [List.any_map, List.not_all_eq_any_not]
  congr 1
  funext s
  show eqV (oV (firstEnd S s c)) .non = !(firstEnd S s c).isSome
  cases firstEnd S s c <;> rfl
theorem flat_oV {S : Sy} {c : Nat} : (S.ac.map fun s => oV (firstEnd S s c)).all flatV = true := by
  rw [List.all_eq_true]
  intro v hv
  obtain ⟨s, _, rfl⟩ := List.mem_map.mp hv
  cases firstEnd S s c <;> rfl
theorem cut_one (xs : List Nat) : cutV (natsV xs ++ [.non]) none (some 1) = [oV xs.head?] := by
  unfold cutV
  have e : HT.sIx (natsV xs ++ [V.non]).length (natsV xs ++ [V.non]).length (some 1) = 1 := by
    show min (1 : Int).toNat _ = 1
    rw [List.length_append, List.length_singleton]
    show min 1 _ = 1
    omega
  rw [e, HT.sIx_none, Nat.sub_zero, List.drop_zero]
  cases xs <;> rfl
section
variable {P : Program} {w : World} {K : PySem.W.Frag} {mg : Str → Option Value} {base : Heap} {tL tM tV : Tok}
abbrev N__law_consistent : List Str := ["system", "found", "letter", "ends", "state", "start", "label", "end"]
theorem sc__law_consistent : FnScope ["system", "found", "letter", "ends", "state", "start", "label", "end"] ["system"] (defScope s__law_consistent) := ⟨rfl, rfl, rfl, by decide +kernel, rfl, by decide +kernel, by decide +kernel⟩
set_option maxHeartbeats 2000000 in
theorem ok_lawcons {f : Addr} {fd : FuncData} (B : Bt K mg tL tM tV) (Dd : Df K mg "_law_consistent" s__law_consistent ["system"] f fd) : FnOk P w K mg base CX0 1 f fd ["system"] spConsOf := by
  refine Dd.F.ok sc__law_consistent (fun vs H Q Ex h => ?_) (fun cdv A outer s H vs Q Ex hr h => ?_)
  · obtain ⟨p, S, rfl, _⟩ := h
    rfl
  obtain ⟨p, S, rfl, hS, hG, q⟩ := h
  refine ⟨_, (pss_cons (ps_set (i := 1) sc__law_consistent.nd rfl (Or.inl rfl) (pe_lst pa_nil))
    (pss_cons (ps_for PassesOwn.never rfl (pi_str pe_str) (pg_name (i := 2) sc__law_consistent.nd rfl (Or.inr rfl)) (pss_cons (ps_set (i := 3) sc__law_consistent.nd rfl (Or.inl rfl) (pe_lst pa_nil))
    (pss_cons (ps_for PassesOwn.never rfl (pi_tup (pe_ix (r := rIxT K) ix_tup (pv 0) pe_int (fun _ _ => rfl))) (pg_name (i := 4) sc__law_consistent.nd rfl (Or.inr rfl)) (pss_one (ps_set (i := 3) sc__law_consistent.nd rfl (Or.inl rfl) (pe_op op_cat (pv 3) (pe_slice sl_list (pe_op op_cat (pe_lc (own := [("start", 5), ("label", 6), ("end", 7)]) (g := gTup K 3 (gCons (gName 5) (gCons (gName 6) (gCons (gName 7) gNil)))) rfl sc__law_consistent.nd (pi_tup (pe_ix (r := rIxT K) ix_tup (pv 0) pe_int (fun _ _ => rfl))) (blkOk_by (N := N__law_consistent) (sc := defScope s__law_consistent) (by decide +kernel)) (fun _ _ _ _ _ => pg_tup rfl (pgs_cons (pg_name (i := 5) sc__law_consistent.nd rfl (Or.inl rfl)) (pgs_cons (pg_name (i := 6) sc__law_consistent.nd rfl (Or.inl rfl)) (pgs_cons (pg_name (i := 7) sc__law_consistent.nd rfl (Or.inl rfl)) pgs_nil)))) (fun _ _ _ _ _ => pts_one (PW.pt (pw_and (pt_cmpR op_eq (pv 5) (pv 4) (nomark _)) (pw_and1 (pt_cmpR op_eq (pv 6) (pv 2) (nomark _)))))) (fun _ _ _ _ _ => (pv 7))) (pe_lst (pa_cons pe_non pa_nil))) po_none (po_some pe_int))))))
    (pss_one (ps_if (PW.pt (pw_and (pt_truth (pv 3) (by intro _; rfl)) (pw_and (pt_cmpR (r := rNotInB K) (op_notin_seqB rfl) pe_non (pv 3) rfl) (pw_and1 (pt_cmpR op_eq (pe_callB (cr_max rfl) rfl B.b_max boot_max (pa_cons (pv 3) pa_nil)) (pe_callB (cr_min rfl) rfl B.b_min boot_min (pa_cons (pv 3) pa_nil)) (nomark _)))))) (pss_one (ps_expr (pe_bm PySem.F.plainAttrs_list PySem.F.slot_list_append PySem.F.type_list_append mt_append (pv 1) (pa_cons (pe_tup (pa_cons (pv 2) (pa_cons (pe_ix (r := rIxL K) ix_list (pv 3) pe_int (fun _ _ => rfl)) pa_nil))) pa_nil)))) pss_nil)))))
    (pss_one (ps_ret (pe_callTy (r := rTupOf K) call_tuple_ofK rfl B.b_tuple boot_tuple (pa_cons (pv 1) pa_nil)))))), ?_⟩
  obtain ⟨a, b, c, ts, h1, h2, h3, h4, h5⟩ := hS.ex
  refine ⟨by show 0 ≤ sizeLine; decide, fun L hL => ?_⟩
  have u1 := same_upd (o := .lst []) hL
  have al := hG.alen
  have ml := hG.ml
  refine ⟨"abcd", rfl, for_strB (z := "abcd") (fun i σ' H' => ∃ (es : List V) (o2 o3 o4 o5 o6 o7 : Option V), σ' = [some (.ref p), some (.ref L), o2, o3, o4, o5, o6, o7] ∧ Same H H' ∧ H' L = some (.lst es) ∧ Two (ExitAt H') es (consTo S i)) ?_ ?_ ?_⟩
  · exact ⟨[], none, none, none, none, none, none, rfl, u1, upd_same, .nil⟩
  · rintro i cc σ' H1 hc ⟨es, o2, o3, o4, o5, o6, o7, rfl, s1, hes, two⟩
    obtain rfl := abcdZ.2 i cc hc
    have hi4 : i < 4 := by
      have := (Array.getElem?_eq_some_iff.mp hc).1
      rw [abcdN] at this
      exact this
    have elen : es.length ≤ 4 := by
      have := consTo_len S i
      rw [two.len]
      omega
    refine ⟨by show 0 ≤ sizeLine; decide, fun E hE => ?_⟩
    have uE := same_upd (o := .lst []) hE
    refine ⟨_, rfl, p, _, 2, _, rfl, rfl, SqT.of (uE _ _ (s1 _ _ h1)), at_of (j := 2) rfl rfl, c, rfl, ⟨_, SqT.of (uE _ _ (s1 _ _ h5))⟩, for_tup (K := K) (a := c) (xs := natsV S.ac) (fun k σ' H' => ∃ (F : Addr) (o4 o5 o6 o7 : Option V), σ' = [some (.ref p), some (.ref L), some (.str ⟨#[97 + i]⟩), some (.ref F), o4, o5, o6, o7] ∧ Same H1 H' ∧ H' F = some (.lst ((S.ac.take k).map fun s => oV (firstEnd S s (97 + i))))) ?_ ?_ ?_ ?_⟩
    · exact ⟨E, o4, o5, o6, o7, rfl, uE, upd_same⟩
    · rintro k σ' H' _ ⟨F, o4, o5, o6, o7, rfl, s2, _⟩
      exact SqT.of (s2 _ _ (s1 _ _ h5))
    · rintro k v σ' H2 hv ⟨F, o4, o5, o6, o7, rfl, s2, hF⟩
      obtain ⟨y, hy, rfl⟩ := natsV_getB hv
      have s12 := s1.trans s2
      refine ⟨_, rfl, _, rfl, p, _, 1, _, rfl, rfl, SqT.of (s12 _ _ h1), at_one, b, rfl, ⟨_, SqT.of (s12 _ _ h3)⟩, fun M hM => ?_⟩
      refine lc_tupR (K := K) (a := b) (xs := ts) (fun j => natsV (((S.mv.take j).filter fun m => decide (m.1 = y) && decide (m.2.1 = 97 + i)).map (·.2.2))) rfl (fun j => ?_) hM (SqT.of (s12 _ _ h3)) (fun j x H' hx s3 fin fin0 => ?_) (fun H3 s3 hM3 => ?_)
      · rw [natsV_len, List.length_map]
        refine Nat.le_trans (List.length_filter_le _ _) ?_
        rw [List.length_take]
        omega
      · obtain ⟨m, hm, hmv⟩ := h4.get hx
        obtain ⟨t, rfl, ht⟩ := hmv.same (s12.trans s3)
        have tk := take_snoc hm
        have no : ¬ (decide (m.1 = y) && decide (m.2.1 = 97 + i)) = true → natsV (((S.mv.take (j + 1)).filter fun m => decide (m.1 = y) && decide (m.2.1 = 97 + i)).map (·.2.2)) = natsV (((S.mv.take j).filter fun m => decide (m.1 = y) && decide (m.2.1 = 97 + i)).map (·.2.2)) := fun n => by
          rw [tk, List.filter_append, List.filter_cons, if_neg n, List.filter_nil, List.append_nil]
        have ei : decide (V.int (m.1 : Int) = V.int (y : Int)) = decide (m.1 = y) := decide_eq_decide.mpr ⟨fun h => by have := V.int.inj h; omega, fun h => by rw [h]⟩
        refine ⟨t, _, rfl, SqT.of ht, rfl, _, _, rfl, _, _, rfl, _, _, rfl, rfl, rfl, _, rfl, _, rfl, rfl, _, rfl, ?_⟩
        rw [ei]
        refine ite2 (fun c1 => ?_) (fun c1 => iteF (fin0 _ (no fun h => c1 (by rw [Bool.and_eq_true] at h; exact h.1)) (Same.refl _)))
        refine ⟨_, rfl, _, rfl, rfl, _, rfl, ?_⟩
        rw [str1_eq]
        refine ite2 (fun c2 => ⟨_, rfl, fin _ _ ?_ (Same.refl _)⟩) (fun c2 => fin0 _ (no fun h => c2 (by rw [Bool.and_eq_true] at h; exact h.2)) (Same.refl _))
        show natsV _ = natsV _ ++ [V.int (m.2.2 : Int)]
        rw [tk, List.filter_append, List.filter_cons, if_pos (by rw [c1, c2]; rfl), List.filter_nil, List.map_append, natsV_snoc]
        rfl
      · rw [h4.len, List.take_length] at hM3
        have fl : (firstL S y (97 + i)).length ≤ 1000 := Nat.le_trans (List.length_filter_le _ _) ml
        have hM4 : H3 M = some (.lst (natsV ((firstL S y (97 + i)).map (·.2.2)))) := hM3
        refine ⟨by show 1 ≤ sizeLine; decide, fun N hN => ?_⟩
        have uN := same_upd (o := .lst [V.non]) hN
        refine ⟨M, N, _, _, rfl, rfl, uN _ _ hM4, upd_same, ?_, fun Z hZ => ?_⟩
        · rw [natsV_len, List.length_map]
          exact Nat.le_trans (m := 1001) (Nat.succ_le_succ fl) (by decide)
        have uZ := same_upd (o := .lst (natsV ((firstL S y (97 + i)).map (·.2.2)) ++ [V.non])) hZ
        refine ⟨_, rfl, Z, _, rfl, SqL.of upd_same, fun W hW => ?_⟩
        rw [cut_one]
        have uW := same_upd (o := .lst [oV ((firstL S y (97 + i)).map (·.2.2)).head?]) hW
        have U := s3.trans (uN.trans (uZ.trans uW))
        refine ⟨F, W, _, _, rfl, rfl, U _ _ hF, upd_same, ?_, fun X hX => ?_⟩
        · rw [List.length_map, List.length_take]
          exact Nat.le_trans (m := 41) (by show _ + 1 ≤ 41; omega) (by decide)
        have uX := same_upd (o := .lst ((S.ac.take k).map (fun s => oV (firstEnd S s (97 + i))) ++ [oV ((firstL S y (97 + i)).map (·.2.2)).head?])) hX
        refine ⟨X, _, _, _, _, rfl, s2.trans (U.trans uX), ?_⟩
        rw [upd_same, take_snoc hy, List.map_append]
        rfl
    · rintro σ' H2 ⟨F, o4, o5, o6, o7, rfl, s2, hF⟩
      rw [natsV_len, List.take_length] at hF
      have s12 := s1.trans s2
      have hes2 := s2 _ _ hes
      have two2 := two.mono fun v x (h : ExitAt H1 v x) => (show ExitAt H2 v x from by obtain ⟨t, e, h⟩ := h; exact ⟨t, e, s2 _ _ h⟩)
      have nxt : okC S (97 + i) ≠ true → Two (ExitAt H2) es (consTo S (i + 1)) := fun n => by
        rw [consTo_no n]
        exact two2
      have okdef : okC S (97 + i) = (decide ((endsC S (97 + i)).length = S.ac.length) && (!(endsC S (97 + i)).isEmpty && same1 (endsC S (97 + i)))) := rfl
      have elen := endsC_len hG (97 + i)
      refine ⟨_, rfl, _, .inl ⟨_, SqL.of hF, rfl⟩, ite2 (fun c1 => ?_) (fun c1 => ?_)⟩
      · have acp : 0 < S.ac.length := by
          cases h : S.ac with
          | nil => rw [h] at c1; cases c1
          | cons x l => exact Nat.succ_pos _
        refine ⟨_, rfl, F, _, rfl, .inl (SqL.of hF), rfl, flat_oV, _, rfl, ?_⟩
        show if (!inV .non (S.ac.map fun s => oV (firstEnd S s (97 + i)))) = true then _ else _
        rw [none_in, Bool.not_not]
        refine ite2 (fun c2 => ?_) (fun c2 => ?_)
        · have all := List.all_eq_true.mp c2
          have e1 := elen.mpr all
          rw [endsC_eq hG _ all] at hF
          have pos : 0 < (endsC S (97 + i)).length := by rw [e1]; exact acp
          have hne : (endsC S (97 + i)).isEmpty = false := by
            cases h : endsC S (97 + i) with
            | nil => rw [h] at pos; exact absurd pos (Nat.lt_irrefl _)
            | cons x l => rfl
          have hM4 : SqL K H2 F (((endsC S (97 + i)).map fun (n : Nat) => (n : Int)).map V.int) := by
            rw [← natsV_ints]
            exact SqL.of hF
          refine ⟨_, rfl, F, _, rfl, hM4, by rw [List.length_map]; exact pos, fun m m1 m2 => ?_⟩
          refine ⟨_, rfl, F, _, rfl, hM4, by rw [List.length_map]; exact pos, fun m' m3 m4 => ⟨rfl, _, rfl, ?_⟩⟩
          have e3 : decide (V.int m = V.int m') = same1 (endsC S (97 + i)) := by
            rw [← same1_of m3 m4 m1 m2]
            exact decide_eq_decide.mpr ⟨fun h => (V.int.inj h).symm, fun h => by rw [h]⟩
          rw [e3]
          refine ite2 (fun c3 => ?_) (fun c3 => ?_)
          · have ok : okC S (97 + i) = true := by rw [okdef, decide_eq_true e1, hne, c3]; rfl
            obtain ⟨y, hy⟩ : ∃ y, (endsC S (97 + i))[0]? = some y := ⟨_, List.getElem?_eq_getElem pos⟩
            have hd : (endsC S (97 + i)).headD 0 = y := by
              cases h : endsC S (97 + i) with
              | nil => rw [h] at hy; cases hy
              | cons x l => rw [h] at hy; exact Option.some.inj hy
            refine ⟨_, rfl, .inl ⟨rfl, _, SqL.of hes2⟩, _, rfl, _, rfl, F, _, 0, _, rfl, rfl, SqL.of hF, at_of (j := 0) rfl (natsV_getN hy), by show 2 ≤ sizeLine; decide, fun T hT => ?_⟩
            have u2 := same_upd (o := .tup [V.str ⟨#[97 + i]⟩, .int (y : Int)]) hT
            have TL : T ≠ L := fun e => by rw [e, hes2] at hT; cases hT
            refine ⟨L, es, _, rfl, rfl, u2 _ _ hes2, Nat.lt_of_le_of_lt (m := 4) (by omega) (by decide), es ++ [.ref T], _, _, _, _, _, _, rfl, fun b' o' hb' => by rw [upd_ne (ne_of_none hb' hL)]; exact u2 _ _ (s12 _ _ hb'), upd_same, ?_⟩
            rw [consTo_yes ok, hd]
            refine (two2.mono fun v x h => ?_).app (.cons ⟨T, rfl, ?_⟩ .nil)
            · obtain ⟨t, e, h⟩ := h
              exact ⟨t, e, by rw [upd_ne fun e => by rw [e, hes2] at h; cases h]; exact u2 _ _ h⟩
            · rw [upd_ne TL]
              exact upd_same
          · exact ⟨es, _, _, _, _, _, _, rfl, s12, hes2, nxt fun h => c3 (by rw [okdef, decide_eq_true e1, hne, Bool.true_and] at h; exact h)⟩
        · exact ⟨es, _, _, _, _, _, _, rfl, s12, hes2, nxt fun h => c2 (by
            rw [okdef, Bool.and_eq_true] at h
            exact List.all_eq_true.mpr (elen.mp (of_decide_eq_true h.1)))⟩
      · exact ⟨es, _, _, _, _, _, _, rfl, s12, hes2, nxt fun h => c1 (by
          rw [okdef, Bool.and_eq_true, Bool.and_eq_true] at h
          have h1 := of_decide_eq_true h.1
          cases k : S.ac with
          | nil =>
            rw [k] at h1
            have : endsC S (97 + i) = [] := List.length_eq_zero_iff.mp h1
            rw [this] at h
            exact absurd h.2.1 (by simp)
          | cons x l => rfl)⟩
  · rintro σ' H1 ⟨es, o2, o3, o4, o5, o6, o7, rfl, s1, hes, two⟩
    rw [abcdN] at two
    exact ⟨_, rfl, L, _, rfl, .inl ⟨SqL.of hes, fun t ht => q t _ (s1.trans (same_upd ht)) ⟨es, upd_same, two.mono fun v x h => by
      obtain ⟨q1, e, h⟩ := h
      exact ⟨q1, e, same_upd ht _ _ h⟩⟩⟩⟩
abbrev N__law_cut : List Str := ["system", "states", "moves", "accepting", "letters", "letter", "end", "move"]
theorem sc__law_cut : FnScope ["system", "states", "moves", "accepting", "letters", "letter", "end", "move"] ["system"] (defScope s__law_cut) := ⟨rfl, rfl, rfl, by decide +kernel, rfl, by decide +kernel, by decide +kernel⟩
set_option maxHeartbeats 1000000 in
theorem ok_lawcut {f : Addr} {fd : FuncData} (B : Bt K mg tL tM tV) (Dd : Df K mg "_law_cut" s__law_cut ["system"] f fd) (G_law_consistent : Cl P w K mg base 1 "_law_consistent" ["system"] spConsOf) : FnOk P w K mg base CX0 2 f fd ["system"] spCutOf := by
  refine Dd.F.ok sc__law_cut (fun vs H Q Ex h => ?_) (fun cdv A outer s H vs Q Ex hr h => ?_)
  · obtain ⟨p, S, rfl, _⟩ := h
    rfl
  obtain ⟨p, S, rfl, hS, hG, q⟩ := h
  refine ⟨_, (pss_cons (ps_asg (pv 0) (pg_tup rfl (pgs_cons (pg_name (i := 1) sc__law_cut.nd rfl (Or.inl rfl)) (pgs_cons (pg_name (i := 2) sc__law_cut.nd rfl (Or.inl rfl)) (pgs_cons (pg_name (i := 3) sc__law_cut.nd rfl (Or.inr rfl)) pgs_nil)))))
    (pss_cons (ps_set (i := 4) sc__law_cut.nd rfl (Or.inr rfl) (pe_lc (own := [("letter", 5), ("end", 6)]) (g := gTup K 2 (gCons (gName 5) (gCons (gName 6) gNil))) (tt := tYes) rfl sc__law_cut.nd (pi_tup (pe_cl G_law_consistent (hr.mono (by omega)) rfl (pa_cons (pv 0) pa_nil))) (blkOk_by (N := N__law_cut) (sc := defScope s__law_cut) (by decide +kernel)) (fun _ _ _ _ _ => pg_tup rfl (pgs_cons (pg_name (i := 5) sc__law_cut.nd rfl (Or.inl rfl)) (pgs_cons (pg_name (i := 6) sc__law_cut.nd rfl (Or.inl rfl)) pgs_nil))) (fun _ _ _ _ _ => pts_nil) (fun _ _ _ _ _ => (pv 5))))
    (pss_one (ps_ret (pe_tup (pa_cons (pv 1) (pa_cons (pe_callTy (r := rTupOf K) call_tuple_ofK rfl B.b_tuple boot_tuple (pa_cons (pe_lc (own := [("move", 7)]) (g := gName 7) rfl sc__law_cut.nd (pi_tup (pv 2)) (blkOk_by (N := N__law_cut) (sc := defScope s__law_cut) (by decide +kernel)) (fun _ _ _ _ _ => pg_name (i := 7) sc__law_cut.nd rfl (Or.inl rfl)) (fun _ _ _ _ _ => pts_one (PW.pt (pw_or (pt_cmpR (r := rNotInB K) (op_notin_seqB rfl) (pe_ix (r := rIxT K) ix_tup (pv 7) pe_int (fun _ _ => rfl)) (pv 3) rfl) (pw_or1 (pt_cmpR (r := rNotInB K) (op_notin_seqB rfl) (pe_ix (r := rIxT K) ix_tup (pv 7) pe_int (fun _ _ => rfl)) (pv 4) rfl))))) (fun _ _ _ _ _ => (pv 7))) pa_nil)) (pa_cons (pv 3) pa_nil)))))))), ?_⟩
  obtain ⟨a, b, c, ts, h1, h2, h3, h4, h5⟩ := hS.ex
  refine ⟨_, rfl, p, _, rfl, SqT.of h1, rfl, _, _, rfl, _, _, rfl, _, _, rfl, rfl, ?_⟩
  refine ⟨_, rfl, p, S, rfl, hS, hG, fun t H1 s1 hx => ?_⟩
  obtain ⟨es, he, two⟩ := hx
  refine ⟨t, rfl, ⟨_, SqT.of he⟩, fun L hL => ?_⟩
  have al := hG.alen
  have ml := hG.ml
  refine lc_tupR (K := K) (a := t) (xs := es) (fun j => (((consL S).map (·.1)).take j).map fun c => V.str ⟨#[c]⟩) rfl (fun j => ?_) hL (SqT.of he) (fun j x H' hx s2 fin fin0 => ?_) (fun H2 s2 hL2 => ?_)
  · have : (consL S).length ≤ 4 := consTo_len S 4
    rw [List.length_map, List.length_take, List.length_map]
    omega
  · obtain ⟨m, hm, hmv⟩ := two.get hx
    obtain ⟨q1, rfl, ht⟩ := hmv
    have tk := take_snoc (l := (consL S).map (·.1)) (i := j) (x := m.1) (by rw [List.getElem?_map, hm]; rfl)
    refine ⟨q1, _, rfl, SqT.of (s2 _ _ ht), rfl, _, _, rfl, _, _, rfl, rfl, rfl, tyes ⟨_, rfl, fin _ _ ?_ (Same.refl _)⟩⟩
    rw [tk, List.map_append]
    rfl
  have hL3 : H2 L = some (.lst (((consL S).map (·.1)).map fun c => V.str ⟨#[c]⟩)) := by
    rw [hL2, two.len, show (consL S).length = ((consL S).map (·.1)).length by rw [List.length_map], List.take_length]
  have s12 := s1.trans s2
  have inL : ∀ c : Nat, inV (V.str ⟨#[c]⟩) (((consL S).map (·.1)).map fun c => V.str ⟨#[c]⟩) = decide (c ∈ (consL S).map (·.1)) := fun c => by
    unfold inV
    rw [Bool.eq_iff_iff, decide_eq_true_eq, List.any_eq_true]
    constructor
    · rintro ⟨v, hv, h⟩
      obtain ⟨d, hd, rfl⟩ := List.mem_map.mp hv
      have e : d = c := (List.cons.inj (congrArg (fun s : Str => s.cps.toList) (beq_iff_eq.mp h))).1
      rw [← e]
      exact hd
    · exact fun h => ⟨_, List.mem_map_of_mem h, beq_iff_eq.mpr rfl⟩
  have flL : (((consL S).map (·.1)).map fun c => V.str ⟨#[c]⟩).all flatV = true := by
    rw [List.all_eq_true]
    intro v hv
    obtain ⟨d, _, rfl⟩ := List.mem_map.mp hv
    rfl
  refine ⟨_, rfl, _, rfl, b, rfl, ⟨_, SqT.of (s12 _ _ h3)⟩, fun M hM => ?_⟩
  have ML : M ≠ L := fun e => by rw [e, hL3] at hM; cases hM
  refine lc_tup (K := K) (a := b) (xs := ts) (fun j H' => Same H2 H' ∧ ∃ ws : List V, H' M = some (.lst ws) ∧ Two (MoveAt H') ws ((S.mv.take j).filter fun m => decide (m.1 ∉ S.ac) || decide (m.2.1 ∉ (consL S).map (·.1)))) ⟨same_upd hM, [], upd_same, .nil⟩ (fun i H' _ h => SqT.of (h.1 _ _ (s12 _ _ h3))) (fun j x H' hx h => ?_) (fun H' h => ?_)
  · obtain ⟨s3, ws, hws, two2⟩ := h
    obtain ⟨m, hm, hmv⟩ := h4.get hx
    obtain ⟨q1, rfl, ht⟩ := hmv.same (s12.trans s3)
    have tk := take_snoc hm
    have wl : ws.length ≤ 1000 := by
      rw [two2.len]
      exact Nat.le_trans (List.length_filter_le _ _) (by rw [List.length_take]; omega)
    have yes : (decide (m.1 ∉ S.ac) || decide (m.2.1 ∉ (consL S).map (·.1))) = true → ∃ acc, H' M = some (.lst acc) ∧ acc.length < sizeLine ∧ Same H2 (upd H' M (.lst (acc ++ [V.ref q1]))) ∧ ∃ ws : List V, (upd H' M (.lst (acc ++ [V.ref q1]))) M = some (.lst ws) ∧ Two (MoveAt (upd H' M (.lst (acc ++ [V.ref q1])))) ws ((S.mv.take (j + 1)).filter fun m => decide (m.1 ∉ S.ac) || decide (m.2.1 ∉ (consL S).map (·.1))) := fun e => by
      refine ⟨ws, hws, Nat.lt_of_le_of_lt wl (by decide), fun b' o' hb' => by rw [upd_ne (ne_of_none hb' hM)]; exact s3 _ _ hb', _, upd_same, ?_⟩
      rw [tk, List.filter_append, List.filter_cons, if_pos e, List.filter_nil]
      have up : ∀ v m, MoveAt H' v m → MoveAt (upd H' M (.lst (ws ++ [V.ref q1]))) v m := fun v m h => by
        obtain ⟨t, e, h⟩ := h
        exact ⟨t, e, by rw [upd_ne fun e => by rw [e, hws] at h; cases h]; exact h⟩
      exact (two2.mono up).app (.cons (up _ _ ⟨q1, rfl, ht⟩) .nil)
    refine ⟨rfl, _, rfl, q1, _, 0, _, rfl, rfl, SqT.of ht, at_zero, _, rfl, c, _, rfl, .inr (SqT.of (s3 _ _ (s12 _ _ h5))), rfl, flat_nats _, _, rfl, ?_⟩
    show if (!inV (V.int (m.1 : Int)) (natsV S.ac)) = true then _ else _
    rw [in_nats]
    refine ite2 (fun c1 => ?_) (fun c1 => ?_)
    · have n1 : m.1 ∉ S.ac := fun h => by rw [decide_eq_true h] at c1; cases c1
      exact iteT ⟨_, rfl, yes (by rw [decide_eq_true n1, Bool.true_or])⟩
    · refine ⟨_, rfl, q1, _, 1, _, rfl, rfl, SqT.of ht, at_one, _, rfl, L, _, rfl, .inl (SqL.of (s3 _ _ hL3)), rfl, flL, _, rfl, ?_⟩
      show if (!inV (V.str ⟨#[m.2.1]⟩) (((consL S).map (·.1)).map fun c => V.str ⟨#[c]⟩)) = true then _ else _
      rw [inL]
      refine ite2 (fun c2 => ?_) (fun c2 => ?_)
      · have n2 : m.2.1 ∉ (consL S).map (·.1) := fun h => by rw [decide_eq_true h] at c2; cases c2
        exact ⟨_, rfl, yes (by rw [decide_eq_true n2, Bool.or_true])⟩
      · refine ⟨s3, ws, hws, ?_⟩
        rw [tk, List.filter_append, List.filter_cons, if_neg ?_, List.filter_nil, List.append_nil]
        · exact two2
        · intro h
          rcases Bool.or_eq_true _ _ ▸ h with h | h
          · exact c1 (by rw [decide_eq_false (of_decide_eq_true h)]; rfl)
          · exact c2 (by rw [decide_eq_false (of_decide_eq_true h)]; rfl)
  · obtain ⟨s3, ws, hws, two2⟩ := h
    rw [h4.len, List.take_length] at two2
    have s13 := s12.trans s3
    refine ⟨M, _, rfl, .inl ⟨SqL.of hws, fun t2 ht2 => ?_⟩⟩
    have u4 := same_upd (o := .tup ws) ht2
    refine ⟨_, rfl, by show 3 ≤ sizeLine; decide, fun r hr => ?_⟩
    have u5 := same_upd (o := .tup [.ref a, .ref t2, .ref c]) hr
    have U := s13.trans (u4.trans u5)
    exact q r _ U ⟨a, t2, c, ws, upd_same, U _ _ h2, u5 _ _ upd_same, (two2.mono fun v m (h : MoveAt H' v m) => h.same u4).mono fun v m (h : MoveAt _ v m) => h.same u5, U _ _ h5⟩
end
end My
namespace My
open PySem PySem.Spec PyProof.Rows L2
def spEqual (n : Nat) : Sp := fun vs H Q _ => ∃ (x y : V) (j : J) (k : Nat), vs = [x, y] ∧ k < n ∧ RepJ H x j k ∧ RepJ H y j k ∧ ∀ H', Same H H' → Q (.bl true) H'
section
variable {P : Program} {w : World} {K : PySem.W.Frag} {mg : Str → Option Value} {base : Heap} {tL tM tV : Tok}
theorem sum_cast (es : List E) (f : E → Nat) : (es.map fun k => ((f k : Nat) : Int)).sum = (((es.map f).sum : Nat) : Int) := by
  induction es with
  | nil => rfl
  | cons e es ih =>
    rw [List.map_cons, List.sum_cons, List.map_cons, List.sum_cons, ih]
    omega
/-! ### the law's own comparison, of equal data -/
def SeqV (K : PySem.W.Frag) (H : Hp) (p : Addr) (xs : List V) : Prop := SqL K H p xs ∨ SqT K H p xs
theorem SeqV.len {K : PySem.W.Frag} {H : Hp} {p : Addr} {xs : List V} (h : SeqV K H p xs) {n : Nat} (e : n = xs.length) : LenV K (.ref p) H n := by
  rcases h with h | h
  · exact .inl ⟨xs, h, e⟩
  · exact .inr ⟨xs, h, e⟩
theorem SeqV.ix {K : PySem.W.Frag} {H : Hp} {p : Addr} {xs : List V} (h : SeqV K H p xs) {i : Int} {v : V} {Q : VK} (hi : atI xs i = some v) (q : Q v H) : rIx K (.ref p) (.int i) H Q := by
  rcases h with h | h
  · exact .inl ⟨p, xs, i, v, rfl, rfl, h, hi, q⟩
  · exact .inr (.inl ⟨p, xs, i, v, rfl, rfl, h, hi, q⟩)
theorem SeqV.same {K : PySem.W.Frag} {H H' : Hp} {p : Addr} {xs : List V} (s : Same H H') (h : SeqV K H p xs) : SeqV K H' p xs := by
  rcases h with h | h
  · exact .inl (s.seq h)
  · rcases h with (h | ⟨o, h⟩) | h
    · exact .inr (.inl (.inl (s _ _ h)))
    · exact .inr (.inl (.inr ⟨o, s _ _ h⟩))
    · exact .inr (.inr h)
theorem RepJ.both {K : PySem.W.Frag} {H : Hp} {x y : V} {j : J} {k : Nat} (hx : RepJ H x j k) (hy : RepJ H y j k) : (x = .non ∧ y = .non) ∨ (∃ b, x = .bl b ∧ y = .bl b) ∨ (∃ i, x = .int i ∧ y = .int i) ∨ (∃ z, x = .str z ∧ y = .str z) ∨
    ∃ (isT : Bool) (p q : Addr) (xs ys : List V) (js : List J) (k' : Nat), k = k' + 1 ∧ x = .ref p ∧ y = .ref q ∧ TyX K H x (.type (if isT then "tuple" else "list")) ∧ TyX K H y (.type (if isT then "tuple" else "list")) ∧ SeqV K H p xs ∧ SeqV K H q ys ∧ xs.length ≤ 100000 ∧ xs.length = js.length ∧ ys.length = js.length ∧
      (∀ (i : Nat) (x : V) (j : J), xs[i]? = some x → js[i]? = some j → RepJ H x j k') ∧ (∀ (i : Nat) (x : V) (j : J), ys[i]? = some x → js[i]? = some j → RepJ H x j k') := by
  cases hx with
  | non => cases hy; exact .inl ⟨rfl, rfl⟩
  | bl b => cases hy; exact .inr (.inl ⟨b, rfl, rfl⟩)
  | int i => cases hy; exact .inr (.inr (.inl ⟨i, rfl, rfl⟩))
  | str z => cases hy; exact .inr (.inr (.inr (.inl ⟨z, rfl, rfl⟩)))
  | @tup n p xs js h z l r =>
    cases hy with
    | @tup _ q ys _ h' z' l' r' => exact .inr (.inr (.inr (.inr ⟨true, p, q, xs, ys, js, n, rfl, rfl, rfl, .base (.tup h), .base (.tup h'), .inr (SqT.of h), .inr (SqT.of h'), z, l, l', r, r'⟩)))
  | @lst n p xs js h z l r =>
    cases hy with
    | @lst _ q ys _ h' z' l' r' => exact .inr (.inr (.inr (.inr ⟨false, p, q, xs, ys, js, n, rfl, rfl, rfl, .base (.lst h), .base (.lst h'), .inl (SqL.of h), .inl (SqL.of h'), z, l, l', r, r'⟩)))
def spIsInt : Sp := fun vs H Q _ => ∃ i : Int, vs = [.int i] ∧ Q (.bl true) H
abbrev N__law_is_integer : List Str := ["actual"]
theorem sc__law_is_integer : FnScope ["actual"] ["actual"] (defScope s__law_is_integer) := ⟨rfl, rfl, rfl, by decide +kernel, rfl, by decide +kernel, by decide +kernel⟩
theorem ok_isint {f : Addr} {fd : FuncData} (B : Bt K mg tL tM tV) (Dd : Df K mg "_law_is_integer" s__law_is_integer ["actual"] f fd) : FnOk P w K mg base CX0 1 f fd ["actual"] spIsInt := by
  refine Dd.F.ok sc__law_is_integer (fun vs H Q Ex h => ?_) (fun cdv A outer s H vs Q Ex hr h => ?_)
  · obtain ⟨i, rfl, _⟩ := h
    rfl
  obtain ⟨i, rfl, q⟩ := h
  refine ⟨_, (pss_one (ps_ret (pe_and (pe_callB call_isi rfl B.b_isinstance boot_isinstance (pa_cons (pv 0) (pa_cons (pe_bltn (v := .ty "int") rfl B.b_int boot_int rfl) pa_nil))) (pe_one (pe_not (pe_callB call_isi rfl B.b_isinstance boot_isinstance (pa_cons (pv 0) (pa_cons (pe_bltn (v := .ty "bool") rfl B.b_bool boot_bool rfl) pa_nil)))))))), ?_⟩
  have T : TyX K H (.int i) (.type "int") := .base (.int i)
  exact ⟨_, rfl, _, _, _, _, _, rfl, .ty _, T, kit_ty (r := true) (by decide +kernel), _, rfl, iteT ⟨_, rfl, _, _, _, _, _, rfl, .ty _, T, kit_ty (r := false) (by decide +kernel), _, rfl, q⟩⟩
abbrev N__law_equal : List Str := ["actual", "due", "at"]
theorem sc__law_equal : FnScope ["actual", "due", "at"] ["actual", "due"] (defScope s__law_equal) := ⟨rfl, rfl, rfl, by decide +kernel, rfl, by decide +kernel, by decide +kernel⟩
theorem ok_equal_step {f : Addr} {fd : FuncData} (B : Bt K mg tL tM tV) (Dd : Df K mg "_law_equal" s__law_equal ["actual", "due"] f fd) (G_law_is_integer : Cl P w K mg base 1 "_law_is_integer" ["actual"] spIsInt) (n : Nat)
    (G_law_equal : Cl P w K mg base (n + 1) "_law_equal" ["actual", "due"] (spEqual n)) : FnOk P w K mg base CX0 (n + 2) f fd ["actual", "due"] (spEqual (n + 1)) := by
  refine Dd.F.ok sc__law_equal (fun vs H Q Ex h => ?_) (fun cdv A outer s H vs Q Ex hr h => ?_)
  · obtain ⟨x, y, j, k, rfl, _⟩ := h
    rfl
  obtain ⟨x, y, j, k, rfl, hk, hx, hy, q⟩ := h
  refine ⟨_, (pss_cons (ps_if (pt_cmpR op_isN (pv 1) pe_non (nomark _)) (pss_one (ps_ret (pe_cmpR op_isN (pv 0) pe_non (nomark _)))) pss_nil)
    (pss_cons (ps_if (pt_val (pe_callB call_isi rfl B.b_isinstance boot_isinstance (pa_cons (pv 1) (pa_cons (pe_bltn (v := .ty "bool") rfl B.b_bool boot_bool rfl) pa_nil)))) (pss_one (ps_ret (pe_and (pe_callB call_isi rfl B.b_isinstance boot_isinstance (pa_cons (pv 0) (pa_cons (pe_bltn (v := .ty "bool") rfl B.b_bool boot_bool rfl) pa_nil))) (pe_one (pe_cmpR op_eq (pv 0) (pv 1) (nomark _)))))) pss_nil)
    (pss_cons (ps_if (pt_val (pe_callB call_isi rfl B.b_isinstance boot_isinstance (pa_cons (pv 1) (pa_cons (pe_bltn (v := .ty "int") rfl B.b_int boot_int rfl) pa_nil)))) (pss_one (ps_ret (pe_and (pe_cl G_law_is_integer (hr.mono (by omega)) rfl (pa_cons (pv 0) pa_nil)) (pe_one (pe_cmpR op_eq (pv 0) (pv 1) (nomark _)))))) pss_nil)
    (pss_cons (ps_if (pt_val (pe_callB call_isi rfl B.b_isinstance boot_isinstance (pa_cons (pv 1) (pa_cons (pe_bltn (v := .ty "str") rfl B.b_str boot_str rfl) pa_nil)))) (pss_one (ps_ret (pe_and (pe_callB call_isi rfl B.b_isinstance boot_isinstance (pa_cons (pv 0) (pa_cons (pe_bltn (v := .ty "str") rfl B.b_str boot_str rfl) pa_nil))) (pe_one (pe_cmpR op_eq (pv 0) (pv 1) (nomark _)))))) pss_nil)
    (C8.pss_cut (ps_if (PW.pt (pw_and (pt_val (pe_callB call_isi rfl B.b_isinstance boot_isinstance (pa_cons (pv 1) (pa_cons (pe_bltn (v := .ty "tuple") rfl B.b_tuple boot_tuple rfl) pa_nil)))) (pw_and1 (pt_not (pt_val (pe_callB call_isi rfl B.b_isinstance boot_isinstance (pa_cons (pv 0) (pa_cons (pe_bltn (v := .ty "tuple") rfl B.b_tuple boot_tuple rfl) pa_nil)))))))) (pss_one (ps_ret pe_bl)) pss_nil)
    (C8.pss_cut (ps_if (PW.pt (pw_and (pt_val (pe_callB call_isi rfl B.b_isinstance boot_isinstance (pa_cons (pv 1) (pa_cons (pe_bltn (v := .ty "list") rfl B.b_list boot_list rfl) pa_nil)))) (pw_and1 (pt_not (pt_val (pe_callB call_isi rfl B.b_isinstance boot_isinstance (pa_cons (pv 0) (pa_cons (pe_bltn (v := .ty "list") rfl B.b_list boot_list rfl) pa_nil)))))))) (pss_one (ps_ret pe_bl)) pss_nil)
    (pss_cons (ps_if (pt_cmpR op_ne (pe_callB call_len rfl B.b_len boot_len (pa_cons (pv 0) pa_nil)) (pe_callB call_len rfl B.b_len boot_len (pa_cons (pv 1) pa_nil)) (nomark _)) (pss_one (ps_ret pe_bl)) pss_nil)
    (pss_one (ps_ret (pe_callB (cr_all rfl) rfl B.b_all boot_all (pa_cons (pe_lc (own := [("at", 2)]) (g := gName 2) (tt := tYes) rfl sc__law_equal.nd (pi_range1 rfl B.b_range (pa_cons (pe_callB call_len rfl B.b_len boot_len (pa_cons (pv 1) pa_nil)) pa_nil)) (blkOk_by (N := N__law_equal) (sc := defScope s__law_equal) (by decide +kernel)) (fun _ _ _ _ _ => pg_name (i := 2) sc__law_equal.nd rfl (Or.inl rfl)) (fun _ _ _ _ _ => pts_nil) (fun _ _ _ _ _ => (pe_cl G_law_equal (hr.mono (by omega)) rfl (pa_cons (pe_ix (r := rIx K) ix_seq (pv 0) (pv 2) (fun _ _ => rfl)) (pa_cons (pe_ix (r := rIx K) ix_seq (pv 1) (pv 2) (fun _ _ => rfl)) pa_nil))))) pa_nil))))))))))), ?_⟩
  rcases hx.both (K := K) hy with ⟨rfl, rfl⟩ | ⟨b, rfl, rfl⟩ | ⟨i, rfl, rfl⟩ | ⟨z, rfl, rfl⟩ | ⟨isT, p, p', xs, ys, js, k', rfl, rfl, rfl, T, T', S, S', hz, l, l', r, r'⟩
  · exact ⟨_, rfl, rfl, _, rfl, iteT ⟨_, rfl, rfl, q _ (Same.refl _)⟩⟩
  · have T : TyX K H (.bl b) (.type "bool") := .base (.bl b)
    refine ⟨_, rfl, rfl, _, rfl, iteF ⟨_, rfl, _, _, _, _, _, rfl, .ty _, T, kit_ty (r := true) (by decide +kernel), _, rfl, iteT ⟨_, rfl, _, _, _, _, _, rfl, .ty _, T, kit_ty (r := true) (by decide +kernel), _, rfl, iteT ⟨_, rfl, _, rfl, rfl, ?_⟩⟩⟩⟩
    rw [decide_eq_true rfl]
    exact q _ (Same.refl _)
  · have T : TyX K H (.int i) (.type "int") := .base (.int i)
    refine ⟨_, rfl, rfl, _, rfl, iteF ⟨_, rfl, _, _, _, _, _, rfl, .ty _, T, kit_ty (r := false) (by decide +kernel), _, rfl, iteF ⟨_, rfl, _, _, _, _, _, rfl, .ty _, T, kit_ty (r := true) (by decide +kernel), _, rfl, iteT ⟨_, rfl, i, rfl, _, rfl, iteT ⟨_, rfl, _, rfl, rfl, ?_⟩⟩⟩⟩⟩
    rw [decide_eq_true rfl]
    exact q _ (Same.refl _)
  · have T : TyX K H (.str z) (.type "str") := .base (.str z)
    refine ⟨_, rfl, rfl, _, rfl, iteF ⟨_, rfl, _, _, _, _, _, rfl, .ty _, T, kit_ty (r := false) (by decide +kernel), _, rfl, iteF ⟨_, rfl, _, _, _, _, _, rfl, .ty _, T, kit_ty (r := false) (by decide +kernel), _, rfl, iteF ⟨_, rfl, _, _, _, _, _, rfl, .ty _, T, kit_ty (r := true) (by decide +kernel), _, rfl,
      iteT ⟨_, rfl, _, _, _, _, _, rfl, .ty _, T, kit_ty (r := true) (by decide +kernel), _, rfl, iteT ⟨_, rfl, _, rfl, rfl, ?_⟩⟩⟩⟩⟩⟩
    rw [decide_eq_true rfl]
    exact q _ (Same.refl _)
  · have kb : PySem.W.kitOne K (.type (if isT then "tuple" else "list")) (.type "bool") = some false := by cases isT <;> exact kit_ty (r := false) (by decide +kernel)
    have ki : PySem.W.kitOne K (.type (if isT then "tuple" else "list")) (.type "int") = some false := by cases isT <;> exact kit_ty (r := false) (by decide +kernel)
    have ks : PySem.W.kitOne K (.type (if isT then "tuple" else "list")) (.type "str") = some false := by cases isT <;> exact kit_ty (r := false) (by decide +kernel)
    have kt : PySem.W.kitOne K (.type (if isT then "tuple" else "list")) (.type "tuple") = some isT := by
      cases isT
      · exact kit_ty (r := false) (by decide +kernel)
      · exact kit_ty (r := true) (by decide +kernel)
    have kl : PySem.W.kitOne K (.type (if isT then "tuple" else "list")) (.type "list") = some (!isT) := by
      cases isT
      · exact kit_ty (r := true) (by decide +kernel)
      · exact kit_ty (r := false) (by decide +kernel)
    refine ⟨_, rfl, rfl, _, rfl, iteF ⟨_, rfl, _, _, _, _, _, rfl, .ty _, T', kb, _, rfl, iteF ⟨_, rfl, _, _, _, _, _, rfl, .ty _, T', ki, _, rfl, iteF ⟨_, rfl, _, _, _, _, _, rfl, .ty _, T', ks, _, rfl, iteF ?_⟩⟩⟩⟩
    refine ⟨fun σ' H' => σ' = [some (.ref p), some (.ref p'), none] ∧ H = H', ?_, ?_⟩
    · refine ⟨_, rfl, _, _, _, _, _, rfl, .ty _, T', kt, _, rfl, ite2 (fun e => ?_) (fun e => iteF ⟨rfl, rfl⟩)⟩
      refine ⟨_, rfl, _, _, _, _, _, rfl, .ty _, T, kt, _, rfl, ?_⟩
      rw [e]
      exact iteF ⟨rfl, rfl⟩
    rintro σ' H' ⟨rfl, rfl⟩
    refine ⟨fun σ' H' => σ' = [some (.ref p), some (.ref p'), none] ∧ H = H', ?_, ?_⟩
    · refine ⟨_, rfl, _, _, _, _, _, rfl, .ty _, T', kl, _, rfl, ite2 (fun e => ?_) (fun e => iteF ⟨rfl, rfl⟩)⟩
      refine ⟨_, rfl, _, _, _, _, _, rfl, .ty _, T, kl, _, rfl, ?_⟩
      rw [e]
      exact iteF ⟨rfl, rfl⟩
    rintro σ' H' ⟨rfl, rfl⟩
    refine ⟨_, rfl, _, js.length, rfl, S.len l.symm, _, rfl, _, js.length, rfl, S'.len l'.symm, rfl, _, rfl, ?_⟩
    have e0 : (!decide (V.int ((js.length : Nat) : Int) = V.int ((js.length : Nat) : Int))) = false := by
      rw [decide_eq_true rfl]
      rfl
    refine ite2 (fun e => ?_) (fun _ => ?_)
    · have e1 : (!decide (V.int ((js.length : Nat) : Int) = V.int ((js.length : Nat) : Int))) = true := e
      rw [e0] at e1
      cases e1
    refine ⟨_, rfl, _, js.length, rfl, S'.len l'.symm, _, rfl, by omega, by omega, fun L hL => ?_⟩
    refine lc_range (lo := 0) (n := js.length) (fun i H2 => Same H H2 ∧ H2 L = some (.lst ((List.replicate i true).map V.bl))) ⟨same_upd hL, upd_same⟩ (fun i H2 hi h => ?_) (fun H2 h => ?_)
    · have ix : xs[i]? = some xs[i] := List.getElem?_eq_getElem (by omega)
      have iy : ys[i]? = some ys[i] := List.getElem?_eq_getElem (by omega)
      have ij : js[i]? = some js[i] := List.getElem?_eq_getElem hi
      refine ⟨rfl, tyes ⟨_, rfl, _, rfl, (S.same h.1).ix (at_of (j := i) (by omega) ix) ⟨_, rfl, _, rfl, (S'.same h.1).ix (at_of (j := i) (by omega) iy) ⟨_, _, _, _, rfl, by omega, (r i _ _ ix ij).same h.1, (r' i _ _ iy ij).same h.1, fun H3 s3 => ⟨_, s3 _ _ h.2, ?_, ?_, ?_⟩⟩⟩⟩⟩
      · rw [List.length_map, List.length_replicate]
        exact Nat.lt_of_le_of_lt (m := 100000) (by omega) (by decide)
      · exact fun b o e => by rw [upd_ne (ne_of_none e hL)]; exact s3 _ _ (h.1 b o e)
      · rw [upd_same, List.replicate_succ', List.map_append]
        rfl
    · obtain ⟨h1, h2⟩ := h
      refine ⟨L, _, rfl, SqL.of h2, ?_⟩
      have e1 : (List.replicate js.length true).all id = true := by
        rw [List.all_eq_true]
        intro x hx
        rw [(List.mem_replicate.mp hx).2]
        rfl
      rw [e1]
      exact q _ h1
theorem none_left {f : Addr} {fd : FuncData} {k : Nat} {ps : List Str} {sp : Sp} (no : ∀ vs H Q E, ¬ sp vs H Q E) : FnOk P w K mg base CX0 k f fd ps sp :=
  ⟨fun vs H Q E h => absurd h (no vs H Q E), fun A outer s H args us vs Q E _ _ _ _ h => absurd h (no vs H Q E)⟩
theorem all_equal {f : Addr} {fd : FuncData} (B : Bt K mg tL tM tV) (Dd : Df K mg "_law_equal" s__law_equal ["actual", "due"] f fd) (G1 : Cl P w K mg base 1 "_law_is_integer" ["actual"] spIsInt) :
    ∀ n, FnOk P w K mg base CX0 (n + 1) f fd ["actual", "due"] (spEqual n)
  | 0 => none_left fun vs H Q Ex h => by
    obtain ⟨x, y, j, k, _, h, _⟩ := h
    exact absurd h (Nat.not_lt_zero _)
  | n + 1 => ok_equal_step B Dd G1 n (Dd.cl (all_equal B Dd G1 n))
end
end My
namespace My
open PySem PySem.Spec PyProof.Rows L2
/-! ### one step inward, and along a path -/
noncomputable def entL (S : Sy) (s : Nat) : Option Sy := if roundB (cutS S) (orbL (cutS S) s) = true then some (innS (cutS S) (orbL (cutS S) s)) else none
theorem ent_good {S T : Sy} (G : Good S) {s : Nat} (hs : s ∈ S.st) (h : entL S s = some T) : Good T := by
  unfold entL at h
  split at h
  · rw [← Option.some.inj h]
    exact innS_good (cutS_good G) hs
  · cases h
noncomputable def behJ : Option Sy → List J → Option Sy
  | none, _ => none
  | some S, [] => some S
  | some S, j :: js => match intJ j with
    | some i => if 0 ≤ i ∧ i.toNat ∈ S.st then behJ (entL S i.toNat) js else none
    | none => none
theorem behJ_none (js : List J) : behJ none js = none := by
  cases js <;> rfl
theorem behJ_app : ∀ (a b : List J) (o : Option Sy), behJ o (a ++ b) = behJ (behJ o a) b
  | a, b, none => by rw [behJ_none, behJ_none, behJ_none]
  | [], b, some S => rfl
  | j :: a, b, some S => by
    show (match intJ j with
      | some i => if 0 ≤ i ∧ i.toNat ∈ S.st then behJ (entL S i.toNat) (a ++ b) else none
      | none => none) = behJ (match intJ j with
      | some i => if 0 ≤ i ∧ i.toNat ∈ S.st then behJ (entL S i.toNat) a else none
      | none => none) b
    cases intJ j with
    | none => exact (behJ_none b).symm
    | some i =>
      show (if 0 ≤ i ∧ i.toNat ∈ S.st then behJ (entL S i.toNat) (a ++ b) else none) = behJ (if 0 ≤ i ∧ i.toNat ∈ S.st then behJ (entL S i.toNat) a else none) b
      by_cases c : 0 ≤ i ∧ i.toNat ∈ S.st
      · rw [if_pos c, if_pos c]
        exact behJ_app a b _
      · rw [if_neg c, if_neg c, behJ_none]
def pathJ (p : List Nat) : List J := p.map fun (n : Nat) => J.int (n : Int)
theorem behJ_one {S : Sy} {x : Nat} (hx : x ∈ S.st) : behJ (some S) [J.int (x : Int)] = entL S x := by
  show (if (0 : Int) ≤ (x : Int) ∧ (x : Int).toNat ∈ S.st then behJ (entL S (x : Int).toNat) [] else none) = _
  rw [if_pos ⟨by omega, by rw [Int.toNat_natCast]; exact hx⟩, Int.toNat_natCast]
  cases entL S x <;> rfl
theorem behJ_good : ∀ (js : List J) {S T : Sy}, Good S → behJ (some S) js = some T → Good T
  | [], S, T, G, h => by
    rw [← Option.some.inj h]
    exact G
  | j :: js, S, T, G, h => by
    have h : (match intJ j with
      | some i => if 0 ≤ i ∧ i.toNat ∈ S.st then behJ (entL S i.toNat) js else none
      | none => none) = some T := h
    cases hj : intJ j with
    | none => rw [hj] at h; cases h
    | some i =>
      rw [hj] at h
      have h : (if 0 ≤ i ∧ i.toNat ∈ S.st then behJ (entL S i.toNat) js else none) = some T := h
      by_cases c : 0 ≤ i ∧ i.toNat ∈ S.st
      · rw [if_pos c] at h
        cases he : entL S i.toNat with
        | none => rw [he, behJ_none] at h; cases h
        | some R =>
          rw [he] at h
          exact behJ_good js (ent_good G c.2 he) h
      · rw [if_neg c] at h
        cases h
theorem kid_ent {T : Sy} {k : Nat × Sy} (hk : k ∈ kidsL T) : k.1 ∈ T.st ∧ entL T k.1 = some k.2 := by
  obtain ⟨_, x, hx, _, hr, _, rfl⟩ := kid_of hk
  exact ⟨hx, if_pos hr⟩
theorem walk_beh {S : Sy} (G : Good S) : ∀ x ∈ preS ([], S), behJ (some S) (pathJ x.1) = some x.2 := fun x hx => by
  refine (walk_ind (M := fun x => behJ (some S) (pathJ x.1) = some x.2) G rfl (fun p T GT h k hk => ?_) x hx).1
  have h : behJ (some S) (pathJ p) = some T := h
  have e : pathJ (p ++ [k.1]) = pathJ p ++ [J.int (k.1 : Int)] := List.map_append
  show behJ (some S) (pathJ (p ++ [k.1])) = some k.2
  obtain ⟨h1, h2⟩ := kid_ent hk
  rw [e, behJ_app, h, behJ_one h1, h2]
end My
namespace My
open PySem PySem.Spec PyProof.Rows L2
/-! ### by levels, and in order -/
noncomputable def kidsN (x : Nd) : List Nd := (kidsL x.2).map fun k => (x.1 ++ [k.1], k.2)
noncomputable def levL : Nat → List Nd → List Nd
  | 0, l => l
  | n + 1, l => levL n (l.flatMap kidsN)
noncomputable def upN : Nat → List Nd → List Nd
  | 0, l => l
  | n + 1, l => l ++ upN n (l.flatMap kidsN)
theorem levL_succ : ∀ (n : Nat) (l : List Nd), levL (n + 1) l = (levL n l).flatMap kidsN
  | 0, l => rfl
  | n + 1, l => levL_succ n (l.flatMap kidsN)
theorem upN_succ : ∀ (n : Nat) (l : List Nd), upN (n + 1) l = upN n l ++ levL (n + 1) l
  | 0, l => rfl
  | n + 1, l => by
    show l ++ upN (n + 1) (l.flatMap kidsN) = (l ++ upN n (l.flatMap kidsN)) ++ levL (n + 1) (l.flatMap kidsN)
    rw [upN_succ n, List.append_assoc]
theorem perm_heads {α : Type} (f : α → List α) : ∀ l : List α, (l.flatMap fun x => x :: f x).Perm (l ++ l.flatMap f)
  | [] => .refl _
  | x :: l => by
    rw [List.flatMap_cons, List.flatMap_cons, List.cons_append, List.cons_append]
    refine .cons _ ?_
    exact ((perm_heads f l).append_left (f x)).trans (List.perm_append_comm_assoc ..)
noncomputable def preX (n : Nat) (x : Nd) : List Nd := pre n x.1 x.2
theorem preX_succ (n : Nat) (x : Nd) : preX (n + 1) x = x :: (kidsN x).flatMap (preX n) := by
  unfold kidsN
  rw [List.flatMap_map]
  rfl
theorem flat_pre : ∀ (n : Nat) (l : List Nd), (l.flatMap (preX n)).Perm (upN n l)
  | 0, l => by
    have : preX 0 = fun x => [x] := rfl
    rw [this]
    show (l.flatMap fun x => [x]).Perm l
    rw [List.flatMap_singleton']
  | n + 1, l => by
    have e : (l.flatMap (preX (n + 1))) = l.flatMap fun x => x :: (kidsN x).flatMap (preX n) := by
      congr 1
      funext x
      exact preX_succ n x
    rw [e]
    refine (perm_heads (fun x => (kidsN x).flatMap (preX n)) l).trans ?_
    rw [← List.flatMap_assoc]
    exact (flat_pre n (l.flatMap kidsN)).append_left l
/-- how deep one can go -/
noncomputable def depS (S : Sy) : Nat := S.mv.length + if orbsL S = [S.st] then 0 else 1
theorem inn_one {R : Sy} (G : Good R) {x : Nat} (hx : x ∈ R.st) : orbsL (innS R (orbL R x)) = [(innS R (orbL R x)).st] := by
  refine one_orbit (innS_good G hx) fun a ha b hb => ?_
  obtain ⟨_, a2, a3⟩ := mem_orb.mp ha
  obtain ⟨_, b2, b3⟩ := mem_orb.mp hb
  have h : ∀ c, Rch R a c → Rch R c a → Rch (innS R (orbL R x)) a c := by
    intro c h
    induction h with
    | refl => exact fun _ => .refl _
    | @step t m h hm e ih =>
      intro back
      have t1 : Rch R t m.2.2 := .step (.refl _) hm e
      have ta : Rch R t a := t1.trans back
      refine .step (ih ta) ?_ e
      have m1 : t ∈ orbL R x := mem_orb.mpr ⟨by rw [← e]; exact (G.min m hm).1, a2.trans h, ta.trans a3⟩
      have m2 : m.2.2 ∈ orbL R x := mem_orb.mpr ⟨(G.min m hm).2.1, (a2.trans h).trans t1, back.trans a3⟩
      exact List.mem_filter.mpr ⟨hm, by rw [e, decide_eq_true m1, decide_eq_true m2]; rfl⟩
  exact h b (a3.trans b2) (b3.trans a2)
theorem kid_dep {S : Sy} (G : Good S) {k : Nat × Sy} (h : k ∈ kidsL S) : depS k.2 < depS S := by
  have hsz := kid_size G h
  obtain ⟨ns, x, hx, _, hr, _, rfl⟩ := kid_of h
  have l2 : (innS (cutS S) (orbL (cutS S) x)).mv.length ≤ (cutS S).mv.length := List.length_filter_le _ _
  have l3 : (cutS S).mv.length ≤ S.mv.length := List.length_filter_le _ _
  unfold depS
  rw [if_pos (inn_one (cutS_good G) hx)]
  show (innS (cutS S) (orbL (cutS S) x)).mv.length + 0 < _
  by_cases c : orbsL S = [S.st]
  · rw [if_pos c]
    have hsz : (orbL (cutS S) x).length + (innS (cutS S) (orbL (cutS S) x)).mv.length < S.st.length + S.mv.length := hsz
    have l1 : (orbL (cutS S) x).length ≤ S.st.length := List.length_filter_le _ _
    by_cases e : (orbL (cutS S) x).length = S.st.length
    · omega
    · have hne : ∃ y ∈ S.st, y ∉ orbL (cutS S) x := by
        by_cases z : ∃ y ∈ S.st, y ∉ orbL (cutS S) x
        · exact z
        · exfalso
          refine e ?_
          have : orbL (cutS S) x = (cutS S).st := by
            refine List.filter_eq_self.mpr fun o ho => ?_
            by_cases z2 : o ∈ orbL (cutS S) x
            · exact (List.mem_filter.mp z2).2
            · exact absurd ⟨o, ho, z2⟩ z
          rw [this]
          rfl
      obtain ⟨y, hy, hyo⟩ := hne
      obtain ⟨z, hz, ez, _⟩ := orbsL_get (S := S) (o := S.st) (by rw [c]; exact List.mem_singleton.mpr rfl)
      have rxy : Rch S x y := by
        rw [ez] at hx hy
        exact (mem_orb.mp hx).2.2.trans (mem_orb.mp hy).2.1
      have hm : ∃ m ∈ S.mv, m.1 ∈ orbL (cutS S) x ∧ m.2.2 ∉ orbL (cutS S) x := by
        by_cases w : ∃ m ∈ S.mv, m.1 ∈ orbL (cutS S) x ∧ m.2.2 ∉ orbL (cutS S) x
        · exact w
        · exfalso
          refine hyo (rxy.closed (F := fun n => n ∈ orbL (cutS S) x) (orb_self (S := cutS S) (by exact hx)) fun m hm h1 => ?_)
          by_cases w2 : m.2.2 ∈ orbL (cutS S) x
          · exact w2
          · exact absurd ⟨m, hm, h1, w2⟩ w
      obtain ⟨m, hm, h1, h2⟩ := hm
      have le : (innS (cutS S) (orbL (cutS S) x)).mv.length ≤ (S.mv.filter fun m => decide (m.1 ∈ orbL (cutS S) x) && decide (m.2.2 ∈ orbL (cutS S) x)).length := by
        show ((S.mv.filter _).filter _).length ≤ _
        rw [List.filter_filter, ← List.countP_eq_length_filter, ← List.countP_eq_length_filter]
        exact List.countP_mono_left fun m _ h => (Bool.and_eq_true _ _ ▸ h : _ ∧ _).1
      have lt : (S.mv.filter fun m => decide (m.1 ∈ orbL (cutS S) x) && decide (m.2.2 ∈ orbL (cutS S) x)).length < S.mv.length := by
        refine List.length_filter_lt_length_iff_exists.mpr ⟨m, hm, fun h => h2 (of_decide_eq_true (Bool.and_eq_true _ _ ▸ h : _ ∧ _).2)⟩
      omega
  · rw [if_neg c]
    omega
theorem kids_none {S : Sy} (G : Good S) (h : S.mv.length = 0) : kidsL S = [] := by
  cases hh : kidsL S with
  | nil => rfl
  | cons k ks =>
    have h1 := kids_sum G
    have h2 := kid_mv (S := S) (k := k) (by rw [hh]; exact List.mem_cons_self ..)
    rw [hh, List.map_cons, List.sum_cons] at h1
    omega
theorem pre_stable2 : ∀ (n : Nat) (p : List Nat) (S : Sy), Good S → depS S ≤ n → pre (n + 1) p S = pre n p S
  | 0, p, S, G, h => by
    show (p, S) :: (kidsL S).flatMap (fun k => pre 0 (p ++ [k.1]) k.2) = [(p, S)]
    rw [kids_none G (by unfold depS at h; omega)]
    rfl
  | n + 1, p, S, G, h => by
    show (p, S) :: (kidsL S).flatMap (fun k => pre (n + 1) (p ++ [k.1]) k.2) = (p, S) :: (kidsL S).flatMap fun k => pre n (p ++ [k.1]) k.2
    congr 1
    rw [List.flatMap_def, List.flatMap_def]
    congr 1
    refine List.map_congr_left fun k hk => pre_stable2 n _ _ (kid_good G hk) ?_
    have := kid_dep G hk
    omega
theorem pre_dep {n : Nat} {p : List Nat} {S : Sy} (G : Good S) (h : depS S ≤ n) : pre n p S = preS (p, S) := by
  have : ∀ d, pre (n + d) p S = pre n p S := fun d => by
    induction d with
    | zero => rfl
    | succ d ih => rw [← Nat.add_assoc, pre_stable2 _ _ _ G (by omega), ih]
  rw [← this (sizeS S)]
  exact pre_size G (by omega)
theorem dep_le (S : Sy) : depS S ≤ S.mv.length + 1 := by
  unfold depS
  split <;> omega
theorem lev_len {S : Sy} : ∀ (n : Nat), ∀ x ∈ levL n [([], S)], x.1.length = n
  | 0, x, h => by
    rw [List.mem_singleton.mp h]
    rfl
  | n + 1, x, h => by
    rw [levL_succ] at h
    obtain ⟨y, hy, hx⟩ := List.mem_flatMap.mp h
    obtain ⟨k, _, rfl⟩ := List.mem_map.mp hx
    show (y.1 ++ [k.1]).length = n + 1
    rw [List.length_append, lev_len n y hy]
    rfl
theorem up_len {S : Sy} : ∀ (n : Nat), ∀ x ∈ upN n [([], S)], x.1.length ≤ n
  | 0, x, h => by
    rw [List.mem_singleton.mp h]
    exact Nat.zero_le _
  | n + 1, x, h => by
    rw [upN_succ] at h
    rcases List.mem_append.mp h with h | h
    · have := up_len n x h
      omega
    · have := lev_len (n + 1) x h
      omega
theorem up_pre {n : Nat} {S : Sy} : (upN n [([], S)]).Perm (pre n [] S) := by
  have := flat_pre n [([], S)]
  rw [List.flatMap_cons, List.flatMap_nil, List.append_nil] at this
  exact this.symm
theorem up_all {S : Sy} (G : Good S) : (upN (S.mv.length + 1) [([], S)]).Perm (preS ([], S)) := by
  rw [← pre_dep (p := []) G (dep_le S)]
  exact up_pre
theorem pre_sub {S : Sy} (G : Good S) : ∀ (n : Nat) (p : List Nat) (x : Nd), x ∈ pre n p S → x ∈ preS (p, S) := by
  suffices h : ∀ (n : Nat) (S : Sy), Good S → ∀ (p : List Nat) (x : Nd), x ∈ pre n p S → x ∈ preS (p, S) from fun n p x => h n S G p x
  intro n
  induction n with
  | zero =>
    intro S G p x h
    rw [List.mem_singleton.mp h, preS_eq G]
    exact List.mem_cons_self ..
  | succ n ih =>
    intro S G p x h
    rw [preS_eq G]
    rcases List.mem_cons.mp h with h | h
    · rw [h]
      exact List.mem_cons_self ..
    · obtain ⟨k, hk, hx⟩ := List.mem_flatMap.mp h
      exact List.mem_cons_of_mem _ (List.mem_flatMap.mpr ⟨k, hk, ih _ (kid_good G hk) _ _ hx⟩)
theorem up_sub {S : Sy} (G : Good S) (n : Nat) : ∀ x ∈ upN n [([], S)], x ∈ preS ([], S) := fun x hx => pre_sub G n [] x (up_pre.mem_iff.mp hx)
theorem path_dep {S : Sy} (G : Good S) : ∀ x ∈ preS ([], S), x.1.length ≤ S.mv.length + 1 := fun x hx => up_len _ x ((up_all G).mem_iff.mpr hx)
/-! ### the order of paths -/
def toI (p : List Nat) : List Int := p.map fun (n : Nat) => (n : Int)
def leP (a b : List Nat) : Prop := HT.lexLt (toI b) (toI a) = false
theorem lex_pre (r : List Int) : ∀ p : List Int, HT.lexLt (p ++ r) p = false
  | [] => by cases r <;> rfl
  | x :: p => by
    rw [List.cons_append, HT.lexLt_cons, if_pos rfl]
    exact lex_pre r p
theorem lex_mid {x y : Int} (h : x < y) (r1 r2 : List Int) : ∀ p : List Int, HT.lexLt (p ++ y :: r2) (p ++ x :: r1) = false
  | [] => by
    show HT.lexLt (y :: r2) (x :: r1) = false
    rw [HT.lexLt_cons, if_neg (by omega)]
    exact decide_eq_false (by omega)
  | z :: p => by
    rw [List.cons_append, List.cons_append, HT.lexLt_cons, if_pos rfl]
    exact lex_mid h r1 r2 p
theorem lex_anti : ∀ a b : List Int, HT.lexLt a b = false → HT.lexLt b a = false → a = b
  | [], [], _, _ => rfl
  | [], _ :: _, h, _ => by cases h
  | _ :: _, [], _, h => by cases h
  | x :: a, y :: b, h1, h2 => by
    rw [HT.lexLt_cons] at h1 h2
    by_cases e : x = y
    · rw [if_pos e] at h1
      rw [if_pos e.symm] at h2
      rw [e, lex_anti a b h1 h2]
    · rw [if_neg e] at h1
      rw [if_neg fun h => e h.symm] at h2
      have := of_decide_eq_false h1
      have := of_decide_eq_false h2
      omega
theorem toI_inj : ∀ a b : List Nat, toI a = toI b → a = b
  | [], [], _ => rfl
  | [], _ :: _, h => by cases h
  | _ :: _, [], h => by cases h
  | x :: a, y :: b, h => by
    have h1 := (List.cons.inj (show ((x : Int) :: toI a) = (y : Int) :: toI b from h)).1
    have h2 := (List.cons.inj (show ((x : Int) :: toI a) = (y : Int) :: toI b from h)).2
    rw [toI_inj a b h2, show x = y by omega]
theorem pre_prefix : ∀ (n : Nat) (p : List Nat) (S : Sy), ∀ x ∈ pre n p S, ∃ r, x.1 = p ++ r
  | 0, p, S, x, h => by
    rw [List.mem_singleton.mp h]
    exact ⟨[], (List.append_nil _).symm⟩
  | n + 1, p, S, x, h => by
    rcases List.mem_cons.mp h with h | h
    · rw [h]
      exact ⟨[], (List.append_nil _).symm⟩
    · obtain ⟨k, _, hx⟩ := List.mem_flatMap.mp h
      obtain ⟨r, e⟩ := pre_prefix n _ _ x hx
      exact ⟨k.1 :: r, by rw [e, List.append_assoc]; rfl⟩
theorem kids_rise {S : Sy} (G : Good S) : (kidsL S).Pairwise fun a b => a.1 < b.1 := by
  unfold kidsL
  split
  · exact .nil
  rw [List.pairwise_map]
  have h1 : (orbsL (cutS S)).Pairwise fun a b => a.headD 0 < b.headD 0 := by
    unfold orbsL
    rw [List.pairwise_map]
    refine (G.rise.sublist (List.filter_sublist (l := S.st))).imp_of_mem fun {a b} ha hb h => ?_
    have e : ∀ c, c ∈ (S.st.filter fun s => decide ((orbL (cutS S) s).head? = some s)) → (orbL (cutS S) c).headD 0 = c := fun c hc => by
      have := of_decide_eq_true (List.mem_filter.mp hc).2
      rw [List.headD_eq_head?_getD, this]
      rfl
    rw [e a ha, e b hb]
    exact h
  exact h1.sublist List.filter_sublist
theorem pre_sorted : ∀ (n : Nat) (p : List Nat) (S : Sy), Good S → (pre n p S).Pairwise fun a b => leP a.1 b.1
  | 0, p, S, G => List.pairwise_singleton _ _
  | n + 1, p, S, G => by
    refine List.pairwise_cons.mpr ⟨fun x hx => ?_, ?_⟩
    · obtain ⟨k, _, hx⟩ := List.mem_flatMap.mp hx
      obtain ⟨r, e⟩ := pre_prefix n _ _ x hx
      show HT.lexLt (toI x.1) (toI p) = false
      rw [e, List.append_assoc]
      show HT.lexLt (toI (p ++ ([k.1] ++ r))) (toI p) = false
      unfold toI
      rw [List.map_append]
      exact lex_pre _ _
    · rw [List.pairwise_flatMap]
      refine ⟨fun k hk => pre_sorted n _ _ (kid_good G hk), (kids_rise G).imp fun {a b} h x hx y hy => ?_⟩
      obtain ⟨r1, e1⟩ := pre_prefix n _ _ x hx
      obtain ⟨r2, e2⟩ := pre_prefix n _ _ y hy
      show HT.lexLt (toI y.1) (toI x.1) = false
      have tA : ∀ u v : List Nat, toI (u ++ v) = toI u ++ toI v := fun _ _ => List.map_append
      rw [e1, e2, tA, tA, tA, tA, List.append_assoc, List.append_assoc]
      have h' : (a.1 : Int) < (b.1 : Int) := by omega
      exact lex_mid h' (toI r1) (toI r2) (toI p)
theorem paths_uniq {S : Sy} (G : Good S) {rows : List (List Nat)} (hp : rows.Perm ((upN (S.mv.length + 1) [([], S)]).map (·.1))) (hs : rows.Pairwise leP) : rows = (preS ([], S)).map (·.1) := by
  refine List.Perm.eq_of_pairwise (le := leP) (fun a b _ _ h1 h2 => toI_inj _ _ (lex_anti _ _ h2 h1)) hs ?_ (hp.trans ((up_all G).map _))
  rw [List.pairwise_map]
  exact pre_sorted _ _ _ G
end My
namespace My
open PySem PySem.Spec PyProof.Rows L2
noncomputable def Bt.tP {K : PySem.W.Frag} {mg : Str → Option Value} {tL tM tV : Tok} (B : Bt K mg tL tM tV) : Tok := B.e_P.choose
theorem Bt.g_MOST_PATH_STATES {K : PySem.W.Frag} {mg : Str → Option Value} {tL tM tV : Tok} (B : Bt K mg tL tM tV) : mg "MOST_PATH_STATES" = some (.int 40 B.tP) := B.e_P.choose_spec
def numJ (a b : Int) (j : J) : Bool := match intJ j with
  | some i => decide (a ≤ i ∧ i ≤ b)
  | none => false
def stJ (S : Sy) (j : J) : Bool := match intJ j with
  | some i => decide (0 ≤ i ∧ i.toNat ∈ S.st)
  | none => false
def OSysAt (H : Hp) (v : V) : Option Sy → Prop
  | none => v = .non
  | some T => ∃ t, v = .ref t ∧ SysAt H t T
theorem OSysAt.same {H H' : Hp} {v : V} {o : Option Sy} (s : Same H H') (h : OSysAt H v o) : OSysAt H' v o := by
  cases o with
  | none => exact h
  | some T =>
    obtain ⟨t, e, h⟩ := h
    exact ⟨t, e, h.same s⟩
theorem in_natsI (i : Int) (ys : List Nat) : inV (V.int i) (natsV ys) = decide (0 ≤ i ∧ i.toNat ∈ ys) := by
  by_cases c : 0 ≤ i
  · have e : i = ((i.toNat : Nat) : Int) := by omega
    have h := in_nats i.toNat ys
    rw [← e] at h
    rw [h]
    exact decide_eq_decide.mpr ⟨fun h => ⟨c, h⟩, fun h => h.2⟩
  · rw [decide_eq_false fun h => c h.1]
    unfold inV natsV
    rw [List.any_eq_false]
    intro v hv h
    obtain ⟨y, _, rfl⟩ := List.mem_map.mp hv
    simp [eqV] at h
    omega
/-- what is behind a value as a path -/
noncomputable def behV (S : Sy) (j : J) : Option Sy := match tupJ j with
  | some js => if js.length ≤ 40 then behJ (some S) js else none
  | none => none
def spNumJ : Sp := fun vs H Q _ => ∃ (v : V) (a b : Int) (j : J) (n : Nat), vs = [v, .int a, .int b] ∧ RepJ H v j n ∧ Q (.bl (numJ a b j)) H
def spStateJ : Sp := fun vs H Q _ => ∃ (p : Addr) (v : V) (S : Sy) (j : J) (n : Nat), vs = [.ref p, v] ∧ SysAt H p S ∧ Good S ∧ RepJ H v j n ∧ Q (.bl (stJ S j)) H
def spEnt : Sp := fun vs H Q _ => ∃ (p : Addr) (S : Sy) (s : Nat), vs = [.ref p, .int s] ∧ SysAt H p S ∧ Good S ∧ s ∈ S.st ∧ ∀ v H', Same H H' → OSysAt H' v (entL S s) → Q v H'
def spBehV : Sp := fun vs H Q _ => ∃ (p : Addr) (v : V) (S : Sy) (j : J) (n : Nat), vs = [.ref p, v] ∧ SysAt H p S ∧ Good S ∧ RepJ H v j n ∧ ∀ v' H', Same H H' → OSysAt H' v' (behV S j) → Q v' H'
def spIsPath : Sp := fun vs H Q _ => ∃ (p : Addr) (v : V) (S : Sy) (j : J) (n : Nat), vs = [.ref p, v] ∧ SysAt H p S ∧ Good S ∧ RepJ H v j n ∧ ∀ H', Same H H' → Q (.bl (behV S j).isSome) H'
def spBehind : Sp := fun vs H Q _ => ∃ (p : Addr) (v : V) (S T : Sy) (j : J) (n : Nat), vs = [.ref p, v] ∧ SysAt H p S ∧ Good S ∧ RepJ H v j n ∧ behV S j = some T ∧ ∀ t H', Same H H' → SysAt H' t T → Q (.ref t) H'
def spInward : Sp := fun vs H Q _ => ∃ (p : Addr) (S T : Sy) (s : Nat), vs = [.ref p, .int s] ∧ SysAt H p S ∧ Good S ∧ s ∈ S.st ∧ entL S s = some T ∧ ∀ t H', Same H H' → SysAt H' t T → Q (.ref t) H'
section
variable {P : Program} {w : World} {K : PySem.W.Frag} {mg : Str → Option Value} {base : Heap} {tL tM tV : Tok}
theorem ok_isnumberJ {f : Addr} {fd : FuncData} (B : Bt K mg tL tM tV) (Dd : Df K mg "is_number" s_is_number ["value", "least", "most"] f fd) : FnOk P w K mg base CX0 1 f fd ["value", "least", "most"] spNumJ := by
  refine Dd.F.ok sc_is_number (fun vs H Q Ex h => ?_) (fun cdv A outer s H vs Q Ex hr h => ?_)
  · obtain ⟨v, a, b, j, n, rfl, _⟩ := h
    rfl
  obtain ⟨v, a, b, j, n, rfl, hj, q⟩ := h
  refine ⟨_, (pss_one (ps_ret (pe_and (pe_callB call_isi rfl B.b_isinstance boot_isinstance (pa_cons (pv 0) (pa_cons (pe_bltn (v := .ty "int") rfl B.b_int boot_int rfl) pa_nil))) (pe_and (pe_not (pe_callB call_isi rfl B.b_isinstance boot_isinstance (pa_cons (pv 0) (pa_cons (pe_bltn (v := .ty "bool") rfl B.b_bool boot_bool rfl) pa_nil)))) (pe_one (pe_chain op_le op_le (pv 1) (pv 0) (pv 2))))))), ?_⟩
  obtain ⟨t, T, k1, k2, _⟩ := RepJ.ty (K := K) hj
  refine ⟨_, rfl, _, _, _, _, _, rfl, .ty _, T, k1, _, rfl, ite2 (fun c => ⟨_, rfl, _, _, _, _, _, rfl, .ty _, T, k2, _, rfl, _, rfl, ite2 (fun c2 => ?_) (fun c2 => ?_)⟩) (fun c => ?_)⟩
  · obtain ⟨i, rfl⟩ : ∃ i, j = .int i := by
      cases j <;> first | exact ⟨_, rfl⟩ | exact absurd c Bool.false_ne_true | exact absurd c2 Bool.false_ne_true
    cases hj
    refine ⟨_, rfl, _, rfl, _, _, rfl, rfl, _, rfl, ?_⟩
    have e : numJ a b (.int i) = (decide (a ≤ i) && decide (i ≤ b)) := Bool.decide_and _ _
    rw [e] at q
    by_cases ca : a ≤ i
    · rw [decide_eq_true ca, Bool.true_and] at q
      rw [decide_eq_true ca]
      exact iteT ⟨_, rfl, _, _, rfl, rfl, q⟩
    · rw [decide_eq_false ca, Bool.false_and] at q
      rw [decide_eq_false ca]
      exact iteF q
  · have e : numJ a b j = false := by
      cases j <;> first | rfl | exact absurd c Bool.false_ne_true | exact absurd rfl c2
    rw [e] at q
    exact q
  · have e : numJ a b j = false := by
      cases j <;> first | rfl | (exact absurd rfl c)
    rw [e] at q
    exact q
theorem ok_isstateJ {f : Addr} {fd : FuncData} (B : Bt K mg tL tM tV) (Dd : Df K mg "is_state" s_is_state ["system", "value"] f fd) (Gis_number : Cl P w K mg base 1 "is_number" ["value", "least", "most"] spNumJ) : FnOk P w K mg base CX0 2 f fd ["system", "value"] spStateJ := by
  refine Dd.F.ok sc_is_state (fun vs H Q Ex h => ?_) (fun cdv A outer s H vs Q Ex hr h => ?_)
  · obtain ⟨p, v, S, j, n, rfl, _⟩ := h
    rfl
  obtain ⟨p, v, S, j, n, rfl, hS, hG, hj, q⟩ := h
  refine ⟨_, (pss_one (ps_ret (pe_and (pe_cl Gis_number (hr.mono (by omega)) rfl (pa_cons (pv 1) (pa_cons pe_int (pa_cons (pe_op op_sub (pe_glob (v := .int 40) rfl B.g_MOST_STATES ⟨_, rfl⟩) pe_int) pa_nil)))) (pe_one (pe_cmpR (r := rInB K) (op_in_seqB rfl) (pv 1) (pe_ix (r := rIxT K) ix_tup (pv 0) pe_int (fun _ _ => rfl)) rfl))))), ?_⟩
  obtain ⟨a, b, c, ts, h1, h2, h3, h4, h5⟩ := hS.ex
  refine ⟨_, rfl, _, _, rfl, rfl, v, 0, 39, j, n, rfl, hj, _, rfl, ?_⟩
  cases hi : intJ j with
  | none =>
    have e1 : numJ 0 39 j = false := by unfold numJ; rw [hi]
    have e2 : stJ S j = false := by unfold stJ; rw [hi]
    rw [e2] at q
    rw [e1]
    exact iteF q
  | some i =>
    have e1 : numJ 0 39 j = decide (0 ≤ i ∧ i ≤ 39) := by unfold numJ; rw [hi]
    have e2 : stJ S j = decide (0 ≤ i ∧ i.toNat ∈ S.st) := by unfold stJ; rw [hi]
    rw [e2] at q
    rw [e1]
    obtain rfl : v = .int i := by
      cases j <;> cases hi
      cases hj
      rfl
    by_cases c : 0 ≤ i ∧ i ≤ 39
    · rw [decide_eq_true c]
      refine iteT ⟨_, rfl, _, rfl, p, _, 0, _, rfl, rfl, SqT.of h1, at_zero, a, _, rfl, .inr (SqT.of h2), rfl, flat_nats _, ?_⟩
      show Q (.bl (if false = true then _ else inV (V.int i) (natsV S.st))) H
      rw [if_neg Bool.false_ne_true, in_natsI]
      exact q
    · rw [decide_eq_false c]
      have : ¬ (0 ≤ i ∧ i.toNat ∈ S.st) := fun h => c ⟨h.1, by have := hG.lt _ h.2; omega⟩
      rw [decide_eq_false this] at q
      exact iteF q
abbrev N__entered : List Str := ["system", "state", "rest", "orbit"]
theorem sc__entered : FnScope ["system", "state", "rest", "orbit"] ["system", "state"] (defScope s__entered) := ⟨rfl, rfl, rfl, by decide +kernel, rfl, by decide +kernel, by decide +kernel⟩
theorem ok_entered {f : Addr} {fd : FuncData} (B : Bt K mg tL tM tV) (Dd : Df K mg "_entered" s__entered ["system", "state"] f fd) (Gcut_of : Cl P w K mg base 2 "cut_of" ["system"] spCutOf) (Gorbit_at : Cl P w K mg base 2 "orbit_at" ["system", "state"] spOrbitAt) (Ginner_of : Cl P w K mg base 3 "inner_of" ["system", "orbit"] spInner) (Gis_round : Cl P w K mg base 1 "is_round" ["system", "orbit"] spRound) : FnOk P w K mg base CX0 4 f fd ["system", "state"] spEnt := by
  refine Dd.F.ok sc__entered (fun vs H Q Ex h => ?_) (fun cdv A outer s H vs Q Ex hr h => ?_)
  · obtain ⟨p, S, s, rfl, _⟩ := h
    rfl
  obtain ⟨p, S, y, rfl, hS, hG, hys, q⟩ := h
  refine ⟨_, (pss_cons (ps_set (i := 2) sc__entered.nd rfl (Or.inl rfl) (pe_cl Gcut_of (hr.mono (by omega)) rfl (pa_cons (pv 0) pa_nil)))
    (pss_cons (ps_set (i := 3) sc__entered.nd rfl (Or.inl rfl) (pe_cl Gorbit_at (hr.mono (by omega)) rfl (pa_cons (pv 2) (pa_cons (pv 1) pa_nil))))
    (pss_one (ps_ret (pe_ifExp (pt_val (pe_cl Gis_round (hr.mono (by omega)) rfl (pa_cons (pv 2) (pa_cons (pv 3) pa_nil)))) (pe_cl Ginner_of (hr.mono (by omega)) rfl (pa_cons (pv 2) (pa_cons (pv 3) pa_nil))) pe_non))))), ?_⟩
  have hGc := cutS_good hG
  refine ⟨_, rfl, p, S, rfl, hS, hG, fun r H1 s1 hR => ?_⟩
  refine ⟨_, rfl, _, rfl, r, cutS S, y, rfl, hR, hGc, hys, fun o H2 s2 ho => ?_⟩
  have S2 := s1.trans s2
  have hR2 := hR.same s2
  have ol := orb_len hGc y
  refine ⟨_, rfl, _, rfl, r, o, cutS S, orbL (cutS S) y, rfl, hR2, hGc, ho, fun H3 s3 => ⟨_, rfl, ?_⟩⟩
  have S3 := S2.trans s3
  refine ite2 (fun c => ?_) (fun c => ?_)
  · refine ⟨_, rfl, _, rfl, r, o, cutS S, orbL (cutS S) y, rfl, hR2.same s3, hGc, s3 _ _ ho, by omega, fun t H4 s4 ht => ?_⟩
    refine q _ _ (S3.trans s4) ?_
    rw [show entL S y = some _ from if_pos c]
    exact ⟨t, rfl, ht⟩
  · refine q _ _ S3 ?_
    rw [show entL S y = none from if_neg c]
    exact rfl
abbrev N__behind : List Str := ["system", "value", "state"]
theorem sc__behind : FnScope ["system", "value", "state"] ["system", "value"] (defScope s__behind) := ⟨rfl, rfl, rfl, by decide +kernel, rfl, by decide +kernel, by decide +kernel⟩
theorem ok_behindV {f : Addr} {fd : FuncData} (B : Bt K mg tL tM tV) (Dd : Df K mg "_behind" s__behind ["system", "value"] f fd) (Gis_state : Cl P w K mg base 2 "is_state" ["system", "value"] spStateJ) (G_entered : Cl P w K mg base 4 "_entered" ["system", "state"] spEnt) : FnOk P w K mg base CX0 5 f fd ["system", "value"] spBehV := by
  refine Dd.F.ok sc__behind (fun vs H Q Ex h => ?_) (fun cdv A outer s H vs Q Ex hr h => ?_)
  · obtain ⟨p, v, S, j, n, rfl, _⟩ := h
    rfl
  obtain ⟨p, v, S, j, n, rfl, hS, hG, hj, q⟩ := h
  refine ⟨_, (pss_cons (ps_if (PW.pt (pw_or (pt_not (pt_val (pe_callB call_isi rfl B.b_isinstance boot_isinstance (pa_cons (pv 1) (pa_cons (pe_bltn (v := .ty "tuple") rfl B.b_tuple boot_tuple rfl) pa_nil))))) (pw_or1 (pt_cmpR op_gt (pe_callB call_len rfl B.b_len boot_len (pa_cons (pv 1) pa_nil)) (pe_glob (v := .int 40) rfl B.g_MOST_PATH_STATES ⟨_, rfl⟩) (nomark _))))) (pss_one (ps_ret pe_non)) pss_nil)
    (pss_cons (ps_for PassesOwn.never rfl (pi_tup (pv 1)) (pg_name (i := 2) sc__behind.nd rfl (Or.inl rfl)) (pss_cons (ps_if (pt_not (pt_val (pe_cl Gis_state (hr.mono (by omega)) rfl (pa_cons (pv 0) (pa_cons (pv 2) pa_nil))))) (pss_one (ps_ret pe_non)) pss_nil)
    (pss_cons (ps_set (i := 0) sc__behind.nd rfl (Or.inl rfl) (pe_cl G_entered (hr.mono (by omega)) rfl (pa_cons (pv 0) (pa_cons (pv 2) pa_nil))))
    (pss_one (ps_if (pt_cmpR op_isN (pv 0) pe_non (nomark _)) (pss_one (ps_ret pe_non)) pss_nil)))))
    (pss_one (ps_ret (pv 0))))), ?_⟩
  obtain ⟨t, T, _, _, k3⟩ := RepJ.ty (K := K) hj
  refine ⟨_, rfl, _, _, _, _, _, rfl, .ty _, T, k3, _, rfl, ?_⟩
  cases htj : tupJ j with
  | none =>
    have e1 : isTupJ j = false := by
      cases j <;> first | rfl | (cases htj)
    rw [e1]
    refine iteT (q _ _ (Same.refl _) ?_)
    unfold behV
    rw [htj]
    exact rfl
  | some js =>
    obtain rfl : j = .tup js := by
      cases j <;> cases htj
      rfl
    obtain ⟨t, xs, m, rfl, ht, hxl, two⟩ := hj.untup
    have xl := two.len
    refine iteF ⟨_, rfl, _, xs.length, rfl, .inr ⟨_, SqT.of ht, rfl⟩, _, _, rfl, rfl, _, rfl, ?_⟩
    have eb : behV S (.tup js) = if js.length ≤ 40 then behJ (some S) js else none := rfl
    by_cases c40 : js.length ≤ 40
    · rw [eb, if_pos c40] at q
      rw [decide_eq_false (by omega)]
      refine iteF ?_
      refine ⟨_, rfl, t, rfl, ⟨_, SqT.of ht⟩, for_tup (K := K) (a := t) (xs := xs) (fun i σ' H' => ∃ (p' : Addr) (o2 : Option V) (T : Sy), σ' = [some (.ref p'), some (.ref t), o2] ∧ Same H H' ∧ SysAt H' p' T ∧ Good T ∧ behJ (some T) (js.drop i) = behJ (some S) js) ?_ ?_ ?_ ?_⟩
      · exact ⟨p, none, S, rfl, Same.refl _, hS, hG, rfl⟩
      · rintro i σ' H' _ ⟨p', o2, T, rfl, s1, _⟩
        exact SqT.of (s1 _ _ ht)
      · rintro i x σ' H1 hx ⟨p', o2, T, rfl, s1, hT, hGT, hb⟩
        obtain ⟨j, hj, hr⟩ := two.get hx
        have hil := (List.getElem?_eq_some_iff.mp hj).1
        have hd : js.drop i = j :: js.drop (i + 1) := by
          rw [List.drop_eq_getElem_cons hil, (List.getElem?_eq_some_iff.mp hj).2]
        rw [hd] at hb
        have hb : (match intJ j with
          | some z => if 0 ≤ z ∧ z.toNat ∈ T.st then behJ (entL T z.toNat) (js.drop (i + 1)) else none
          | none => none) = behJ (some S) js := hb
        refine ⟨_, rfl, _, rfl, p', x, T, j, m, rfl, hT, hGT, hr.same s1, _, rfl, ?_⟩
        cases hi : intJ j with
        | none =>
          rw [hi] at hb
          rw [show stJ T j = false by unfold stJ; rw [hi]]
          exact iteT (q _ _ s1 (by rw [← hb]; exact rfl))
        | some k =>
          rw [hi] at hb
          have hb : (if 0 ≤ k ∧ k.toNat ∈ T.st then behJ (entL T k.toNat) (js.drop (i + 1)) else none) = behJ (some S) js := hb
          obtain rfl : x = .int k := by
            cases j <;> cases hi
            cases hr
            rfl
          rw [show stJ T j = decide (0 ≤ k ∧ k.toNat ∈ T.st) by unfold stJ; rw [hi]]
          by_cases c : 0 ≤ k ∧ k.toNat ∈ T.st
          · rw [decide_eq_true c]
            rw [if_pos c] at hb
            have e : k = ((k.toNat : Nat) : Int) := by omega
            refine iteF ⟨_, rfl, _, rfl, p', T, k.toNat, by rw [← e]; rfl, hT, hGT, c.2, fun v2 H2 s2 hv2 => ?_⟩
            cases he : entL T k.toNat with
            | none =>
              rw [he] at hv2 hb
              obtain rfl : v2 = .non := hv2
              refine ⟨_, rfl, rfl, _, rfl, iteT (q _ _ (s1.trans s2) ?_)⟩
              rw [← hb, behJ_none]
              exact rfl
            | some T2 =>
              rw [he] at hv2 hb
              obtain ⟨t2, rfl, hT2⟩ := hv2
              exact ⟨_, rfl, rfl, _, rfl, iteF ⟨t2, some (.int k), T2, rfl, s1.trans s2, hT2, ent_good hGT c.2 he, hb⟩⟩
          · rw [decide_eq_false c]
            rw [if_neg c] at hb
            exact iteT (q _ _ s1 (by rw [← hb]; exact rfl))
      · rintro σ' H1 ⟨p', o2, T, rfl, s1, hT, hGT, hb⟩
        rw [xl, List.drop_length] at hb
        refine ⟨_, rfl, q _ H1 s1 ?_⟩
        rw [← hb]
        exact ⟨p', rfl, hT⟩
    · rw [eb, if_neg c40] at q
      rw [decide_eq_true (by omega)]
      exact iteT (q _ _ (Same.refl _) rfl)
end
end My
namespace My
open PySem PySem.Spec PyProof.Rows L2
def spIsIntJ : Sp := fun vs H Q _ => ∃ (v : V) (j : J) (n : Nat), vs = [v] ∧ RepJ H v j n ∧ Q (.bl (intJ j).isSome) H
def spLEnt : Sp := fun vs H Q _ => ∃ (p : Addr) (S : Sy) (s : Nat), vs = [.ref p, .int s] ∧ SysAt H p S ∧ Good S ∧ s ∈ S.st ∧ ∀ v H', Same H H' → OSysAt H' v (entL S s) → Q v H'
def spLBeh : Sp := fun vs H Q _ => ∃ (p t : Addr) (S : Sy) (xs : List V) (js : List J) (n : Nat), vs = [.ref p, .ref t] ∧ SysAt H p S ∧ Good S ∧ H t = some (.tup xs) ∧ Two (fun x j => RepJ H x j n) xs js ∧ ∀ v H', Same H H' → OSysAt H' v (behJ (some S) js) → Q v H'
section
variable {P : Program} {w : World} {K : PySem.W.Frag} {mg : Str → Option Value} {base : Heap} {tL tM tV : Tok}
theorem ok_isintJ {f : Addr} {fd : FuncData} (B : Bt K mg tL tM tV) (Dd : Df K mg "_law_is_integer" s__law_is_integer ["actual"] f fd) : FnOk P w K mg base CX0 1 f fd ["actual"] spIsIntJ := by
  refine Dd.F.ok sc__law_is_integer (fun vs H Q Ex h => ?_) (fun cdv A outer s H vs Q Ex hr h => ?_)
  · obtain ⟨v, j, n, rfl, _⟩ := h
    rfl
  obtain ⟨v, j, n, rfl, hj, q⟩ := h
  refine ⟨_, (pss_one (ps_ret (pe_and (pe_callB call_isi rfl B.b_isinstance boot_isinstance (pa_cons (pv 0) (pa_cons (pe_bltn (v := .ty "int") rfl B.b_int boot_int rfl) pa_nil))) (pe_one (pe_not (pe_callB call_isi rfl B.b_isinstance boot_isinstance (pa_cons (pv 0) (pa_cons (pe_bltn (v := .ty "bool") rfl B.b_bool boot_bool rfl) pa_nil)))))))), ?_⟩
  obtain ⟨t, T, k1, k2, _⟩ := RepJ.ty (K := K) hj
  refine ⟨_, rfl, _, _, _, _, _, rfl, .ty _, T, k1, _, rfl, ite2 (fun c => ⟨_, rfl, _, _, _, _, _, rfl, .ty _, T, k2, _, rfl, ?_⟩) (fun c => ?_)⟩
  · have e : (!isBlJ j) = (intJ j).isSome := by
      cases j <;> first | rfl | (cases c)
    rw [e]
    exact q
  · have e : (intJ j).isSome = isIntJ j := by
      cases j <;> first | rfl | (exact absurd rfl c)
    rw [e, eq_false_of_ne_true c] at q
    exact q
abbrev N__law_entered : List Str := ["system", "state", "inner", "orbit", "moves", "move"]
theorem sc__law_entered : FnScope ["system", "state", "inner", "orbit", "moves", "move"] ["system", "state"] (defScope s__law_entered) := ⟨rfl, rfl, rfl, by decide +kernel, rfl, by decide +kernel, by decide +kernel⟩
theorem ok_lentered {f : Addr} {fd : FuncData} (B : Bt K mg tL tM tV) (Dd : Df K mg "_law_entered" s__law_entered ["system", "state"] f fd) (G_law_cut : Cl P w K mg base 2 "_law_cut" ["system"] spCutOf) (G_law_orbit : Cl P w K mg base 3 "_law_orbit" ["system", "state"] spOrbitAt) (G_law_round : Cl P w K mg base 1 "_law_round" ["system", "orbit"] spRound) (G_law_gates : Cl P w K mg base 2 "_law_gates" ["system", "orbit"] spGatesOf) : FnOk P w K mg base CX0 4 f fd ["system", "state"] spLEnt := by
  refine Dd.F.ok sc__law_entered (fun vs H Q Ex h => ?_) (fun cdv A outer s H vs Q Ex hr h => ?_)
  · obtain ⟨p, S, s, rfl, _⟩ := h
    rfl
  obtain ⟨p, S, y, rfl, hS, hG, hys, q⟩ := h
  refine ⟨_, (pss_cons (ps_set (i := 2) sc__law_entered.nd rfl (Or.inl rfl) (pe_cl G_law_cut (hr.mono (by omega)) rfl (pa_cons (pv 0) pa_nil)))
    (pss_cons (ps_set (i := 3) sc__law_entered.nd rfl (Or.inr rfl) (pe_cl G_law_orbit (hr.mono (by omega)) rfl (pa_cons (pv 2) (pa_cons (pv 1) pa_nil))))
    (pss_cons (ps_if (pt_not (pt_val (pe_cl G_law_round (hr.mono (by omega)) rfl (pa_cons (pv 2) (pa_cons (pv 3) pa_nil))))) (pss_one (ps_ret pe_non)) pss_nil)
    (pss_cons (ps_set (i := 4) sc__law_entered.nd rfl (Or.inl rfl) (pe_callTy (r := rTupOf K) call_tuple_ofK rfl B.b_tuple boot_tuple (pa_cons (pe_lc (own := [("move", 5)]) (g := gName 5) rfl sc__law_entered.nd (pi_tup (pe_ix (r := rIxT K) ix_tup (pv 2) pe_int (fun _ _ => rfl))) (blkOk_by (N := N__law_entered) (sc := defScope s__law_entered) (by decide +kernel)) (fun _ _ _ _ _ => pg_name (i := 5) sc__law_entered.nd rfl (Or.inl rfl)) (fun _ _ _ _ _ => pts_one (PW.pt (pw_and (pt_cmpR (r := rInB K) (op_in_seqB rfl) (pe_ix (r := rIxT K) ix_tup (pv 5) pe_int (fun _ _ => rfl)) (pv 3) rfl) (pw_and1 (pt_cmpR (r := rInB K) (op_in_seqB rfl) (pe_ix (r := rIxT K) ix_tup (pv 5) pe_int (fun _ _ => rfl)) (pv 3) rfl))))) (fun _ _ _ _ _ => (pv 5))) pa_nil)))
    (pss_one (ps_ret (pe_tup (pa_cons (pv 3) (pa_cons (pv 4) (pa_cons (pe_cl G_law_gates (hr.mono (by omega)) rfl (pa_cons (pv 2) (pa_cons (pv 3) pa_nil))) pa_nil)))))))))), ?_⟩
  have hGc := cutS_good hG
  refine ⟨_, rfl, p, S, rfl, hS, hG, fun r H1 s1 hR => ?_⟩
  refine ⟨_, rfl, _, rfl, r, cutS S, y, rfl, hR, hGc, hys, fun o H2 s2 ho => ?_⟩
  have S2 := s1.trans s2
  have hR2 := hR.same s2
  have ol := orb_len hGc y
  refine ⟨_, rfl, _, rfl, r, o, cutS S, orbL (cutS S) y, rfl, hR2, hGc, ho, fun H3 s3 => ⟨_, rfl, ?_⟩⟩
  have S3 := S2.trans s3
  have ho3 := s3 _ _ ho
  refine ite2 (fun c => ?_) (fun c => ?_)
  · refine q _ _ S3 ?_
    have : roundB (cutS S) (orbL (cutS S) y) = false := by
      cases h : roundB (cutS S) (orbL (cutS S) y) with
      | false => rfl
      | true => rw [h] at c; cases c
    unfold entL
    rw [this]
    exact rfl
  have rt : roundB (cutS S) (orbL (cutS S) y) = true := by
    cases h : roundB (cutS S) (orbL (cutS S) y) with
    | true => rfl
    | false => rw [h] at c; exact absurd rfl c
  have hent : entL S y = some (innS (cutS S) (orbL (cutS S) y)) := if_pos rt
  have hR3 := hR2.same s3
  obtain ⟨a, b, c2, ts, h1, h2, h3, h4, h5⟩ := id hR3.ex
  have ml := hGc.ml
  generalize hT : cutS S = T at *
  generalize hO : orbL T y = orb at *
  refine ⟨_, rfl, r, _, 1, _, rfl, rfl, SqT.of h1, at_one, b, rfl, ⟨_, SqT.of h3⟩, fun M hM => ?_⟩
  refine lc_tup (K := K) (a := b) (xs := ts) (fun j H' => Same H3 H' ∧ ∃ ws : List V, H' M = some (.lst ws) ∧ Two (MoveAt H') ws ((T.mv.take j).filter fun m => decide (m.1 ∈ orb) && decide (m.2.2 ∈ orb))) ⟨same_upd hM, [], upd_same, .nil⟩ (fun i H' _ h => SqT.of (h.1 _ _ h3)) (fun j x H' hx h => ?_) (fun H' h => ?_)
  · obtain ⟨s3, ws, hws, two2⟩ := h
    obtain ⟨m, hm, hmv⟩ := h4.get hx
    obtain ⟨q1, rfl, ht⟩ := hmv.same s3
    have tk := take_snoc hm
    have ho1 := s3 _ _ ho3
    have wl : ws.length ≤ 1000 := by
      rw [two2.len]
      exact Nat.le_trans (List.length_filter_le _ _) (by rw [List.length_take]; omega)
    have yes : (decide (m.1 ∈ orb) && decide (m.2.2 ∈ orb)) = true → ∃ acc, H' M = some (.lst acc) ∧ acc.length < sizeLine ∧ Same H3 (upd H' M (.lst (acc ++ [V.ref q1]))) ∧ ∃ ws : List V, (upd H' M (.lst (acc ++ [V.ref q1]))) M = some (.lst ws) ∧ Two (MoveAt (upd H' M (.lst (acc ++ [V.ref q1])))) ws ((T.mv.take (j + 1)).filter fun m => decide (m.1 ∈ orb) && decide (m.2.2 ∈ orb)) := fun e => by
      refine ⟨ws, hws, Nat.lt_of_le_of_lt wl (by decide), fun b' o' hb' => by rw [upd_ne (ne_of_none hb' hM)]; exact s3 _ _ hb', _, upd_same, ?_⟩
      rw [tk, List.filter_append, List.filter_cons, if_pos e, List.filter_nil]
      have up : ∀ v m, MoveAt H' v m → MoveAt (upd H' M (.lst (ws ++ [V.ref q1]))) v m := fun v m h => by
        obtain ⟨t, e, h⟩ := h
        exact ⟨t, e, by rw [upd_ne fun e => by rw [e, hws] at h; cases h]; exact h⟩
      exact (two2.mono up).app (.cons (up _ _ ⟨q1, rfl, ht⟩) .nil)
    have no : ¬ (decide (m.1 ∈ orb) && decide (m.2.2 ∈ orb)) = true → Same H3 H' ∧ ∃ ws : List V, H' M = some (.lst ws) ∧ Two (MoveAt H') ws ((T.mv.take (j + 1)).filter fun m => decide (m.1 ∈ orb) && decide (m.2.2 ∈ orb)) := fun e => by
      refine ⟨s3, ws, hws, ?_⟩
      rw [tk, List.filter_append, List.filter_cons, if_neg e, List.filter_nil, List.append_nil]
      exact two2
    refine ⟨rfl, _, rfl, q1, _, 0, _, rfl, rfl, SqT.of ht, at_zero, _, rfl, o, _, rfl, .inr (SqT.of ho1), rfl, flat_nats _, _, rfl, ?_⟩
    show if inV (V.int (m.1 : Int)) (natsV orb) = true then _ else _
    rw [in_nats]
    refine ite2 (fun c1 => ?_) (fun c1 => iteF (no fun h => c1 (Bool.and_eq_true _ _ ▸ h).1))
    refine ⟨_, rfl, q1, _, 2, _, rfl, rfl, SqT.of ht, at_of (j := 2) rfl rfl, _, rfl, o, _, rfl, .inr (SqT.of ho1), rfl, flat_nats _, _, rfl, ?_⟩
    show if inV (V.int (m.2.2 : Int)) (natsV orb) = true then _ else _
    rw [in_nats]
    refine ite2 (fun c2 => ⟨_, rfl, yes (by rw [c1, c2]; rfl)⟩) (fun c2 => no fun h => c2 (Bool.and_eq_true _ _ ▸ h).2)
  · obtain ⟨s4, ws, hws, two2⟩ := h
    rw [h4.len, List.take_length] at two2
    refine ⟨M, _, rfl, .inl ⟨SqL.of hws, fun t2 ht2 => ?_⟩⟩
    have u5 := same_upd (o := .tup ws) ht2
    have s5 := s4.trans u5
    refine ⟨_, rfl, _, rfl, _, rfl, _, rfl, r, o, T, orb, rfl, hR3.same s5, hGc, s5 _ _ ho3, by omega, fun g H6 s6 hg => ?_⟩
    refine ⟨by show 3 ≤ sizeLine; decide, fun z hz => ?_⟩
    have u7 := same_upd (o := .tup [.ref o, .ref t2, .ref g]) hz
    have V6 := s6.trans u7
    have U := s5.trans V6
    refine q _ _ (S3.trans U) ?_
    rw [hent]
    exact ⟨z, rfl, o, t2, g, ws, upd_same, U _ _ ho3, V6 _ _ upd_same, (two2.mono fun v m (h : MoveAt H' v m) => h.same u5).mono fun v m (h : MoveAt _ v m) => h.same V6, u7 _ _ hg⟩
abbrev N__law_behind : List Str := ["system", "path", "state"]
theorem sc__law_behind : FnScope ["system", "path", "state"] ["system", "path"] (defScope s__law_behind) := ⟨rfl, rfl, rfl, by decide +kernel, rfl, by decide +kernel, by decide +kernel⟩
theorem ok_lbehind {f : Addr} {fd : FuncData} (B : Bt K mg tL tM tV) (Dd : Df K mg "_law_behind" s__law_behind ["system", "path"] f fd) (G_law_is_integer : Cl P w K mg base 1 "_law_is_integer" ["actual"] spIsIntJ) (G_law_entered : Cl P w K mg base 4 "_law_entered" ["system", "state"] spLEnt) : FnOk P w K mg base CX0 5 f fd ["system", "path"] spLBeh := by
  refine Dd.F.ok sc__law_behind (fun vs H Q Ex h => ?_) (fun cdv A outer s H vs Q Ex hr h => ?_)
  · obtain ⟨p, t, S, xs, js, n, rfl, _⟩ := h
    rfl
  obtain ⟨p, t, S, xs, js, n, rfl, hS, hG, ht, two, q⟩ := h
  refine ⟨_, (pss_cons (ps_for PassesOwn.never rfl (pi_tup (pv 1)) (pg_name (i := 2) sc__law_behind.nd rfl (Or.inl rfl)) (pss_one (ps_if (pt_cmpR op_notN (pv 0) pe_non (nomark _)) (pss_cons (ps_if (PW.pt (pw_or (pt_not (pt_val (pe_cl G_law_is_integer (hr.mono (by omega)) rfl (pa_cons (pv 2) pa_nil)))) (pw_or1 (pt_cmpR (r := rNotInB K) (op_notin_seqB rfl) (pv 2) (pe_ix (r := rIxT K) ix_tup (pv 0) pe_int (fun _ _ => rfl)) rfl)))) (pss_one (ps_ret pe_non)) pss_nil)
    (pss_one (ps_set (i := 0) sc__law_behind.nd rfl (Or.inl rfl) (pe_cl G_law_entered (hr.mono (by omega)) rfl (pa_cons (pv 0) (pa_cons (pv 2) pa_nil)))))) pss_nil)))
    (pss_one (ps_ret (pv 0)))), ?_⟩
  refine ⟨_, rfl, t, rfl, ⟨_, SqT.of ht⟩, for_tup (K := K) (a := t) (xs := xs) (fun i σ' H' => ∃ (v : V) (o2 : Option V) (cur : Option Sy), σ' = [some v, some (.ref t), o2] ∧ Same H H' ∧ OSysAt H' v cur ∧ (∀ T, cur = some T → Good T) ∧ behJ cur (js.drop i) = behJ (some S) js) ?_ ?_ ?_ ?_⟩
  · refine ⟨.ref p, none, some S, rfl, Same.refl _, ⟨p, rfl, hS⟩, fun T e => ?_, rfl⟩
    rw [← Option.some.inj e]
    exact hG
  · rintro i σ' H' _ ⟨v, o2, cur, rfl, s1, _⟩
    exact SqT.of (s1 _ _ ht)
  · rintro i x σ' H1 hx ⟨v, o2, cur, rfl, s1, hv, hg, hb⟩
    obtain ⟨j, hj, hr⟩ := two.get hx
    have hil := (List.getElem?_eq_some_iff.mp hj).1
    have hd : js.drop i = j :: js.drop (i + 1) := by
      rw [List.drop_eq_getElem_cons hil, (List.getElem?_eq_some_iff.mp hj).2]
    cases cur with
    | none =>
      obtain rfl : v = .non := hv
      refine ⟨_, rfl, rfl, _, rfl, iteF ⟨.non, _, none, rfl, s1, rfl, fun T e => (by cases e), ?_⟩⟩
      rw [behJ_none] at hb ⊢
      exact hb
    | some T =>
      obtain ⟨t1, rfl, hT⟩ := hv
      have hGT := hg T rfl
      refine ⟨_, rfl, rfl, _, rfl, iteT ?_⟩
      rw [hd] at hb
      have hb : (match intJ j with
        | some z => if 0 ≤ z ∧ z.toNat ∈ T.st then behJ (entL T z.toNat) (js.drop (i + 1)) else none
        | none => none) = behJ (some S) js := hb
      refine ⟨_, rfl, x, j, n, rfl, hr.same s1, _, rfl, ?_⟩
      cases hi : intJ j with
      | none =>
        rw [hi] at hb
        exact iteT (q _ _ s1 (by rw [← hb]; exact rfl))
      | some k =>
        rw [hi] at hb
        have hb : (if 0 ≤ k ∧ k.toNat ∈ T.st then behJ (entL T k.toNat) (js.drop (i + 1)) else none) = behJ (some S) js := hb
        obtain rfl : x = .int k := by
          cases j <;> cases hi
          cases hr
          rfl
        obtain ⟨a, b, c, ts, h1, h2, h3, h4, h5⟩ := id hT.ex
        refine iteF ⟨_, rfl, _, rfl, t1, _, 0, _, rfl, rfl, SqT.of h1, at_zero, a, _, rfl, .inr (SqT.of h2), rfl, flat_nats _, _, rfl, ?_⟩
        show if (!inV (V.int k) (natsV T.st)) = true then _ else _
        rw [in_natsI]
        by_cases c : 0 ≤ k ∧ k.toNat ∈ T.st
        · rw [decide_eq_true c]
          rw [if_pos c] at hb
          have e : k = ((k.toNat : Nat) : Int) := by omega
          refine iteF ⟨_, rfl, _, rfl, t1, T, k.toNat, by rw [← e]; rfl, hT, hGT, c.2, fun v2 H2 s2 hv2 => ?_⟩
          exact ⟨v2, some (.int k), _, rfl, s1.trans s2, hv2, fun T2 e2 => ent_good hGT c.2 e2, hb⟩
        · rw [decide_eq_false c]
          rw [if_neg c] at hb
          exact iteT (q _ _ s1 (by rw [← hb]; exact rfl))
  · rintro σ' H1 ⟨v, o2, cur, rfl, s1, hv, hg, hb⟩
    rw [two.len, List.drop_length] at hb
    refine ⟨_, rfl, q v H1 s1 ?_⟩
    rw [← hb]
    cases cur with
    | none => exact hv
    | some T => exact hv
end
end My
namespace My
open PySem PySem.Spec PyProof.Rows L2
def rCatB (K : PySem.W.Frag) : R2 := L2.rCatA K
theorem op_catAB {X : Cx} {K : PySem.W.Frag} (hK : X.K = K) : OpR X (binaryOp .Add) (rCatB K) := by
  subst hK
  exact L2.op_catA
theorem orbs_one_len {S : Sy} (G : Good S) : (orbsL S).length = 1 ↔ orbsL S = [S.st] := by
  constructor
  · intro h
    obtain ⟨r, hr⟩ := List.length_eq_one_iff.mp h
    obtain ⟨x, hx, e, _⟩ := orbsL_get (S := S) (o := r) (by rw [hr]; exact List.mem_singleton.mpr rfl)
    rw [hr]
    congr 1
    rw [e]
    refine List.filter_eq_self.mpr fun o ho => ?_
    obtain ⟨i, r2, hi, hm⟩ := orbs_mem ho
    have h2 := List.mem_of_getElem? hi
    rw [hr] at h2
    rw [List.mem_singleton.mp h2, e] at hm
    exact (List.mem_filter.mp hm).2
  · intro h
    rw [h]
    rfl
def spLStuck : Sp := spStuck
def WhyAt (H : Hp) (v : V) : Option Why → Prop
  | none => v = .non
  | some y => ∃ t, v = .ref t ∧ H t = some (.tup (whyV y))
def spLWhy : Sp := fun vs H Q _ => ∃ (p : Addr) (S : Sy), vs = [.ref p] ∧ SysAt H p S ∧ Good S ∧ ∀ v H', Same H H' → WhyAt H' v (whyL S) → Q v H'
/-- the ints of the tuple that a value is -/
def ksOf (H : Hp) : V → List Int
  | .ref a => match H a with
    | some (.tup xs) => xs.map fun v => match v with
      | V.int i => i
      | _ => 0
    | _ => []
  | _ => []
theorem ksOf_nats {H : Hp} {q : Addr} {row : List Nat} (h : H q = some (.tup (natsV row))) : ksOf H (.ref q) = toI row := by
  show (match H q with
    | some (.tup xs) => xs.map fun v => match v with
      | V.int i => i
      | _ => 0
    | _ => []) = _
  rw [h]
  show (natsV row).map _ = _
  unfold natsV toI
  rw [List.map_map]
  rfl
theorem toI_int (row : List Nat) : (toI row).map V.int = natsV row := by
  unfold toI natsV
  rw [List.map_map]
  rfl
abbrev RowAt (H : Hp) : V → List Nat → Prop := fun t row => ∃ q, t = V.ref q ∧ H q = some (.tup (natsV row))
/-- a rearrangement of the values goes with one of the rows -/
theorem two_perm {H : Hp} {ts ys : List V} {rows : List (List Nat)} (two : Two (RowAt H) ts rows) (hp : ys.Perm ts) : ∃ rows', rows'.Perm rows ∧ Two (RowAt H) ys rows' := by
  induction hp generalizing rows with
  | nil =>
    cases two
    exact ⟨[], .refl _, .nil⟩
  | cons x _ ih =>
    cases two with
    | cons h t =>
      obtain ⟨r, h1, h2⟩ := ih t
      exact ⟨_ :: r, h1.cons _, .cons h h2⟩
  | swap x y l =>
    cases two with
    | cons h t =>
      cases t with
      | cons h' t => exact ⟨_ :: _ :: _, .swap .., .cons h' (.cons h t)⟩
  | trans _ _ ih1 ih2 =>
    obtain ⟨r, h1, h2⟩ := ih2 two
    obtain ⟨r', h3, h4⟩ := ih1 h2
    exact ⟨r', h3.trans h1, h4⟩
theorem two_sorted {H : Hp} {ys : List V} {rows : List (List Nat)} (two : Two (RowAt H) ys rows) (hs : ys.Pairwise fun x y => HT.lexLt (ksOf H y) (ksOf H x) = false) : rows.Pairwise leP := by
  induction two with
  | nil => exact .nil
  | @cons a r as rs h t ih =>
    rw [List.pairwise_cons] at hs ⊢
    refine ⟨fun r2 h2 => ?_, ih hs.2⟩
    obtain ⟨i, hi⟩ := List.getElem?_of_mem h2
    have hlt := (List.getElem?_eq_some_iff.mp hi).1
    obtain ⟨x2, hx⟩ : ∃ x2, as[i]? = some x2 := by
      have : i < as.length := by rw [t.len]; exact hlt
      exact ⟨_, List.getElem?_eq_getElem this⟩
    have h3 := t.get2 hx hi
    have h4 := hs.1 _ (List.mem_of_getElem? hx)
    obtain ⟨q1, e1, g1⟩ := h
    obtain ⟨q2, e2, g2⟩ := h3
    rw [e2, ksOf_nats g2, e1, ksOf_nats g1] at h4
    exact h4
noncomputable def gN (i : Nat) (x : Nd) : List Nd := if x.1.length = i then kidsN x else []
theorem flat_gN {S : Sy} : ∀ (i : Nat), (upN i [([], S)]).flatMap (gN i) = levL (i + 1) [([], S)]
  | 0 => by
    show (gN 0 ([], S)) ++ [] = levL 1 [([], S)]
    rw [List.append_nil, levL_succ]
    show kidsN ([], S) = kidsN ([], S) ++ []
    rw [List.append_nil]
  | i + 1 => by
    rw [upN_succ, List.flatMap_append, levL_succ (i + 1)]
    have e1 : (upN i [([], S)]).flatMap (gN (i + 1)) = [] := by
      rw [List.flatMap_eq_nil_iff]
      intro x hx
      have := up_len i x hx
      exact if_neg (by omega)
    rw [e1, List.nil_append, List.flatMap_def, List.flatMap_def]
    congr 1
    exact List.map_congr_left fun x hx => if_pos (lev_len _ x hx)
theorem up_count {S : Sy} (G : Good S) : (upN (S.mv.length + 1) [([], S)]).length ≤ 40000 := by
  rw [(up_all G).length_eq]
  exact preS_count G
theorem up_mono {S : Sy} : ∀ (d i : Nat), (upN i [([], S)]).length ≤ (upN (i + d) [([], S)]).length
  | 0, i => Nat.le_refl _
  | d + 1, i => by
    have := up_mono (S := S) d i
    rw [← Nat.add_assoc, upN_succ, List.length_append]
    omega
theorem up_le {S : Sy} (G : Good S) {i : Nat} (h : i ≤ S.mv.length + 1) : (upN i [([], S)]).length ≤ 40000 := by
  have := up_mono (S := S) (S.mv.length + 1 - i) i
  rw [Nat.add_sub_cancel' h] at this
  exact Nat.le_trans this (up_count G)
theorem kidsN_eq {p : List Nat} {T : Sy} (h : stuckB T = false) : (kidsN (p, T)).map (·.1) = (kidsO (cutS T)).map fun o => p ++ [o.headD 0] := by
  unfold kidsN kidsL
  rw [if_neg (by rw [h]; exact Bool.false_ne_true), List.map_map, List.map_map]
  rfl
theorem pathJ_two {H : Hp} : ∀ row : List Nat, Two (fun x j => RepJ H x j 0) (natsV row) (pathJ row)
  | [] => .nil
  | x :: xs => .cons (.int _) (pathJ_two xs)
section
variable {P : Program} {w : World} {K : PySem.W.Frag} {mg : Str → Option Value} {base : Heap} {tL tM tV : Tok}
theorem catB_of {H : Hp} {a b : Addr} {xs ys : List V} {Q : VK} (ha : H a = some (.tup xs)) (hb : H b = some (.tup ys)) (hz : xs.length + ys.length ≤ sizeLine) (k : ∀ p H', Same H H' → H' p = some (.tup (xs ++ ys)) → Q (.ref p) H') : rCatB K (.ref a) (.ref b) H Q := catA_of ha hb hz k
abbrev N__law_stuck : List Str := ["system"]
theorem sc__law_stuck : FnScope ["system"] ["system"] (defScope s__law_stuck) := ⟨rfl, rfl, rfl, by decide +kernel, rfl, by decide +kernel, by decide +kernel⟩
theorem ok_lstuck {f : Addr} {fd : FuncData} (B : Bt K mg tL tM tV) (Dd : Df K mg "_law_stuck" s__law_stuck ["system"] f fd) (G_law_orbits : Cl P w K mg base 2 "_law_orbits" ["system"] spOrbitsOf) (G_law_round : Cl P w K mg base 1 "_law_round" ["system", "orbit"] spRound) (G_law_consistent : Cl P w K mg base 1 "_law_consistent" ["system"] spConsOf) : FnOk P w K mg base CX0 3 f fd ["system"] spStuck := by
  refine Dd.F.ok sc__law_stuck (fun vs H Q Ex h => ?_) (fun cdv A outer s H vs Q Ex hr h => ?_)
  · obtain ⟨p, S, rfl, _⟩ := h
    rfl
  obtain ⟨p, S, rfl, hS, hG, q⟩ := h
  refine ⟨_, (pss_one (ps_ret (pe_and (pe_cmpR op_eq (pe_callB call_len rfl B.b_len boot_len (pa_cons (pe_cl G_law_orbits (hr.mono (by omega)) rfl (pa_cons (pv 0) pa_nil)) pa_nil)) pe_int (nomark _)) (pe_and (pe_cl G_law_round (hr.mono (by omega)) rfl (pa_cons (pv 0) (pa_cons (pe_ix (r := rIxT K) ix_tup (pv 0) pe_int (fun _ _ => rfl)) pa_nil))) (pe_one (pe_cmpR (op_eqD (u64 hr)) (pe_cl G_law_consistent (hr.mono (by omega)) rfl (pa_cons (pv 0) pa_nil)) (pe_tup pa_nil) (nomark _))))))), ?_⟩
  obtain ⟨a, b, c, ts, h1, h2, h3, h4, h5⟩ := hS.ex
  refine ⟨_, rfl, p, S, rfl, hS, hG, fun R H1 s1 hR0 hRT => ?_⟩
  obtain ⟨rs, hrs, two⟩ := hRT
  refine ⟨_, (orbsL S).length, rfl, .inl ⟨_, SqL.of hrs, by rw [two.len]⟩, ?_⟩
  have e1 : decide (V.int (((orbsL S).length : Nat) : Int) = V.int 1) = decide (orbsL S = [S.st]) := by
    refine decide_eq_decide.mpr ⟨fun h => (orbs_one_len hG).mp (by have := V.int.inj h; omega), fun h => by rw [(orbs_one_len hG).mpr h]; rfl⟩
  refine ⟨rfl, _, rfl, ?_⟩
  rw [e1]
  have e0 : stuckB S = (decide (orbsL S = [S.st]) && (roundB S S.st && decide (consL S = []))) := rfl
  refine ite2 (fun c1 => ?_) (fun c1 => ?_)
  · refine ⟨_, rfl, _, rfl, p, _, 0, _, rfl, rfl, SqT.of (s1 _ _ h1), at_zero, p, a, S, S.st, rfl, hS.same s1, hG, s1 _ _ h2, fun H3 s3 => ?_⟩
    have S2 := s1
    refine ⟨_, rfl, ite2 (fun c2 => ?_) (fun c2 => ?_)⟩
    · refine ⟨_, rfl, p, S, rfl, hS.same (S2.trans s3), hG, fun t H4 s4 hx => ?_⟩
      refine ⟨by show 0 ≤ sizeLine; decide, fun z hz => ?_⟩
      have u4 := same_upd (o := .tup []) hz
      refine ⟨_, _, dp_exs (hx.same u4), .tup (SqT.of upd_same) .nil, exDs_shaped cons_le, by decide, ?_⟩
      have e1 := exT_eqv (consL S) []
      have e2 : PyData.eqv (.tuple ((consL S).map exD)) (.tuple []) = decide (consL S = []) := e1
      rw [e2]
      have := q _ (S2.trans (s3.trans (s4.trans u4)))
      rw [e0, c1, c2, Bool.true_and, Bool.true_and] at this
      exact this
    · have := q _ (S2.trans s3)
      rw [e0, c1, eq_false_of_ne_true c2, Bool.true_and, Bool.false_and] at this
      exact this
  · have := q _ s1
    rw [e0, eq_false_of_ne_true c1, Bool.false_and] at this
    exact this
end
end My
namespace My
open PySem PySem.Spec PyProof.Rows L2
/-! ### smooth systems and what is inward of them -/
theorem stuck_cut {S : Sy} (h : consL S = []) : cutS S = S := by
  unfold cutS
  have e : (S.mv.filter fun m => decide (m.1 ∉ S.ac) || decide (m.2.1 ∉ (consL S).map (·.1))) = S.mv := by
    refine List.filter_eq_self.mpr fun m _ => ?_
    rw [h]
    simp
  rw [e]
theorem stuck_of {S : Sy} (h : stuckB S = true) : orbsL S = [S.st] ∧ roundB S S.st = true ∧ consL S = [] := by
  unfold stuckB at h
  obtain ⟨h1, h2⟩ := (Bool.and_eq_true _ _ ▸ h : _ ∧ _)
  obtain ⟨h3, h4⟩ := (Bool.and_eq_true _ _ ▸ h2 : _ ∧ _)
  exact ⟨of_decide_eq_true h1, h3, of_decide_eq_true h4⟩
theorem stuck_inn {S : Sy} (G : Good S) (h : stuckB S = true) : ∀ o ∈ orbsL (cutS S), innS (cutS S) o = S := by
  obtain ⟨h1, h2, h3⟩ := stuck_of h
  rw [stuck_cut h3, h1]
  intro o ho
  rw [List.mem_singleton.mp ho]
  obtain ⟨st, mv, ac⟩ := S
  show Sy.mk st (mv.filter _) (gatesL _ st) = Sy.mk st mv ac
  have e1 : (mv.filter fun m => decide (m.1 ∈ st) && decide (m.2.2 ∈ st)) = mv := List.filter_eq_self.mpr fun m hm => by
    have := G.min m hm
    rw [decide_eq_true this.1, decide_eq_true this.2.1]
    rfl
  have e2 : gatesL ⟨st, mv, ac⟩ st = ac := by
    refine rise_ext _ _ (G.rise.sublist List.filter_sublist) G.arise fun x => ?_
    constructor
    · intro hx
      obtain ⟨_, h2⟩ := List.mem_filter.mp hx
      rcases Bool.or_eq_true _ _ ▸ h2 with h | h
      · exact of_decide_eq_true h
      · have : exitsL ⟨st, mv, ac⟩ st x = [] := by
          unfold exitsL
          rw [List.map_eq_nil_iff, List.filter_eq_nil_iff]
          intro m hm h
          exact (of_decide_eq_true h).2 (G.min m hm).2.1
        rw [this] at h
        cases h
    · intro hx
      exact List.mem_filter.mpr ⟨G.asub x hx, by rw [decide_eq_true (show x ∈ (Sy.mk st mv ac).ac from hx), Bool.true_or]⟩
  rw [e1, e2]
noncomputable def smoothB (S : Sy) : Bool := (reasonL S).isNone
theorem smooth_iff {S : Sy} : smoothB S = true ↔ ∀ x ∈ preS ([], S), whyL x.2 = none := by
  unfold smoothB reasonL firstL'
  rw [Option.isNone_iff_eq_none, List.findSome?_eq_none_iff]
  refine forall_congr' fun x => forall_congr' fun _ => ?_
  exact Option.map_eq_none_iff
theorem pre_shift : ∀ (n : Nat) (p q : List Nat) (S : Sy), pre n (p ++ q) S = (pre n q S).map fun x => (p ++ x.1, x.2)
  | 0, p, q, S => rfl
  | n + 1, p, q, S => by
    show (p ++ q, S) :: (kidsL S).flatMap (fun k => pre n (p ++ q ++ [k.1]) k.2) = (p ++ q, S) :: ((kidsL S).flatMap fun k => pre n (q ++ [k.1]) k.2).map _
    congr 1
    rw [List.map_flatMap, List.flatMap_def, List.flatMap_def]
    congr 1
    refine List.map_congr_left fun k _ => ?_
    rw [List.append_assoc, pre_shift n p (q ++ [k.1])]
theorem preS_shift (p : List Nat) (S : Sy) : preS (p, S) = (preS ([], S)).map fun x => (p ++ x.1, x.2) := by
  have := pre_shift (sizeS S) p [] S
  rw [List.append_nil] at this
  exact this
theorem smooth_kids {S : Sy} (G : Good S) : smoothB S = true ↔ whyL S = none ∧ ∀ k ∈ kidsL S, smoothB k.2 = true := by
  rw [smooth_iff, preS_eq G]
  constructor
  · intro h
    refine ⟨h _ (List.mem_cons_self ..), fun k hk => smooth_iff.mpr fun x hx => ?_⟩
    refine h ([k.1] ++ x.1, x.2) (List.mem_cons_of_mem _ (List.mem_flatMap.mpr ⟨k, hk, ?_⟩))
    rw [List.nil_append, preS_shift]
    exact List.mem_map_of_mem hx
  · rintro ⟨h1, h2⟩ x hx
    rcases List.mem_cons.mp hx with rfl | hx
    · exact h1
    · obtain ⟨k, hk, hx⟩ := List.mem_flatMap.mp hx
      rw [preS_shift] at hx
      obtain ⟨y, hy, rfl⟩ := List.mem_map.mp hx
      exact smooth_iff.mp (h2 k hk) y hy
noncomputable def dueTo (S : Sy) (i : Nat) : Bool := (!stuckB S && (unlL (cutS S)).isNone) && ((orbsL (cutS S)).take i).all fun o => !roundB (cutS S) o || (stuckB S || smoothB (innS (cutS S) o))
theorem dueTo_all {S : Sy} (G : Good S) : dueTo S (orbsL (cutS S)).length = smoothB S := by
  unfold dueTo
  rw [List.take_length, Bool.eq_iff_iff, smooth_kids G]
  cases hs : stuckB S with
  | true =>
    have : whyL S = some none := if_pos hs
    rw [this]
    simp
  | false =>
    have hw : whyL S = (unlL (cutS S)).map some := if_neg (by rw [hs]; exact Bool.false_ne_true)
    have hk : kidsL S = (kidsO (cutS S)).map fun o => (o.headD 0, innS (cutS S) o) := if_neg (by rw [hs]; exact Bool.false_ne_true)
    rw [hw, hk, Option.map_eq_none_iff]
    simp only [Bool.not_false, Bool.true_and, Bool.false_or, Bool.and_eq_true, Option.isNone_iff_eq_none, List.all_eq_true, Bool.or_eq_true, Bool.not_eq_true']
    refine and_congr_right fun _ => ?_
    constructor
    · intro h k hk
      obtain ⟨o, ho, rfl⟩ := List.mem_map.mp hk
      obtain ⟨h1, h2⟩ := List.mem_filter.mp ho
      rcases h o h1 with h | h
      · rw [h] at h2
        cases h2
      · exact h
    · intro h o ho
      cases hr : roundB (cutS S) o with
      | false => exact .inl rfl
      | true => exact .inr (h _ (List.mem_map.mpr ⟨o, List.mem_filter.mpr ⟨ho, hr⟩, rfl⟩))
theorem walk_in {S : Sy} (G : Good S) : ∀ x ∈ preS ([], S), ∀ y ∈ preS x, y ∈ preS ([], S) := fun x hx => by
  refine (walk_ind (M := fun x => ∀ y ∈ preS x, y ∈ preS ([], S)) G (fun y hy => hy) (fun p T GT h k hk y hy => h y (preS_kid GT hk hy)) x hx).1
theorem walk_on {S : Sy} (G : Good S) {p : List Nat} {T : Sy} (h : (p, T) ∈ preS ([], S)) {y : Nd} (hy : y ∈ preS ([], T)) : (p ++ y.1, y.2) ∈ preS ([], S) := by
  refine walk_in G _ h _ ?_
  rw [preS_shift]
  exact List.mem_map_of_mem hy
theorem smooth_in {S : Sy} (G : Good S) (hs : smoothB S = true) {x : Nd} (hx : x ∈ preS ([], S)) : smoothB x.2 = true :=
  smooth_iff.mpr fun y hy => by
    have := smooth_iff.mp hs _ (walk_on G (p := x.1) (T := x.2) hx hy)
    exact this
theorem four : ∀ (xs : List Nat) (ms : List Mv), ms.Pairwise (fun m n => m.1 < n.1 ∨ (m.1 = n.1 ∧ m.2.1 < n.2.1)) → (∀ m ∈ ms, m.1 ∈ xs ∧ 97 ≤ m.2.1 ∧ m.2.1 ≤ 100) → ms.length ≤ 4 * xs.length
  | [], ms, _, h => by
    cases ms with
    | nil => exact Nat.le_refl _
    | cons m ms => exact absurd (h m (List.mem_cons_self ..)).1 (by simp)
  | x :: xs, ms, hp, h => by
    have h1 := four xs (ms.filter fun m => !decide (m.1 = x)) (hp.sublist List.filter_sublist) fun m hm => by
      obtain ⟨h1, h2⟩ := List.mem_filter.mp hm
      have h3 := h m h1
      have h4 : ¬ m.1 = x := fun e => by rw [decide_eq_true e] at h2; cases h2
      refine ⟨?_, h3.2⟩
      rcases List.mem_cons.mp h3.1 with h | h
      · exact absurd h h4
      · exact h
    have h2 : (ms.filter fun m => decide (m.1 = x)).length ≤ 4 := by
      have := rise_short ((ms.filter fun m => decide (m.1 = x)).map (·.2.1)) 97 101 ?_ ?_
      · rw [List.length_map] at this
        exact this
      · rw [List.pairwise_map]
        refine (hp.sublist (List.filter_sublist (p := fun m : Mv => decide (m.1 = x)))).imp_of_mem fun {a b} ha hb h => ?_
        have e1 := of_decide_eq_true (List.mem_filter.mp ha).2
        have e2 := of_decide_eq_true (List.mem_filter.mp hb).2
        omega
      · intro c hc
        obtain ⟨m, hm, rfl⟩ := List.mem_map.mp hc
        have := h m (List.mem_filter.mp hm).1
        omega
    have h3 : (ms.filter fun m => decide (m.1 = x)).length + (ms.filter fun m => !decide (m.1 = x)).length = ms.length := by
      rw [← List.countP_eq_length_filter, ← List.countP_eq_length_filter]
      have := List.length_eq_countP_add_countP (fun m : Mv => decide (m.1 = x)) (l := ms)
      rw [this]
      congr 1
      refine List.countP_congr fun m _ => ?_
      simp
    rw [List.length_cons]
    omega
theorem mv_four {S : Sy} (G : Good S) : S.mv.length ≤ 4 * S.st.length := four S.st S.mv G.mrise fun m hm => ⟨(G.min m hm).1, (G.min m hm).2.2⟩
/-! ### systems as data -/
def mvD (m : Mv) : PyData := .tuple [.int (m.1 : Int), .str ⟨#[m.2.1]⟩, .int (m.2.2 : Int)]
def sysD (S : Sy) : PyData := .tuple [.tuple (psd S.st), .tuple (S.mv.map mvD), .tuple (psd S.ac)]
theorem mvs_lay : ∀ ms : List Mv, (∀ m ∈ ms, m.2.1 ≤ 100) → PyData.canLayAll0 (ms.map mvD) = true
  | [], _ => by simp [PyData.canLayAll0]
  | m :: ms, h => by
    have ih := mvs_lay ms fun x hx => h x (List.mem_cons_of_mem _ hx)
    have h1 := one_ok (h m (List.mem_cons_self ..))
    simp [PyData.canLayAll0, PyData.canLay0, mvD] at ih ⊢
    exact ⟨h1, ih⟩
theorem mvs_dep : ∀ ms : List Mv, PyData.depthAll (ms.map mvD) ≤ 1
  | [] => by simp [PyData.depthAll]
  | m :: ms => by
    have ih := mvs_dep ms
    have h1 : (mvD m).depth = 1 := by simp [mvD, PyData.depth, PyData.depthAll]
    simp only [List.map_cons, PyData.depthAll, h1]
    omega
theorem sys_shaped {S : Sy} (G : Good S) : SeqAt.shaped (sysD S) = true := by
  show (PyData.canLay0 (sysD S) && decide (PyData.depth (sysD S) ≤ 64)) = true
  have l1 := mvs_lay S.mv fun m hm => (G.min m hm).2.2.2
  have l2 := psd_lay S.st
  have l3 := psd_lay S.ac
  have d1 := mvs_dep S.mv
  have d2 := psd_dep S.st
  have d3 := psd_dep S.ac
  have h1 : PyData.canLay0 (sysD S) = true := by
    simp [sysD, PyData.canLay0, PyData.canLayAll0] at l1 l2 l3 ⊢
    exact ⟨l2, l1, l3⟩
  have h2 : PyData.depth (sysD S) ≤ 64 := by
    simp only [sysD, PyData.depth, PyData.depthAll, d2, d3]
    omega
  rw [h1, Bool.true_and]
  exact decide_eq_true h2
theorem dp_sys {K : PySem.W.Frag} {H : Hp} {p : Addr} {S : Sy} (h : SysAt H p S) : Dp K H (.ref p) (sysD S) := by
  obtain ⟨a, b, c, ts, h1, h2, h3, h4, h5⟩ := h.ex
  refine .tup (SqT.of h1) (.cons (.tup (SqT.of h2) (dpAll_ints _)) (.cons (.tup (SqT.of h3) ?_) (.cons (.tup (SqT.of h5) (dpAll_ints _)) .nil)))
  clear h1 h2 h3 h5
  generalize S.mv = ms at h4
  induction h4 with
  | nil => exact .nil
  | cons h _ ih =>
    obtain ⟨t, rfl, ht⟩ := h
    exact .cons (.tup (SqT.of ht) (.cons (.int _) (.cons (.str _) (.cons (.int _) .nil)))) ih
theorem sys_refl {S : Sy} (G : Good S) : PyData.eqv (sysD S) (sysD S) = true := by
  have h := sys_shaped G
  exact SeqAt.eqv_refl _ (Bool.and_eq_true _ _ ▸ (show (PyData.canLay0 (sysD S) && decide (PyData.depth (sysD S) ≤ 64)) = true from h) : _ ∧ _).1
end My
namespace My
open PySem PySem.Spec PyProof.Rows L2
theorem pi_listB {X : Cx} {K : PySem.W.Frag} {tg it : Expr} {ta : TE} (hK : X.K = K) (ha : PE X it ta) : PI X tg it (iList K ta) := by
  subst hK
  exact pi_list ha
theorem pi_tupB {X : Cx} {K : PySem.W.Frag} {tg it : Expr} {ta : TE} (hK : X.K = K) (ha : PE X it ta) : PI X tg it (iTup K ta) := by
  subst hK
  exact pi_tup ha
def spLaw (K : PySem.W.Frag) : Sp := fun vs H Q _ => ∃ (s : Addr) (ns : List Int), vs = [.ref s] ∧ SqL K H s (ns.map V.int) ∧ ns.length ≤ 63 ∧ ∀ H', Q (.bl true) H'
theorem repJ_lst {H : Hp} {p : Addr} {xs : List V} {js : List J} {n : Nat} (h : H p = some (.lst xs)) (z : xs.length ≤ 100000) (two : Two (fun x j => RepJ H x j n) xs js) : RepJ H (.ref p) (.lst js) (n + 1) := .lst h z two.len fun _ _ _ hx hj => two.get2 hx hj
theorem two_mapM {α β γ : Type} {R : α → β → Prop} {T : α → γ → Prop} {g : β → γ} {as : List α} {bs : List β} (h : Two R as bs) (k : ∀ a b, b ∈ bs → R a b → T a (g b)) : Two T as (bs.map g) := by
  induction h with
  | nil => exact .nil
  | cons h _ ih => exact .cons (k _ _ (List.mem_cons_self ..) h) (ih fun a b hb => k a b (List.mem_cons_of_mem _ hb))
def natJ (xs : List Nat) : J := .tup (xs.map fun (i : Nat) => J.int (i : Int))
theorem natJ_rep {H : Hp} {t : Addr} {xs : List Nat} (h : H t = some (.tup (natsV xs))) (hl : xs.length ≤ 1000) : RepJ H (.ref t) (natJ xs) 1 := repJ_two h (by rw [natsV_len]; omega) (two_nats _)
def sysJ (S : Sy) : J := .tup [.tup (S.st.map fun (i : Nat) => J.int (i : Int)), .tup (S.mv.map fun m => .tup [.int (m.1 : Int), .str ⟨#[m.2.1]⟩, .int (m.2.2 : Int)]), .tup (S.ac.map fun (i : Nat) => J.int (i : Int))]
theorem sysJ_rep {H : Hp} {p : Addr} {S : Sy} (h : SysAt H p S) (G : Good S) : RepJ H (.ref p) (sysJ S) 3 := by
  obtain ⟨a, b, c, ts, h1, h2, h3, h4, h5⟩ := h.ex
  have sl := G.len
  have al := G.alen
  have ml := G.ml
  refine repJ_two h1 (by show 3 ≤ 100000; decide) (.cons (repJ_two h2 (by rw [natsV_len]; omega) (two_nats _)) (.cons (repJ_two h3 (by rw [h4.len]; omega) (two_mapM h4 fun v m _ h => ?_)) (.cons (repJ_two h5 (by rw [natsV_len]; omega) (two_nats _)) .nil)))
  obtain ⟨q, rfl, h⟩ := h
  exact repJ_two h (by show 3 ≤ 100000; decide) (.cons (.int _) (.cons (.str _) (.cons (.int _) .nil)))
theorem rowsJ_rep {H : Hp} {R : Addr} {rows : List (List Nat)} (h : RowsTu H R rows) (hl : rows.length ≤ 100000) (hr : ∀ r ∈ rows, r.length ≤ 1000) : RepJ H (.ref R) (.lst (rows.map natJ)) 2 := by
  obtain ⟨ts, h1, two⟩ := h
  refine repJ_lst h1 (by rw [two.len]; omega) (two_mapM two fun v r hm h => ?_)
  obtain ⟨q, rfl, h⟩ := h
  exact natJ_rep h (hr r hm)
def unlJ : Option (Nat × Nat) → J
  | none => .non
  | some x => .tup [.int (x.1 : Int), .int (x.2 : Int)]
theorem unlJ_rep {H : Hp} {v : V} {x : Option (Nat × Nat)} (h : UnlAt H v x) : RepJ H v (unlJ x) 1 := by
  cases x with
  | none =>
    obtain rfl : v = .non := h
    exact .non
  | some x =>
    obtain ⟨t, rfl, h⟩ := h
    exact repJ_two h (by show 2 ≤ 100000; decide) (.cons (.int _) (.cons (.int _) .nil))
def whyJ : Why → J
  | none => .tup [.str "stuck"]
  | some x => .tup [.str "gates", .int (x.1 : Int), .int (x.2 : Int)]
def reasonJ : Option (List Nat × Why) → J
  | none => .non
  | some x => .tup [natJ x.1, whyJ x.2]
theorem reasonJ_rep {H : Hp} {v : V} {x : Option (List Nat × Why)} (h : ReasonAt H v x) (hl : ∀ y, x = some y → y.1.length ≤ 1000) : RepJ H v (reasonJ x) 2 := by
  cases x with
  | none =>
    obtain rfl : v = .non := h
    exact .non
  | some x =>
    obtain ⟨t, a, b, rfl, h, ha, hb⟩ := h
    refine repJ_two h (by show 2 ≤ 100000; decide) (.cons (natJ_rep ha (hl x rfl)) (.cons ?_ .nil))
    obtain ⟨p, y⟩ := x
    cases y with
    | none => exact repJ_two hb (by show 1 ≤ 100000; decide) (.cons (.str _) .nil)
    | some y => exact repJ_two hb (by show 3 ≤ 100000; decide) (.cons (.str _) (.cons (.int _) (.cons (.int _) .nil)))
theorem walk_sub {S : Sy} (G : Good S) : ∀ x ∈ preS ([], S), (∀ y ∈ x.1, y ∈ S.st) ∧ ∀ y ∈ x.2.st, y ∈ S.st := fun x hx => by
  refine (walk_ind (M := fun x => (∀ y ∈ x.1, y ∈ S.st) ∧ ∀ y ∈ x.2.st, y ∈ S.st) G ⟨fun y h => (by cases h), fun y h => h⟩ (fun p T GT h k hk => ?_) x hx).1
  obtain ⟨_, z, hz, _, _, _, rfl⟩ := kid_of hk
  refine ⟨fun y hy => ?_, fun y hy => h.2 y (mem_orb.mp hy).1⟩
  rcases List.mem_append.mp hy with hy | hy
  · exact h.1 y hy
  · rw [List.mem_singleton.mp hy]
    exact h.2 z hz
theorem unl_same {H H' : Hp} {v : V} {x : Option (Nat × Nat)} (s : Same H H') (h : UnlAt H v x) : UnlAt H' v x := by
  cases x with
  | none => exact h
  | some x =>
    obtain ⟨t, e, h⟩ := h
    exact ⟨t, e, s _ _ h⟩
theorem rsn_same {H H' : Hp} {v : V} {x : Option (List Nat × Why)} (s : Same H H') (h : ReasonAt H v x) : ReasonAt H' v x := by
  cases x with
  | none => exact h
  | some x =>
    obtain ⟨t, a, b, e, h1, h2, h3⟩ := h
    exact ⟨t, a, b, e, s _ _ h1, s _ _ h2, s _ _ h3⟩
theorem fs_some {α β : Type} {l : List α} {f : α → Option β} {r : β} (h : l.findSome? f = some r) : ∃ x ∈ l, f x = some r := List.exists_of_findSome?_eq_some h
theorem unl_mem {S : Sy} {x : Nat × Nat} (h : unlL S = some x) : x.1 ∈ S.st ∧ x.2 ∈ S.st := by
  obtain ⟨o, ho, h1⟩ := fs_some h
  obtain ⟨z, hz, rfl, _⟩ := orbsL_get ho
  obtain ⟨j, hj, h2⟩ := fs_some h1
  obtain ⟨y, hy, h3⟩ := fs_some h2
  unfold pairF at h3
  split at h3
  · cases h3
  · have e := Option.some.inj h3
    have hj := List.mem_range.mp hj
    have m1 : (gatesL S (orbL S z)).getD j 0 ∈ gatesL S (orbL S z) := by
      rw [List.getD_eq_getElem?_getD, List.getElem?_eq_getElem hj]
      exact List.getElem_mem hj
    have sub : ∀ y ∈ gatesL S (orbL S z), y ∈ S.st := fun y hy => (mem_orb.mp (List.mem_filter.mp hy).1).1
    rw [← e]
    exact ⟨sub _ m1, sub _ (List.mem_of_mem_drop hy)⟩
theorem reason_mem {S : Sy} (G : Good S) {y : List Nat × Why} (h : reasonL S = some y) : y.1.length ≤ 1000 ∧ (∀ x ∈ y.1, x ∈ S.st) ∧ ∀ z, y.2 = some z → z.1 ∈ S.st ∧ z.2 ∈ S.st := by
  obtain ⟨nd, hn, h1⟩ := fs_some h
  have h2 := walk_sub G nd hn
  have h3 := path_len G nd hn
  have h4 := size_le G
  obtain ⟨z, hz, e⟩ := Option.map_eq_some_iff.mp h1
  rw [← e]
  refine ⟨by show nd.1.length ≤ 1000; omega, h2.1, fun u hu => ?_⟩
  have hu : z = some u := hu
  rw [hu] at hz
  unfold whyL at hz
  split at hz
  · cases hz
  · obtain ⟨u2, hu2, e2⟩ := Option.map_eq_some_iff.mp hz
    rw [← Option.some.inj e2]
    have := unl_mem hu2
    exact ⟨h2.2 _ this.1, h2.2 _ this.2⟩
end My
namespace My
open PySem PySem.Spec PyProof.Rows L2
/-- a scalar whose text, if it is one, is well formed -/
def okJ : J → Bool
  | .non => true
  | .bl _ => true
  | .int _ => true
  | .str z => (PyData.str z).canLay0
  | _ => false
noncomputable def unlB (T : Sy) (x y : Nat) : Bool := decide (x ∈ gatesL (cutS T) (orbL (cutS T) x)) && (decide (y ∈ gatesL (cutS T) (orbL (cutS T) x)) && !alikeB (cutS T) (orbL (cutS T) x) x y)
noncomputable def unlikeJ (T : Sy) (a b : J) : Bool := match intJ a, intJ b with
  | some i, some k => decide (0 ≤ i ∧ i.toNat ∈ T.st) && (decide (0 ≤ k ∧ k.toNat ∈ T.st) && unlB T i.toNat k.toNat)
  | _, _ => false
def wordJ (z : Str) : J → Bool
  | .str y => decide (y = z)
  | _ => false
noncomputable def whyB (T : Sy) (js : List J) : Bool := match js with
  | [a] => wordJ "stuck" a && stuckB T
  | [a, b, c] => wordJ "gates" a && unlikeJ T b c
  | _ => false
noncomputable def accJ (S : Sy) (j : J) : Bool := match tupJ j with
  | some [jp, jt] => match behV S jp with
    | some T => match tupJ jt with
      | some js => whyB T js
      | none => false
    | none => false
  | _ => false
/-- the trouble of a pair is of scalars -/
def FlatR (j : J) : Prop := ∀ jp js, j = .tup [jp, .tup js] → ∀ x ∈ js, okJ x = true
def spUnlikeJ : Sp := fun vs H Q _ => ∃ (p : Addr) (u v : V) (S : Sy) (a b : J) (n m : Nat), vs = [.ref p, u, v] ∧ SysAt H p S ∧ Good S ∧ RepJ H u a n ∧ RepJ H v b m ∧ ∀ H', Same H H' → Q (.bl (unlikeJ S a b)) H'
def spAccJ : Sp := fun vs H Q _ => ∃ (p : Addr) (v : V) (S : Sy) (j : J) (n : Nat), vs = [.ref p, v] ∧ SysAt H p S ∧ Good S ∧ RepJ H v j n ∧ FlatR j ∧ ∀ H', Same H H' → Q (.bl (accJ S j)) H'
theorem scal_str {H : Hp} {v : V} {j : J} {n : Nat} (h : RepJ H v j n) (ok : okJ j = true) (z : Str) : scal v (.str z) = true ∧ decide (v = .str z) = wordJ z j := by
  cases h with
  | non => exact ⟨rfl, rfl⟩
  | bl b => exact ⟨rfl, rfl⟩
  | int i => exact ⟨rfl, rfl⟩
  | str y => exact ⟨rfl, decide_eq_decide.mpr ⟨fun h => V.str.inj h, fun h => by rw [h]⟩⟩
  | tup _ _ _ _ => cases ok
  | lst _ _ _ _ => cases ok
section
variable {P : Program} {w : World} {K : PySem.W.Frag} {mg : Str → Option Value} {base : Heap} {tL tM tV : Tok}
abbrev N__are_unlike : List Str := ["system", "one", "other", "rest", "orbit", "found"]
theorem sc__are_unlike : FnScope ["system", "one", "other", "rest", "orbit", "found"] ["system", "one", "other"] (defScope s__are_unlike) := ⟨rfl, rfl, rfl, by decide +kernel, rfl, by decide +kernel, by decide +kernel⟩
theorem ok_areunlike {f : Addr} {fd : FuncData} (B : Bt K mg tL tM tV) (Dd : Df K mg "_are_unlike" s__are_unlike ["system", "one", "other"] f fd) (Gis_state : Cl P w K mg base 2 "is_state" ["system", "value"] spStateJ) (Gcut_of : Cl P w K mg base 2 "cut_of" ["system"] spCutOf) (Gorbit_at : Cl P w K mg base 2 "orbit_at" ["system", "state"] spOrbitAt) (Ggates_of : Cl P w K mg base 2 "gates_of" ["system", "orbit"] spGatesOf) (Gare_alike : Cl P w K mg base 2 "are_alike" ["system", "orbit", "one", "other"] spAlike) : FnOk P w K mg base CX0 3 f fd ["system", "one", "other"] spUnlikeJ := by
  refine Dd.F.ok sc__are_unlike (fun vs H Q Ex h => ?_) (fun cdv A outer s H vs Q Ex hr h => ?_)
  · obtain ⟨p, u, v, S, a, b, n, m, rfl, _⟩ := h
    rfl
  obtain ⟨p, u, v, S, a, b, n, m, rfl, hS, hG, ha, hb, q⟩ := h
  refine ⟨_, (pss_cons (ps_if (PW.pt (pw_or (pt_not (pt_val (pe_cl Gis_state (hr.mono (by omega)) rfl (pa_cons (pv 0) (pa_cons (pv 1) pa_nil))))) (pw_or1 (pt_not (pt_val (pe_cl Gis_state (hr.mono (by omega)) rfl (pa_cons (pv 0) (pa_cons (pv 2) pa_nil)))))))) (pss_one (ps_ret pe_bl)) pss_nil)
    (pss_cons (ps_set (i := 3) sc__are_unlike.nd rfl (Or.inl rfl) (pe_cl Gcut_of (hr.mono (by omega)) rfl (pa_cons (pv 0) pa_nil)))
    (pss_cons (ps_set (i := 4) sc__are_unlike.nd rfl (Or.inl rfl) (pe_cl Gorbit_at (hr.mono (by omega)) rfl (pa_cons (pv 3) (pa_cons (pv 1) pa_nil))))
    (pss_cons (ps_set (i := 5) sc__are_unlike.nd rfl (Or.inl rfl) (pe_cl Ggates_of (hr.mono (by omega)) rfl (pa_cons (pv 3) (pa_cons (pv 4) pa_nil))))
    (pss_one (ps_ret (pe_and (pe_cmpR (r := rInB K) (op_in_seqB rfl) (pv 1) (pv 5) rfl) (pe_and (pe_cmpR (r := rInB K) (op_in_seqB rfl) (pv 2) (pv 5) rfl) (pe_one (pe_not (pe_cl Gare_alike (hr.mono (by omega)) rfl (pa_cons (pv 3) (pa_cons (pv 4) (pa_cons (pv 1) (pa_cons (pv 2) pa_nil))))))))))))))), ?_⟩
  have hGc := cutS_good hG
  refine ⟨_, rfl, _, rfl, p, u, S, a, n, rfl, hS, hG, ha, _, rfl, ?_⟩
  cases hi : intJ a with
  | none =>
    have e1 : stJ S a = false := by unfold stJ; rw [hi]
    have e2 : unlikeJ S a b = false := by unfold unlikeJ; rw [hi]
    rw [e2] at q
    rw [e1]
    exact iteT (q _ (Same.refl _))
  | some i =>
    have e1 : stJ S a = decide (0 ≤ i ∧ i.toNat ∈ S.st) := by unfold stJ; rw [hi]
    obtain rfl : u = .int i := intJ_rep ha hi
    rw [e1]
    by_cases c1 : 0 ≤ i ∧ i.toNat ∈ S.st
    case neg =>
      have e2 : unlikeJ S a b = false := by
        unfold unlikeJ
        rw [hi]
        cases intJ b with
        | none => rfl
        | some k =>
          show (decide (0 ≤ i ∧ i.toNat ∈ S.st) && _) = false
          rw [decide_eq_false c1, Bool.false_and]
      rw [e2] at q
      rw [decide_eq_false c1]
      exact iteT (q _ (Same.refl _))
    rw [decide_eq_true c1]
    refine iteF ⟨_, rfl, _, rfl, p, v, S, b, m, rfl, hS, hG, hb, _, rfl, ?_⟩
    cases hk : intJ b with
    | none =>
      have e3 : stJ S b = false := by unfold stJ; rw [hk]
      have e2 : unlikeJ S a b = false := by unfold unlikeJ; rw [hi, hk]
      rw [e2] at q
      rw [e3]
      exact iteT (q _ (Same.refl _))
    | some k =>
      have e3 : stJ S b = decide (0 ≤ k ∧ k.toNat ∈ S.st) := by unfold stJ; rw [hk]
      obtain rfl : v = .int k := intJ_rep hb hk
      have e2 : unlikeJ S a b = (decide (0 ≤ i ∧ i.toNat ∈ S.st) && (decide (0 ≤ k ∧ k.toNat ∈ S.st) && unlB S i.toNat k.toNat)) := by unfold unlikeJ; rw [hi, hk]
      rw [decide_eq_true c1, Bool.true_and] at e2
      rw [e3]
      by_cases c2 : 0 ≤ k ∧ k.toNat ∈ S.st
      case neg =>
        rw [decide_eq_false c2, Bool.false_and] at e2
        rw [e2] at q
        rw [decide_eq_false c2]
        exact iteT (q _ (Same.refl _))
      rw [decide_eq_true c2, Bool.true_and] at e2
      rw [decide_eq_true c2]
      rw [e2] at q
      have ei : i = ((i.toNat : Nat) : Int) := by omega
      have ek : k = ((k.toNat : Nat) : Int) := by omega
      generalize i.toNat = x at *
      generalize k.toNat = y at *
      subst ei ek
      refine iteF ⟨_, rfl, p, S, rfl, hS, hG, fun r H1 s1 hR => ?_⟩
      refine ⟨_, rfl, _, rfl, r, cutS S, x, rfl, hR, hGc, c1.2, fun o H2 s2 ho => ?_⟩
      have S2 := s1.trans s2
      have hR2 := hR.same s2
      have ol := orb_len hGc x
      refine ⟨_, rfl, _, rfl, r, o, cutS S, orbL (cutS S) x, rfl, hR2, hGc, ho, by omega, fun t H3 s3 ht => ?_⟩
      have S3 := S2.trans s3
      have q0 := q
      unfold unlB at q
      refine ⟨_, rfl, _, rfl, t, _, rfl, .inr (SqT.of ht), rfl, flat_nats _, ?_⟩
      have f1 : (if false = true then !inV (V.int (x : Int)) (natsV (gatesL (cutS S) (orbL (cutS S) x))) else inV (V.int (x : Int)) (natsV (gatesL (cutS S) (orbL (cutS S) x)))) = decide (x ∈ gatesL (cutS S) (orbL (cutS S) x)) := in_nats _ _
      have f2 : (if false = true then !inV (V.int (y : Int)) (natsV (gatesL (cutS S) (orbL (cutS S) x))) else inV (V.int (y : Int)) (natsV (gatesL (cutS S) (orbL (cutS S) x)))) = decide (y ∈ gatesL (cutS S) (orbL (cutS S) x)) := in_nats _ _
      refine ⟨_, by rw [f1], ite2 (fun c3 => ?_) (fun c3 => ?_)⟩
      · rw [c3, Bool.true_and] at q
        refine ⟨_, rfl, _, rfl, t, _, rfl, .inr (SqT.of ht), rfl, flat_nats _, _, by rw [f2], ite2 (fun c4 => ?_) (fun c4 => ?_)⟩
        · rw [c4, Bool.true_and] at q
          exact ⟨_, rfl, _, rfl, _, rfl, _, rfl, r, o, cutS S, orbL (cutS S) x, x, y, rfl, hR2.same s3, hGc, s3 _ _ ho, fun H4 s4 => ⟨_, rfl, q _ (S3.trans s4)⟩⟩
        · rw [eq_false_of_ne_true c4, Bool.false_and] at q
          exact q _ S3
      · rw [eq_false_of_ne_true c3, Bool.false_and] at q
        exact q _ S3
abbrev N_accepts_reason : List Str := ["system", "value", "path", "trouble", "last"]
theorem sc_accepts_reason : FnScope ["system", "value", "path", "trouble", "last"] ["system", "value"] (defScope s_accepts_reason) := ⟨rfl, rfl, rfl, by decide +kernel, rfl, by decide +kernel, by decide +kernel⟩
theorem ok_accepts {f : Addr} {fd : FuncData} (B : Bt K mg tL tM tV) (Dd : Df K mg "accepts_reason" s_accepts_reason ["system", "value"] f fd) (Gcheck_system : Cl P w K mg base 5 "check_system" ["value"] spChkSys) (G_behind : Cl P w K mg base 5 "_behind" ["system", "value"] spBehV) (G_is_stuck : Cl P w K mg base 3 "_is_stuck" ["system"] spStuck) (G_are_unlike : Cl P w K mg base 3 "_are_unlike" ["system", "one", "other"] spUnlikeJ) : FnOk P w K mg base CX0 6 f fd ["system", "value"] spAccJ := by
  refine Dd.F.ok sc_accepts_reason (fun vs H Q Ex h => ?_) (fun cdv A outer s H vs Q Ex hr h => ?_)
  · obtain ⟨p, v, S, j, n, rfl, _⟩ := h
    rfl
  obtain ⟨p, v, S, j, n, rfl, hS, hG, hj, hF, q⟩ := h
  refine ⟨_, (pss_cons (ps_expr (pe_cl Gcheck_system (hr.mono (by omega)) rfl (pa_cons (pv 0) pa_nil)))
    (pss_cons (ps_if (PW.pt (pw_or (pt_not (pt_val (pe_callB call_isi rfl B.b_isinstance boot_isinstance (pa_cons (pv 1) (pa_cons (pe_bltn (v := .ty "tuple") rfl B.b_tuple boot_tuple rfl) pa_nil))))) (pw_or1 (pt_cmpR op_ne (pe_callB call_len rfl B.b_len boot_len (pa_cons (pv 1) pa_nil)) pe_int (nomark _))))) (pss_one (ps_ret pe_bl)) pss_nil)
    (pss_cons (ps_asg (pv 1) (pg_tup rfl (pgs_cons (pg_name (i := 2) sc_accepts_reason.nd rfl (Or.inl rfl)) (pgs_cons (pg_name (i := 3) sc_accepts_reason.nd rfl (Or.inl rfl)) pgs_nil))))
    (pss_cons (ps_set (i := 4) sc_accepts_reason.nd rfl (Or.inl rfl) (pe_cl G_behind (hr.mono (by omega)) rfl (pa_cons (pv 0) (pa_cons (pv 2) pa_nil))))
    (pss_cons (ps_if (PW.pt (pw_or (pt_cmpR op_isN (pv 4) pe_non (nomark _)) (pw_or1 (pt_not (pt_val (pe_callB call_isi rfl B.b_isinstance boot_isinstance (pa_cons (pv 3) (pa_cons (pe_bltn (v := .ty "tuple") rfl B.b_tuple boot_tuple rfl) pa_nil)))))))) (pss_one (ps_ret pe_bl)) pss_nil)
    (pss_cons (ps_if (pt_cmpR op_eq (pe_callB call_len rfl B.b_len boot_len (pa_cons (pv 3) pa_nil)) pe_int (nomark _)) (pss_one (ps_ret (pe_and (pe_cmpR op_eq (pe_ix (r := rIxT K) ix_tup (pv 3) pe_int (fun _ _ => rfl)) pe_str (nomark _)) (pe_one (pe_cl G_is_stuck (hr.mono (by omega)) rfl (pa_cons (pv 4) pa_nil)))))) pss_nil)
    (pss_one (ps_ret (pe_and (pe_cmpR op_eq (pe_callB call_len rfl B.b_len boot_len (pa_cons (pv 3) pa_nil)) pe_int (nomark _)) (pe_and (pe_cmpR op_eq (pe_ix (r := rIxT K) ix_tup (pv 3) pe_int (fun _ _ => rfl)) pe_str (nomark _)) (pe_one (pe_cl G_are_unlike (hr.mono (by omega)) rfl (pa_cons (pv 4) (pa_cons (pe_ix (r := rIxT K) ix_tup (pv 3) pe_int (fun _ _ => rfl)) (pa_cons (pe_ix (r := rIxT K) ix_tup (pv 3) pe_int (fun _ _ => rfl)) pa_nil))))))))))))))), ?_⟩
  refine ⟨_, rfl, p, S, rfl, hS, hG, fun H1 s1 => ?_⟩
  have hj1 := hj.same s1
  obtain ⟨t, T, _, _, k3⟩ := RepJ.ty (K := K) hj1
  refine ⟨_, rfl, _, _, _, _, _, rfl, .ty _, T, k3, _, rfl, ?_⟩
  cases htj : tupJ j with
  | none =>
    have e1 : isTupJ j = false := by
      cases j <;> first | rfl | (cases htj)
    have e2 : accJ S j = false := by unfold accJ; rw [htj]
    rw [e2] at q
    rw [e1]
    exact iteT (q _ s1)
  | some js =>
    obtain rfl : j = .tup js := by
      cases j <;> cases htj
      rfl
    obtain ⟨t, xs, m, rfl, ht, hxl, two⟩ := hj1.untup
    have xl := two.len
    refine iteF ⟨_, rfl, _, xs.length, rfl, .inr ⟨_, SqT.of ht, rfl⟩, ?_⟩
    by_cases c2 : js.length = 2
    case neg =>
      have e2 : accJ S (.tup js) = false := by
        unfold accJ
        rcases js with _ | ⟨a, _ | ⟨b, _ | ⟨c, js⟩⟩⟩
        · rfl
        · rfl
        · exact absurd rfl c2
        · rfl
      rw [e2] at q
      exact ⟨rfl, _, rfl, by rw [decide_eq_false (by intro h; have := V.int.inj h; omega)]; exact iteT (q _ s1)⟩
    obtain ⟨jp, jt, rfl⟩ : ∃ a b, js = [a, b] := by
      rcases js with _ | ⟨a, _ | ⟨b, _ | ⟨c, js⟩⟩⟩
      · cases c2
      · cases c2
      · exact ⟨a, b, rfl⟩
      · cases c2
    obtain ⟨xp, xt, rfl, hp, hq⟩ : ∃ a b, xs = [a, b] ∧ RepJ H1 a jp m ∧ RepJ H1 b jt m := by
      cases two with
      | cons h1 t1 =>
        cases t1 with
        | cons h2 t2 =>
          cases t2
          exact ⟨_, _, rfl, h1, h2⟩
    have eA : accJ S (.tup [jp, jt]) = match behV S jp with
      | some T => match tupJ jt with
        | some js => whyB T js
        | none => false
      | none => false := rfl
    rw [eA] at q
    refine ⟨rfl, _, rfl, iteF ⟨_, rfl, t, _, rfl, SqT.of ht, rfl, _, _, rfl, _, _, rfl, rfl, ?_⟩⟩
    refine ⟨_, rfl, _, rfl, p, xp, S, jp, m, rfl, hS.same s1, hG, hp, fun v2 H2 s2 hv2 => ?_⟩
    have S2 := s1.trans s2
    cases hb : behV S jp with
    | none =>
      rw [hb] at hv2 q
      obtain rfl : v2 = .non := hv2
      exact ⟨_, rfl, rfl, _, rfl, iteT (q _ S2)⟩
    | some T =>
      rw [hb] at hv2 q
      obtain ⟨t2, rfl, hT⟩ := hv2
      have hGT : Good T := by
        unfold behV at hb
        split at hb
        · split at hb
          · exact behJ_good _ hG hb
          · cases hb
        · cases hb
      refine ⟨_, rfl, rfl, _, rfl, iteF ?_⟩
      have hq2 := hq.same s2
      obtain ⟨ty, TT, _, _, k4⟩ := RepJ.ty (K := K) hq2
      refine ⟨_, rfl, _, _, _, _, _, rfl, .ty _, TT, k4, _, rfl, ?_⟩
      cases htt : tupJ jt with
      | none =>
        have e1 : isTupJ jt = false := by
          cases jt <;> first | rfl | (cases htt)
        rw [htt] at q
        rw [e1]
        exact iteT (q _ S2)
      | some ws =>
        obtain rfl : jt = .tup ws := by
          cases jt <;> cases htt
          rfl
        have q : ∀ H', Same H H' → Q (.bl (whyB T ws)) H' := q
        have fl := hF jp ws rfl
        obtain ⟨t3, ys, m3, rfl, ht3, hyl, two3⟩ := hq2.untup
        have yl := two3.len
        refine iteF ⟨_, rfl, _, ys.length, rfl, .inr ⟨_, SqT.of ht3, rfl⟩, rfl, _, rfl, ?_⟩
        by_cases c1 : ws.length = 1
        · obtain ⟨a, rfl⟩ : ∃ a, ws = [a] := List.length_eq_one_iff.mp c1
          obtain ⟨xa, rfl, ha⟩ : ∃ x, ys = [x] ∧ RepJ H2 x a m3 := by
            cases two3 with
            | cons h1 t1 =>
              cases t1
              exact ⟨_, rfl, h1⟩
          obtain ⟨sc, se⟩ := scal_str ha (fl a List.mem_cons_self) "stuck"
          have q : ∀ H', Same H H' → Q (.bl (wordJ "stuck" a && stuckB T)) H' := q
          refine iteT ⟨_, rfl, t3, _, 0, _, rfl, rfl, SqT.of ht3, at_zero, sc, _, by rw [se], ite2 (fun c => ?_) (fun c => ?_)⟩
          · rw [c, Bool.true_and] at q
            exact ⟨_, rfl, t2, T, rfl, hT, hGT, fun H3 s3 => q _ (S2.trans s3)⟩
          · rw [eq_false_of_ne_true c, Bool.false_and] at q
            exact q _ S2
        · rw [decide_eq_false (by intro h; have := V.int.inj h; omega)]
          refine iteF ⟨_, rfl, _, ys.length, rfl, .inr ⟨_, SqT.of ht3, rfl⟩, rfl, _, rfl, ?_⟩
          by_cases c3 : ws.length = 3
          · obtain ⟨a, b, c, rfl⟩ : ∃ a b c, ws = [a, b, c] := by
              rcases ws with _ | ⟨a, _ | ⟨b, _ | ⟨c, _ | ⟨d, js⟩⟩⟩⟩
              · cases c3
              · cases c3
              · cases c3
              · exact ⟨a, b, c, rfl⟩
              · cases c3
            obtain ⟨xa, xb, xc, rfl, ha, hb', hc⟩ : ∃ x y z, ys = [x, y, z] ∧ RepJ H2 x a m3 ∧ RepJ H2 y b m3 ∧ RepJ H2 z c m3 := by
              cases two3 with
              | cons h1 t1 =>
                cases t1 with
                | cons h2 t2 =>
                  cases t2 with
                  | cons h3 t3 =>
                    cases t3
                    exact ⟨_, _, _, rfl, h1, h2, h3⟩
            obtain ⟨sc, se⟩ := scal_str ha (fl a List.mem_cons_self) "gates"
            have q : ∀ H', Same H H' → Q (.bl (wordJ "gates" a && unlikeJ T b c)) H' := q
            refine iteT ⟨_, rfl, t3, _, 0, _, rfl, rfl, SqT.of ht3, at_zero, sc, _, by rw [se], ite2 (fun cc => ?_) (fun cc => ?_)⟩
            · rw [cc, Bool.true_and] at q
              exact ⟨_, rfl, _, rfl, t3, _, 1, _, rfl, rfl, SqT.of ht3, at_one, _, rfl, t3, _, 2, _, rfl, rfl, SqT.of ht3, at_of (j := 2) rfl rfl, t2, xb, xc, T, b, c, m3, m3, rfl, hT, hGT, hb', hc, fun H3 s3 => q _ (S2.trans s3)⟩
            · rw [eq_false_of_ne_true cc, Bool.false_and] at q
              exact q _ S2
          · have e3 : whyB T ws = false := by
              rcases ws with _ | ⟨a, _ | ⟨b, _ | ⟨c, _ | ⟨d, js⟩⟩⟩⟩
              · rfl
              · exact absurd rfl c1
              · rfl
              · exact absurd rfl c3
              · rfl
            rw [e3] at q
            rw [decide_eq_false (by intro h; have := V.int.inj h; omega)]
            exact iteF (q _ S2)
end
end My
namespace My
open PySem PySem.Spec PyProof.Rows L2
def datJ : J → PyData
  | .non => .none
  | .bl b => .bool b
  | .int i => .int i
  | .str z => .str z
  | _ => .none
theorem dp_okJ {K : PySem.W.Frag} {H : Hp} {v : V} {j : J} {n : Nat} (h : RepJ H v j n) (ok : okJ j = true) : Dp K H v (datJ j) := by
  cases h with
  | non => exact .non
  | bl b => exact .bl b
  | int i => exact .int i
  | str y => exact .str y
  | tup _ _ _ _ => cases ok
  | lst _ _ _ _ => cases ok
theorem dpAll_okJ {K : PySem.W.Frag} {H : Hp} {n : Nat} : ∀ {vs : List V} {js : List J}, Two (fun x j => RepJ H x j n) vs js → (∀ x ∈ js, okJ x = true) → DpAll K H vs (js.map datJ)
  | [], _, .nil, _ => .nil
  | _ :: _, _, .cons h t, ok => .cons (dp_okJ h (ok _ List.mem_cons_self)) (dpAll_okJ t fun x hx => ok x (List.mem_cons_of_mem _ hx))
theorem okJ_lay : ∀ js : List J, (∀ x ∈ js, okJ x = true) → PyData.canLayAll0 (js.map datJ) = true
  | [], _ => rfl
  | j :: js, ok => by
    show (PyData.canLay0 (datJ j) && PyData.canLayAll0 (js.map datJ)) = true
    rw [Bool.and_eq_true]
    refine ⟨?_, okJ_lay js fun x hx => ok x (List.mem_cons_of_mem _ hx)⟩
    have := ok j List.mem_cons_self
    cases j <;> first | rfl | exact this | cases this
theorem okJ_dep : ∀ js : List J, PyData.depthAll (js.map datJ) = 0
  | [] => rfl
  | j :: js => by
    show max (PyData.depth (datJ j)) (PyData.depthAll (js.map datJ)) = 0
    rw [okJ_dep js]
    cases j <;> rfl
theorem okJ_shaped {js : List J} (ok : ∀ x ∈ js, okJ x = true) : SeqAt.shaped (.tuple (js.map datJ)) = true := by
  show (PyData.canLayAll0 (js.map datJ) && decide (PyData.depthAll (js.map datJ) + 1 ≤ 64)) = true
  rw [okJ_lay js ok, okJ_dep js]
  rfl
def one1 (z : Str) : List J → Bool
  | [a] => wordJ z a
  | _ => false
theorem eqv_one {js : List J} (z : Str) : PyData.eqv (.tuple (js.map datJ)) (.tuple [.str z]) = one1 z js := by
  rcases js with _ | ⟨a, js⟩
  · rfl
  · show (PyData.eqv (datJ a) (.str z) && PyData.eqvAll (js.map datJ) []) = one1 z (a :: js)
    rcases js with _ | ⟨b, js⟩
    · show (PyData.eqv (datJ a) (.str z) && true) = wordJ z a
      rw [Bool.and_true]
      cases a <;> first | rfl | (rename_i y; exact beq_eq_decide y z)
    · exact Bool.and_false _
def isStrJ : J → Bool
  | .str _ => true
  | _ => false
theorem RepJ.tyS {K : PySem.W.Frag} {H : Hp} {v : V} {j : J} {n : Nat} (h : RepJ H v j n) : ∃ t : String, TyX K H v (.type t) ∧ PySem.W.kitOne K (.type t) (.type "str") = some (isStrJ j) := by
  cases h with
  | non => exact ⟨"NoneType", .base .non, kit_ty (r := false) (by decide +kernel)⟩
  | bl b => exact ⟨"bool", .base (.bl _), kit_ty (r := false) (by decide +kernel)⟩
  | int i => exact ⟨"int", .base (.int _), kit_ty (r := false) (by decide +kernel)⟩
  | str z => exact ⟨"str", .base (.str _), kit_ty (r := true) (by decide +kernel)⟩
  | tup h _ _ _ => exact ⟨"tuple", .base (.tup h), kit_ty (r := false) (by decide +kernel)⟩
  | lst h _ _ _ => exact ⟨"list", .base (.lst h), kit_ty (r := false) (by decide +kernel)⟩
theorem why_nostr {T : Sy} {a : J} {ws : List J} (h : isStrJ a = false) : whyB T (a :: ws) = false := by
  have e : ∀ z, wordJ z a = false := fun z => by cases a <;> first | rfl | cases h
  rcases ws with _ | ⟨b, _ | ⟨c, _ | ⟨d, js⟩⟩⟩
  · show (wordJ "stuck" a && _) = false
    rw [e]
    rfl
  · rfl
  · show (wordJ "gates" a && _) = false
    rw [e]
    rfl
  · rfl
theorem why_other {T : Sy} {z : Str} {ws : List J} (h1 : one1 "stuck" (J.str z :: ws) = false) (h2 : ¬ (z = "gates" ∧ ws.length = 2)) : whyB T (.str z :: ws) = false := by
  rcases ws with _ | ⟨b, _ | ⟨c, _ | ⟨d, js⟩⟩⟩
  · show (wordJ "stuck" (.str z) && _) = false
    rw [show wordJ "stuck" (.str z) = false from h1]
    rfl
  · rfl
  · show (wordJ "gates" (.str z) && _) = false
    rw [show wordJ "gates" (.str z) = false from decide_eq_false fun e => h2 ⟨e, rfl⟩]
    rfl
  · rfl
theorem st_int {T : Sy} {b : J} (h : stJ T b = true) : ∃ x : Nat, b = .int (x : Int) ∧ x ∈ T.st := by
  unfold stJ at h
  cases b with
  | int i =>
    have h := of_decide_eq_true h
    exact ⟨i.toNat, congrArg J.int (by omega), h.2⟩
  | _ => cases h
theorem unlike_no {T : Sy} {b c : J} (h : ¬ (stJ T b = true ∧ stJ T c = true)) : unlikeJ T b c = false := by
  unfold unlikeJ
  cases hb : intJ b with
  | none => rfl
  | some i =>
    cases hc : intJ c with
    | none => rfl
    | some k =>
      have e1 : stJ T b = decide (0 ≤ i ∧ i.toNat ∈ T.st) := by unfold stJ; rw [hb]
      have e2 : stJ T c = decide (0 ≤ k ∧ k.toNat ∈ T.st) := by unfold stJ; rw [hc]
      rw [e1, e2] at h
      show (decide (0 ≤ i ∧ i.toNat ∈ T.st) && (decide (0 ≤ k ∧ k.toNat ∈ T.st) && _)) = false
      cases e3 : decide (0 ≤ i ∧ i.toNat ∈ T.st) with
      | false => rfl
      | true =>
        cases e4 : decide (0 ≤ k ∧ k.toNat ∈ T.st) with
        | false => rfl
        | true => exact absurd ⟨e3, e4⟩ h
theorem unlike_yes {T : Sy} {x y : Nat} (hx : x ∈ T.st) (hy : y ∈ T.st) : unlikeJ T (.int (x : Int)) (.int (y : Int)) = unlB T x y := by
  show (decide ((0 : Int) ≤ (x : Int) ∧ (x : Int).toNat ∈ T.st) && (decide ((0 : Int) ≤ (y : Int) ∧ (y : Int).toNat ∈ T.st) && unlB T (x : Int).toNat (y : Int).toNat)) = _
  rw [Int.toNat_natCast, Int.toNat_natCast, decide_eq_true ⟨by omega, hx⟩, decide_eq_true ⟨by omega, hy⟩, Bool.true_and, Bool.true_and]
theorem alike_self {R : Sy} {o : List Nat} (x : Nat) : alikeB R o x x = true := by
  unfold alikeB
  rw [decide_eq_true rfl, Bool.and_true]
  exact beq_self_eq_true _
section
variable {P : Program} {w : World} {K : PySem.W.Frag} {mg : Str → Option Value} {base : Heap} {tL tM tV : Tok}
abbrev N__law_is_reason : List Str := ["system", "value", "here", "word", "one", "other", "inner", "orbit", "gates"]
theorem sc__law_is_reason : FnScope ["system", "value", "here", "word", "one", "other", "inner", "orbit", "gates"] ["system", "value"] (defScope s__law_is_reason) := ⟨rfl, rfl, rfl, by decide +kernel, rfl, by decide +kernel, by decide +kernel⟩
theorem ok_lisreason {f : Addr} {fd : FuncData} (B : Bt K mg tL tM tV) (Dd : Df K mg "_law_is_reason" s__law_is_reason ["system", "value"] f fd) (G_law_is_integer : Cl P w K mg base 1 "_law_is_integer" ["actual"] spIsIntJ) (G_law_behind : Cl P w K mg base 5 "_law_behind" ["system", "path"] spLBeh) (G_law_stuck : Cl P w K mg base 3 "_law_stuck" ["system"] spStuck) (G_law_cut : Cl P w K mg base 2 "_law_cut" ["system"] spCutOf) (G_law_orbit : Cl P w K mg base 3 "_law_orbit" ["system", "state"] spOrbitAt) (G_law_gates : Cl P w K mg base 2 "_law_gates" ["system", "orbit"] spGatesOf) (G_law_alike : Cl P w K mg base 2 "_law_alike" ["system", "orbit", "one", "other"] spAlike) : FnOk P w K mg base CX0 6 f fd ["system", "value"] spAccJ := by
  refine Dd.F.ok sc__law_is_reason (fun vs H Q Ex h => ?_) (fun cdv A outer s H vs Q Ex hr h => ?_)
  · obtain ⟨p, v, S, j, n, rfl, _⟩ := h
    rfl
  obtain ⟨p, v, S, j, n, rfl, hS, hG, hj, hF, q⟩ := h
  refine ⟨_, (pss_cons (ps_if (PW.pt (pw_or (pt_not (pt_val (pe_callB call_isi rfl B.b_isinstance boot_isinstance (pa_cons (pv 1) (pa_cons (pe_bltn (v := .ty "tuple") rfl B.b_tuple boot_tuple rfl) pa_nil))))) (pw_or (pt_cmpR op_ne (pe_callB call_len rfl B.b_len boot_len (pa_cons (pv 1) pa_nil)) pe_int (nomark _)) (pw_or (pt_not (pt_val (pe_callB call_isi rfl B.b_isinstance boot_isinstance (pa_cons (pe_ix (r := rIxT K) ix_tup (pv 1) pe_int (fun _ _ => rfl)) (pa_cons (pe_bltn (v := .ty "tuple") rfl B.b_tuple boot_tuple rfl) pa_nil))))) (pw_or (pt_not (pt_val (pe_callB call_isi rfl B.b_isinstance boot_isinstance (pa_cons (pe_ix (r := rIxT K) ix_tup (pv 1) pe_int (fun _ _ => rfl)) (pa_cons (pe_bltn (v := .ty "tuple") rfl B.b_tuple boot_tuple rfl) pa_nil))))) (pw_or1 (pt_cmpR op_gt (pe_callB call_len rfl B.b_len boot_len (pa_cons (pe_ix (r := rIxT K) ix_tup (pv 1) pe_int (fun _ _ => rfl)) pa_nil)) pe_int (nomark _)))))))) (pss_one (ps_ret pe_bl)) pss_nil)
    (pss_cons (ps_set (i := 2) sc__law_is_reason.nd rfl (Or.inr rfl) (pe_cl G_law_behind (hr.mono (by omega)) rfl (pa_cons (pv 0) (pa_cons (pe_ix (r := rIxT K) ix_tup (pv 1) pe_int (fun _ _ => rfl)) pa_nil))))
    (pss_cons (ps_if (PW.pt (pw_or (pt_cmpR op_isN (pv 2) pe_non (nomark _)) (pw_or (pt_not (pt_truth (pe_ix (r := rIxT K) ix_tup (pv 1) pe_int (fun _ _ => rfl)) (by intro _; rfl))) (pw_or1 (pt_not (pt_val (pe_callB call_isi rfl B.b_isinstance boot_isinstance (pa_cons (pe_ix (r := rIxT K) ix_tup (pe_ix (r := rIxT K) ix_tup (pv 1) pe_int (fun _ _ => rfl)) pe_int (fun _ _ => rfl)) (pa_cons (pe_bltn (v := .ty "str") rfl B.b_str boot_str rfl) pa_nil))))))))) (pss_one (ps_ret pe_bl)) pss_nil)
    (pss_cons (ps_if (pt_cmpR (op_eqD (u64 hr)) (pe_ix (r := rIxT K) ix_tup (pv 1) pe_int (fun _ _ => rfl)) (pe_tup (pa_cons pe_str pa_nil)) (nomark _)) (pss_one (ps_ret (pe_cl G_law_stuck (hr.mono (by omega)) rfl (pa_cons (pv 2) pa_nil)))) pss_nil)
    (pss_cons (ps_if (PW.pt (pw_or (pt_cmpR op_ne (pe_ix (r := rIxT K) ix_tup (pe_ix (r := rIxT K) ix_tup (pv 1) pe_int (fun _ _ => rfl)) pe_int (fun _ _ => rfl)) pe_str (nomark _)) (pw_or (pt_cmpR op_ne (pe_callB call_len rfl B.b_len boot_len (pa_cons (pe_ix (r := rIxT K) ix_tup (pv 1) pe_int (fun _ _ => rfl)) pa_nil)) pe_int (nomark _)) (pw_or1 (pt_not (pt_val (pe_callB (cr_all rfl) rfl B.b_all boot_all (pa_cons (pe_lc (own := [("one", 4)]) (g := gName 4) (tt := tYes) rfl sc__law_is_reason.nd (pi_tup (pe_slice sl_tupA (pe_ix (r := rIxT K) ix_tup (pv 1) pe_int (fun _ _ => rfl)) (po_some pe_int) po_none)) (blkOk_by (N := N__law_is_reason) (sc := defScope s__law_is_reason) (by decide +kernel)) (fun _ _ _ _ _ => pg_name (i := 4) sc__law_is_reason.nd rfl (Or.inl rfl)) (fun _ _ _ _ _ => pts_nil) (fun _ _ _ _ _ => (pe_and (pe_cl G_law_is_integer (hr.mono (by omega)) rfl (pa_cons (pv 4) pa_nil)) (pe_one (pe_cmpR (r := rInB K) (op_in_seqB rfl) (pv 4) (pe_ix (r := rIxT K) ix_tup (pv 2) pe_int (fun _ _ => rfl)) rfl))))) pa_nil)))))))) (pss_one (ps_ret pe_bl)) pss_nil)
    (pss_cons (ps_asg (pe_ix (r := rIxT K) ix_tup (pv 1) pe_int (fun _ _ => rfl)) (pg_tup rfl (pgs_cons (pg_name (i := 3) sc__law_is_reason.nd rfl (Or.inl rfl)) (pgs_cons (pg_name (i := 4) sc__law_is_reason.nd rfl (Or.inl rfl)) (pgs_cons (pg_name (i := 5) sc__law_is_reason.nd rfl (Or.inl rfl)) pgs_nil)))))
    (pss_cons (ps_set (i := 6) sc__law_is_reason.nd rfl (Or.inl rfl) (pe_cl G_law_cut (hr.mono (by omega)) rfl (pa_cons (pv 2) pa_nil)))
    (pss_cons (ps_set (i := 7) sc__law_is_reason.nd rfl (Or.inl rfl) (pe_cl G_law_orbit (hr.mono (by omega)) rfl (pa_cons (pv 6) (pa_cons (pv 4) pa_nil))))
    (pss_cons (ps_set (i := 8) sc__law_is_reason.nd rfl (Or.inl rfl) (pe_cl G_law_gates (hr.mono (by omega)) rfl (pa_cons (pv 6) (pa_cons (pv 7) pa_nil))))
    (pss_one (ps_ret (pe_and (pe_cmpR op_ne (pv 4) (pv 5) (nomark _)) (pe_and (pe_cmpR (r := rInB K) (op_in_seqB rfl) (pv 4) (pv 8) rfl) (pe_and (pe_cmpR (r := rInB K) (op_in_seqB rfl) (pv 5) (pv 8) rfl) (pe_one (pe_not (pe_cl G_law_alike (hr.mono (by omega)) rfl (pa_cons (pv 6) (pa_cons (pv 7) (pa_cons (pv 4) (pa_cons (pv 5) pa_nil))))))))))))))))))))), ?_⟩
  obtain ⟨t, T, _, _, k3⟩ := RepJ.ty (K := K) hj
  refine ⟨_, rfl, _, _, _, _, _, rfl, .ty _, T, k3, _, rfl, ?_⟩
  cases htj : tupJ j with
  | none =>
    have e1 : isTupJ j = false := by
      cases j <;> first | rfl | (cases htj)
    have e2 : accJ S j = false := by unfold accJ; rw [htj]
    rw [e2] at q
    rw [e1]
    exact iteT (q _ (Same.refl _))
  | some js =>
    obtain rfl : j = .tup js := by
      cases j <;> cases htj
      rfl
    obtain ⟨t, xs, m, rfl, ht, hxl, two⟩ := hj.untup
    have xl := two.len
    refine iteF ⟨_, rfl, _, xs.length, rfl, .inr ⟨_, SqT.of ht, rfl⟩, ?_⟩
    by_cases c2 : js.length = 2
    case neg =>
      have e2 : accJ S (.tup js) = false := by
        unfold accJ
        rcases js with _ | ⟨a, _ | ⟨b, _ | ⟨c, js⟩⟩⟩
        · rfl
        · rfl
        · exact absurd rfl c2
        · rfl
      rw [e2] at q
      exact ⟨rfl, _, rfl, by rw [decide_eq_false (by intro h; have := V.int.inj h; omega)]; exact iteT (q _ (Same.refl _))⟩
    obtain ⟨jp, jt, rfl⟩ : ∃ a b, js = [a, b] := by
      rcases js with _ | ⟨a, _ | ⟨b, _ | ⟨c, js⟩⟩⟩
      · cases c2
      · cases c2
      · exact ⟨a, b, rfl⟩
      · cases c2
    obtain ⟨xp, xt, rfl, hp, hq⟩ : ∃ a b, xs = [a, b] ∧ RepJ H a jp m ∧ RepJ H b jt m := by
      cases two with
      | cons h1 t1 =>
        cases t1 with
        | cons h2 t2 =>
          cases t2
          exact ⟨_, _, rfl, h1, h2⟩
    have eA : accJ S (.tup [jp, jt]) = match behV S jp with
      | some T => match tupJ jt with
        | some js => whyB T js
        | none => false
      | none => false := rfl
    rw [eA] at q
    obtain ⟨tp, TP, _, _, k4⟩ := RepJ.ty (K := K) hp
    refine ⟨rfl, _, rfl, iteF ⟨_, rfl, t, _, 0, _, rfl, rfl, SqT.of ht, at_zero, _, _, _, _, _, rfl, .ty _, TP, k4, _, rfl, ?_⟩⟩
    cases hjp : tupJ jp with
    | none =>
      have e1 : isTupJ jp = false := by
        cases jp <;> first | rfl | (cases hjp)
      have e2 : behV S jp = none := by unfold behV; rw [hjp]
      rw [e2] at q
      rw [e1]
      exact iteT (q _ (Same.refl _))
    | some ps =>
    obtain rfl : jp = .tup ps := by
      cases jp <;> cases hjp
      rfl
    obtain ⟨tt, TT, _, _, k5⟩ := RepJ.ty (K := K) hq
    refine iteF ⟨_, rfl, t, _, 1, _, rfl, rfl, SqT.of ht, at_one, _, _, _, _, _, rfl, .ty _, TT, k5, _, rfl, ?_⟩
    cases hjt : tupJ jt with
    | none =>
      have e1 : isTupJ jt = false := by
        cases jt <;> first | rfl | (cases hjt)
      rw [hjt] at q
      rw [e1]
      have e2 : (match behV S (.tup ps) with
        | some T => match (none : Option (List J)) with
          | some js => whyB T js
          | none => false
        | none => false) = false := by cases behV S (.tup ps) <;> rfl
      rw [e2] at q
      exact iteT (q _ (Same.refl _))
    | some ws =>
    obtain rfl : jt = .tup ws := by
      cases jt <;> cases hjt
      rfl
    obtain ⟨pa, pxs, mp, rfl, hpa, hpl, twop⟩ := hp.untup
    obtain ⟨ta, ys, m3, rfl, hta, hyl, two3⟩ := hq.untup
    have pl := twop.len
    have yl := two3.len
    refine iteF ⟨_, rfl, t, _, 0, _, rfl, rfl, SqT.of ht, at_zero, _, pxs.length, rfl, .inr ⟨_, SqT.of hpa, rfl⟩, _, _, rfl, rfl, _, rfl, ?_⟩
    have eb : behV S (.tup ps) = if ps.length ≤ 40 then behJ (some S) ps else none := rfl
    rw [eb] at q
    by_cases c40 : ps.length ≤ 40
    case neg =>
      rw [if_neg c40] at q
      rw [decide_eq_true (by omega)]
      exact iteT (q _ (Same.refl _))
    rw [if_pos c40] at q
    rw [decide_eq_false (by omega)]
    have fl := hF (.tup ps) ws rfl
    have q : ∀ H', Same H H' → Q (.bl (match behJ (some S) ps with
      | some T => whyB T ws
      | none => false)) H' := q
    refine iteF ⟨_, rfl, _, rfl, t, _, 0, _, rfl, rfl, SqT.of ht, at_zero, p, pa, S, pxs, ps, mp, rfl, hS, hG, hpa, twop, fun v2 H2 s2 hv2 => ?_⟩
    cases hb : behJ (some S) ps with
    | none =>
      rw [hb] at hv2 q
      obtain rfl : v2 = .non := hv2
      exact ⟨_, rfl, rfl, _, rfl, iteT (q _ s2)⟩
    | some T =>
    rw [hb] at hv2 q
    obtain ⟨t2, rfl, hT⟩ := hv2
    have hGT := behJ_good _ hG hb
    have q : ∀ H', Same H H' → Q (.bl (whyB T ws)) H' := q
    have ht2 := s2 _ _ ht
    have hta2 := s2 _ _ hta
    have two2 := two3.mono fun v j (h : RepJ H v j m3) => h.same s2
    refine ⟨_, rfl, rfl, _, rfl, iteF ⟨_, rfl, t, _, 1, _, rfl, rfl, SqT.of ht2, at_one, _, .inr (.inl ⟨_, SqT.of hta2, rfl⟩), ?_⟩⟩
    cases two2 with
    | nil => exact iteT (q _ s2)
    | @cons xa a yr wr ha tr =>
    refine iteF ?_
    obtain ⟨ts, TS, ks⟩ := RepJ.tyS (K := K) ha
    refine ⟨_, rfl, t, _, 1, _, rfl, rfl, SqT.of ht2, at_one, ta, _, 0, _, rfl, rfl, SqT.of hta2, at_zero, _, _, _, _, _, rfl, .ty _, TS, ks, _, rfl, ?_⟩
    cases hstr : isStrJ a with
    | false =>
      rw [why_nostr hstr] at q
      exact iteT (q _ s2)
    | true =>
    obtain ⟨z, rfl⟩ : ∃ z, a = .str z := by cases a <;> first | exact ⟨_, rfl⟩ | cases hstr
    obtain rfl : xa = .str z := by
      cases ha
      rfl
    refine iteF ?_
    have two2 : Two (fun x j => RepJ H2 x j m3) (V.str z :: yr) (J.str z :: wr) := .cons ha tr
    refine ⟨_, rfl, t, _, 1, _, rfl, rfl, SqT.of ht2, at_one, by show 1 ≤ sizeLine; decide, fun Z hZ => ?_⟩
    have u3 := same_upd (o := .tup [V.str "stuck"]) hZ
    have two3 := two2.mono fun v j (h : RepJ H2 v j m3) => h.same u3
    refine ⟨_, _, .tup (SqT.of (u3 _ _ hta2)) (dpAll_okJ two3 fl), .tup (SqT.of upd_same) (.cons (.str _) .nil), okJ_shaped fl, by decide +kernel, ?_⟩
    rw [eqv_one]
    have S3 := s2.trans u3
    have hT3 := hT.same u3
    have ht3 := u3 _ _ ht2
    have hta3 := u3 _ _ hta2
    revert S3 hT3 ht3 hta3 two3
    generalize upd H2 Z (.tup [V.str "stuck"]) = H3
    intro two3 S3 hT3 ht3 hta3
    cases h1 : one1 "stuck" (J.str z :: wr) with
    | true =>
      have e : wr = [] := by
        rcases wr with _ | ⟨b, wr⟩
        · rfl
        · cases h1
      subst e
      have e2 : whyB T [.str z] = stuckB T := by
        show (wordJ "stuck" (.str z) && stuckB T) = stuckB T
        rw [show wordJ "stuck" (.str z) = true from h1, Bool.true_and]
      rw [e2] at q
      exact ⟨_, rfl, iteT ⟨_, rfl, t2, T, rfl, hT3, hGT, fun H4 s4 => q _ (S3.trans s4)⟩⟩
    | false =>
    refine ⟨_, rfl, iteF ⟨_, rfl, t, _, 1, _, rfl, rfl, SqT.of ht3, at_one, ta, _, 0, _, rfl, rfl, SqT.of hta3, at_zero, rfl, _, rfl, ?_⟩⟩
    by_cases hz : z = "gates"
    case neg =>
      rw [why_other h1 (fun h => hz h.1)] at q
      rw [decide_eq_false (fun h => hz (V.str.inj h))]
      exact iteT (q _ S3)
    subst hz
    rw [decide_eq_true rfl]
    have yl3 := two3.len
    refine iteF ⟨_, rfl, t, _, 1, _, rfl, rfl, SqT.of ht3, at_one, _, _, rfl, .inr ⟨_, SqT.of hta3, rfl⟩, rfl, _, rfl, ?_⟩
    by_cases hl : wr.length = 2
    case neg =>
      rw [why_other h1 (fun h => hl h.2)] at q
      rw [decide_eq_false (by intro h; have := V.int.inj h; have h3 : (yr.length : Int) + 1 = 3 := this; have h4 : yr.length = wr.length := tr.len; omega)]
      exact iteT (q _ S3)
    obtain ⟨b, c, rfl⟩ : ∃ b c, wr = [b, c] := by
      rcases wr with _ | ⟨b, _ | ⟨c, _ | ⟨d, js⟩⟩⟩
      · cases hl
      · cases hl
      · exact ⟨b, c, rfl⟩
      · cases hl
    obtain ⟨xb, xc, rfl, hb3, hc3⟩ : ∃ x y, yr = [x, y] ∧ RepJ H3 x b m3 ∧ RepJ H3 y c m3 := by
      cases two3 with
      | cons h1 t1 =>
        cases t1 with
        | cons h2 t2 =>
          cases t2 with
          | cons h3 t3 =>
            cases t3
            exact ⟨_, _, rfl, h2, h3⟩
    have q : ∀ H', Same H H' → Q (.bl (unlikeJ T b c)) H' := by
      have e : whyB T [.str "gates", b, c] = unlikeJ T b c := by
        show (wordJ "gates" (.str "gates") && unlikeJ T b c) = _
        rw [show wordJ "gates" (.str "gates") = true from decide_eq_true (rfl : (Str.ofString "gates") = Str.ofString "gates"), Bool.true_and]
      rw [e] at q
      exact q
    refine iteF ?_
    obtain ⟨sa, sb, sc, sts, g1, g2, g3, g4, g5⟩ := id hT3.ex
    refine ⟨_, rfl, t, _, 1, _, rfl, rfl, SqT.of ht3, at_one, 1, rfl, slA_lo hta3 fun s4 H4 e4 hs4 => ?_⟩
    have hs4 : H4 s4 = some (.tup [xb, xc]) := hs4
    have two4 : Two (fun x j => RepJ H4 x j m3) [xb, xc] [b, c] := .cons (hb3.same e4) (.cons (hc3.same e4) .nil)
    refine ⟨s4, rfl, ⟨_, SqT.of hs4⟩, fun M hM => ?_⟩
    refine lc_tupR (K := K) (a := s4) (xs := [xb, xc]) (fun j => (([b, c].take j).map (stJ T)).map V.bl) rfl (fun j => ?_) hM (SqT.of hs4) (fun j x H' hx s1 fin fin0 => ?_) (fun H5 s5 hk5 => ?_)
    · rw [List.length_map, List.length_map, List.length_take]
      exact Nat.le_trans (Nat.min_le_right _ _) (by show 2 ≤ 100000; decide)
    · obtain ⟨z, hz, hr⟩ := two4.get hx
      have hr1 := hr.same s1
      have fin2 := fin (.bl (stJ T z)) H' (by rw [take_snoc hz, List.map_append, List.map_append]; rfl) (Same.refl _)
      refine ⟨rfl, tyes ⟨_, rfl, x, z, m3, rfl, hr1, _, rfl, ?_⟩⟩
      cases hi : intJ z with
      | none =>
        have e : stJ T z = false := by unfold stJ; rw [hi]
        rw [e] at fin2
        exact iteF fin2
      | some i =>
        have e : stJ T z = decide (0 ≤ i ∧ i.toNat ∈ T.st) := by unfold stJ; rw [hi]
        obtain rfl : x = .int i := intJ_rep hr1 hi
        rw [e, ← in_natsI] at fin2
        have S1 := e4.trans s1
        refine iteT ⟨_, rfl, _, rfl, t2, _, 0, _, rfl, rfl, SqT.of (S1 _ _ g1), at_zero, sa, _, rfl, .inr (SqT.of (S1 _ _ g2)), rfl, flat_nats _, ?_⟩
        exact fin2
    · have hk5 : H5 M = some (.lst (([b, c].map (stJ T)).map V.bl)) := hk5
      have S5 := S3.trans (e4.trans s5)
      have E5 := e4.trans s5
      refine ⟨M, _, rfl, SqL.of hk5, _, rfl, ?_⟩
      by_cases hst : stJ T b = true ∧ stJ T c = true
      case neg =>
        rw [unlike_no hst] at q
        have e : ([b, c].map (stJ T)).all id = false := by
          show (stJ T b && (stJ T c && true)) = false
          cases h1 : stJ T b with
          | false => rfl
          | true =>
            cases h2 : stJ T c with
            | false => rfl
            | true => exact absurd ⟨h1, h2⟩ hst
        rw [e]
        exact iteT (q _ S5)
      have e : ([b, c].map (stJ T)).all id = true := by
        show (stJ T b && (stJ T c && true)) = true
        rw [hst.1, hst.2]
        rfl
      rw [e]
      refine iteF ?_
      obtain ⟨x, rfl, hx⟩ := st_int hst.1
      obtain ⟨y, rfl, hy⟩ := st_int hst.2
      obtain rfl : xb = .int (x : Int) := intJ_rep hb3 rfl
      obtain rfl : xc = .int (y : Int) := intJ_rep hc3 rfl
      rw [unlike_yes hx hy] at q
      refine ⟨_, rfl, t, _, 1, _, rfl, rfl, SqT.of (E5 _ _ ht3), at_one, ta, _, rfl, SqT.of (E5 _ _ hta3), rfl, _, _, rfl, _, _, rfl, _, _, rfl, rfl, ?_⟩
      have hT5 := hT3.same E5
      have hGc := cutS_good hGT
      refine ⟨_, rfl, t2, T, rfl, hT5, hGT, fun r H6 s6 hR => ?_⟩
      refine ⟨_, rfl, _, rfl, r, cutS T, x, rfl, hR, hGc, hx, fun o H7 s7 ho => ?_⟩
      have ol := orb_len hGc x
      have hR7 := hR.same s7
      refine ⟨_, rfl, _, rfl, r, o, cutS T, orbL (cutS T) x, rfl, hR7, hGc, ho, by omega, fun g H8 s8 hg => ?_⟩
      have S8 := S5.trans (s6.trans (s7.trans s8))
      refine ⟨_, rfl, _, rfl, rfl, _, rfl, ?_⟩
      by_cases exy : x = y
      · subst exy
        have e : unlB T x x = false := by
          unfold unlB
          rw [alike_self]
          cases decide (x ∈ gatesL (cutS T) (orbL (cutS T) x)) <;> rfl
        rw [e] at q
        rw [decide_eq_true rfl]
        exact iteF (q _ S8)
      rw [decide_eq_false (fun h => exy (by have := V.int.inj h; omega))]
      unfold unlB at q
      have f1 : (if false = true then !inV (V.int (x : Int)) (natsV (gatesL (cutS T) (orbL (cutS T) x))) else inV (V.int (x : Int)) (natsV (gatesL (cutS T) (orbL (cutS T) x)))) = decide (x ∈ gatesL (cutS T) (orbL (cutS T) x)) := in_nats _ _
      have f2 : (if false = true then !inV (V.int (y : Int)) (natsV (gatesL (cutS T) (orbL (cutS T) x))) else inV (V.int (y : Int)) (natsV (gatesL (cutS T) (orbL (cutS T) x)))) = decide (y ∈ gatesL (cutS T) (orbL (cutS T) x)) := in_nats _ _
      refine iteT ⟨_, rfl, _, rfl, g, _, rfl, .inr (SqT.of hg), rfl, flat_nats _, _, by rw [f1], ite2 (fun c3 => ?_) (fun c3 => ?_)⟩
      · rw [c3, Bool.true_and] at q
        refine ⟨_, rfl, _, rfl, g, _, rfl, .inr (SqT.of hg), rfl, flat_nats _, _, by rw [f2], ite2 (fun c4 => ?_) (fun c4 => ?_)⟩
        · rw [c4, Bool.true_and] at q
          exact ⟨_, rfl, _, rfl, _, rfl, _, rfl, r, o, cutS T, orbL (cutS T) x, x, y, rfl, hR7.same s8, hGc, s8 _ _ ho, fun H9 s9 => ⟨_, rfl, q _ (S8.trans s9)⟩⟩
        · rw [eq_false_of_ne_true c4, Bool.false_and] at q
          exact q _ S8
      · rw [eq_false_of_ne_true c3, Bool.false_and] at q
        exact q _ S8
end
end My
namespace My
open PySem PySem.Spec PyProof.Rows L2
/-! ### reasons: what a first reason is, and that no reason is behind a smooth system -/
theorem orb_in {S : Sy} {s : Nat} (h : s ∈ S.st) : orbL S s ∈ orbsL S := by
  obtain ⟨i, r, hr, hs⟩ := orbs_mem h
  have hm := List.mem_of_getElem? hr
  obtain ⟨x, hx, rfl, _⟩ := orbsL_get hm
  have hb := mem_orb.mp hs
  rw [orb_eq hb.2.2 hb.2.1]
  exact hm
theorem ent_kid {S R : Sy} {s : Nat} (hs : s ∈ S.st) (h : entL S s = some R) (ns : stuckB S = false) : ∃ k ∈ kidsL S, k.2 = R := by
  unfold entL at h
  split at h
  case isFalse => cases h
  case isTrue hr =>
    have e := Option.some.inj h
    refine ⟨((orbL (cutS S) s).headD 0, innS (cutS S) (orbL (cutS S) s)), ?_, e⟩
    unfold kidsL
    rw [if_neg (by rw [ns]; exact Bool.false_ne_true)]
    exact List.mem_map.mpr ⟨_, List.mem_filter.mpr ⟨orb_in (S := cutS S) hs, hr⟩, rfl⟩
theorem smooth_ent {S R : Sy} {s : Nat} (G : Good S) (sm : smoothB S = true) (hs : s ∈ S.st) (h : entL S s = some R) : smoothB R = true := by
  obtain ⟨h1, h2⟩ := (smooth_kids G).mp sm
  have ns : stuckB S = false := by
    unfold whyL at h1
    cases e : stuckB S with
    | false => rfl
    | true =>
      rw [if_pos e] at h1
      cases h1
  obtain ⟨k, hk, rfl⟩ := ent_kid hs h ns
  exact h2 k hk
theorem smooth_beh : ∀ (js : List J) {S T : Sy}, Good S → smoothB S = true → behJ (some S) js = some T → smoothB T = true
  | [], S, T, G, sm, h => by
    rw [← Option.some.inj h]
    exact sm
  | j :: js, S, T, G, sm, h => by
    have h : (match intJ j with
      | some i => if 0 ≤ i ∧ i.toNat ∈ S.st then behJ (entL S i.toNat) js else none
      | none => none) = some T := h
    cases hj : intJ j with
    | none => rw [hj] at h; cases h
    | some i =>
      rw [hj] at h
      have h : (if 0 ≤ i ∧ i.toNat ∈ S.st then behJ (entL S i.toNat) js else none) = some T := h
      by_cases c : 0 ≤ i ∧ i.toNat ∈ S.st
      · rw [if_pos c] at h
        cases he : entL S i.toNat with
        | none => rw [he, behJ_none] at h; cases h
        | some R =>
          rw [he] at h
          exact smooth_beh js (ent_good G c.2 he) (smooth_ent G sm c.2 he) h
      · rw [if_neg c] at h
        cases h
theorem alike_symm {R : Sy} {o : List Nat} (x y : Nat) : alikeB R o x y = alikeB R o y x := by
  unfold alikeB
  rw [Bool.beq_comm, show decide (exitsL R o x = exitsL R o y) = decide (exitsL R o y = exitsL R o x) from decide_eq_decide.mpr eq_comm]
theorem fp_none {al : Nat → Nat → Bool} {g : List Nat} (h : fp al g = none) {i j x y : Nat} (hij : i < j) (hx : g[i]? = some x) (hy : g[j]? = some y) : al x y = true := by
  unfold fp at h
  rw [List.findSome?_eq_none_iff] at h
  have hl := (List.getElem?_eq_some_iff.mp hx).1
  have h1 := h i (List.mem_range.mpr hl)
  rw [List.findSome?_eq_none_iff] at h1
  have h2 := h1 y (by
    refine List.mem_of_getElem? (i := j - (i + 1)) ?_
    rw [List.getElem?_drop, show i + 1 + (j - (i + 1)) = j by omega]
    exact hy)
  rw [List.getD_eq_getElem?_getD, hx] at h2
  unfold pairF at h2
  split at h2
  · rename_i c
    exact c
  · cases h2
theorem unl_none {R : Sy} (h : unlL R = none) {o : List Nat} (ho : o ∈ orbsL R) {x y : Nat} (hx : x ∈ gatesL R o) (hy : y ∈ gatesL R o) : alikeB R o x y = true := by
  have h1 := (List.findSome?_eq_none_iff.mp h) o ho
  obtain ⟨i, hi⟩ := List.mem_iff_getElem?.mp hx
  obtain ⟨j, hj⟩ := List.mem_iff_getElem?.mp hy
  rcases Nat.lt_trichotomy i j with c | c | c
  · exact fp_none h1 c hi hj
  · subst c
    rw [hi] at hj
    rw [← Option.some.inj hj]
    exact alike_self x
  · rw [alike_symm]
    exact fp_none h1 c hj hi
theorem unl_get {R : Sy} {x : Nat × Nat} (h : unlL R = some x) : ∃ o ∈ orbsL R, x.1 ∈ gatesL R o ∧ x.2 ∈ gatesL R o ∧ alikeB R o x.1 x.2 = false := by
  obtain ⟨o, ho, h1⟩ := fs_some h
  obtain ⟨j, hj, h2⟩ := fs_some h1
  obtain ⟨y, hy, h3⟩ := fs_some h2
  have hj := List.mem_range.mp hj
  have m1 : (gatesL R o).getD j 0 ∈ gatesL R o := by
    rw [List.getD_eq_getElem?_getD, List.getElem?_eq_getElem hj]
    exact List.getElem_mem hj
  unfold pairF at h3
  split at h3
  · cases h3
  · rename_i c
    have e := Option.some.inj h3
    rw [← e]
    exact ⟨o, ho, m1, List.mem_of_mem_drop hy, eq_false_of_ne_true c⟩
def whyJs : Why → List J
  | none => [.str "stuck"]
  | some x => [.str "gates", .int (x.1 : Int), .int (x.2 : Int)]
theorem why_acc {T : Sy} {y : Why} (h : whyL T = some y) : whyB T (whyJs y) = true := by
  unfold whyL at h
  split at h
  · rename_i c
    obtain rfl := Option.some.inj h
    show (wordJ "stuck" (.str "stuck") && stuckB T) = true
    rw [c, show wordJ "stuck" (.str "stuck") = true from decide_eq_true (rfl : Str.ofString "stuck" = Str.ofString "stuck")]
    rfl
  · obtain ⟨x, hx, rfl⟩ := Option.map_eq_some_iff.mp h
    obtain ⟨o, ho, h1, h2, h3⟩ := unl_get hx
    obtain ⟨z, hz, rfl, _⟩ := orbsL_get ho
    have m := unl_mem hx
    have hb := mem_orb.mp (List.mem_filter.mp h1).1
    have eo : orbL (cutS T) z = orbL (cutS T) x.1 := orb_eq hb.2.1 hb.2.2
    rw [eo] at h1 h2 h3
    show (wordJ "gates" (.str "gates") && unlikeJ T (.int (x.1 : Int)) (.int (x.2 : Int))) = true
    rw [show wordJ "gates" (.str "gates") = true from decide_eq_true (rfl : Str.ofString "gates" = Str.ofString "gates"), unlike_yes (T := T) (x := x.1) (y := x.2) m.1 m.2]
    unfold unlB
    rw [decide_eq_true h1, decide_eq_true h2, h3]
    rfl
theorem acc_why {T : Sy} {ws : List J} (h : whyB T ws = true) : whyL T ≠ none := by
  unfold whyL
  split
  · intro h
    cases h
  · rename_i c
    intro hn
    have hn : unlL (cutS T) = none := Option.map_eq_none_iff.mp hn
    unfold whyB at h
    split at h
    · rw [Bool.and_eq_true] at h
      exact c h.2
    · rename_i a b d
      rw [Bool.and_eq_true] at h
      have hu := h.2
      have hst : stJ T b = true ∧ stJ T d = true := by
        by_cases c2 : stJ T b = true ∧ stJ T d = true
        · exact c2
        · rw [unlike_no c2] at hu
          cases hu
      obtain ⟨x, rfl, hx⟩ := st_int hst.1
      obtain ⟨y, rfl, hy⟩ := st_int hst.2
      rw [unlike_yes hx hy] at hu
      unfold unlB at hu
      rw [Bool.and_eq_true, Bool.and_eq_true, decide_eq_true_eq, decide_eq_true_eq] at hu
      have := unl_none hn (orb_in (S := cutS T) hx) hu.1 hu.2.1
      rw [this] at hu
      exact absurd hu.2.2 (by decide)
    · cases h
theorem acc_reason {S : Sy} (G : Good S) {j : J} (h : accJ S j = true) : reasonL S ≠ none := by
  intro hn
  have sm : smoothB S = true := by
    unfold smoothB
    rw [hn]
    rfl
  unfold accJ at h
  split at h
  · split at h
    · rename_i jp jt _ T hb
      split at h
      · unfold behV at hb
        split at hb
        · split at hb
          · have := smooth_beh _ G sm hb
            exact acc_why h ((smooth_kids (behJ_good _ G hb)).mp this).1
          · cases hb
        · cases hb
      · cases h
    · cases h
  · cases h
theorem reason_acc {S : Sy} (G : Good S) (h6 : S.st.length ≤ 6) {x : List Nat × Why} (h : reasonL S = some x) : accJ S (.tup [.tup (pathJ x.1), .tup (whyJs x.2)]) = true := by
  obtain ⟨nd, hn, h1⟩ := fs_some h
  obtain ⟨y, hy, e⟩ := Option.map_eq_some_iff.mp h1
  have hb := walk_beh G nd hn
  have hl := path_dep G nd hn
  have h4 := mv_four G
  show (match behV S (.tup (pathJ x.1)) with
    | some T => whyB T (whyJs x.2)
    | none => false) = true
  rw [← e]
  show (match behV S (.tup (pathJ nd.1)) with
    | some T => whyB T (whyJs y)
    | none => false) = true
  have : behV S (.tup (pathJ nd.1)) = some nd.2 := by
    show (if (pathJ nd.1).length ≤ 40 then behJ (some S) (pathJ nd.1) else none) = _
    rw [if_pos (by unfold pathJ; rw [List.length_map]; omega)]
    exact hb
  rw [this]
  exact why_acc hy
end My
namespace My
open PySem PySem.Spec PyProof.Rows L2
def LeafO (v : V) : Prop := v = .non ∨ (∃ b, v = .bl b) ∨ (∃ i, v = .int i) ∨ ∃ z, v = .str z ∧ (PyData.str z).canLay0 = true
theorem lo_non : LeafO .non := .inl rfl
theorem lo_int (i : Int) : LeafO (.int i) := .inr (.inr (.inl ⟨i, rfl⟩))
theorem lo_str {z : Str} (h : (PyData.str z).canLay0 = true) : LeafO (.str z) := .inr (.inr (.inr ⟨z, rfl, h⟩))
theorem LeafO.kp {a : Addr} {H : Hp} {v : V} (h : LeafO v) (n : Nat) : ∃ j, Kp a H v j n ∧ okJ j = true := by
  rcases h with rfl | ⟨b, rfl⟩ | ⟨i, rfl⟩ | ⟨z, rfl, hz⟩
  · exact ⟨.non, fun _ _ => .non, rfl⟩
  · exact ⟨.bl b, fun _ _ => .bl b, rfl⟩
  · exact ⟨.int i, fun _ _ => .int i, rfl⟩
  · exact ⟨.str z, fun _ _ => .str z, hz⟩
theorem leafs_kp {a : Addr} {H : Hp} {n : Nat} : ∀ {xs : List V}, (∀ x ∈ xs, LeafO x) → ∃ js, Two (fun x j => Kp a H x j n) xs js ∧ ∀ x ∈ js, okJ x = true
  | [], _ => ⟨[], .nil, fun x h => by cases h⟩
  | x :: xs, h => by
    obtain ⟨j, hj, ok⟩ := (h x List.mem_cons_self).kp (a := a) (H := H) n
    obtain ⟨js, hs, oks⟩ := leafs_kp fun y hy => h y (List.mem_cons_of_mem _ hy)
    refine ⟨j :: js, .cons hj hs, fun y hy => ?_⟩
    rcases List.mem_cons.mp hy with rfl | hy
    · exact ok
    · exact oks y hy
/-- a tuple of scalars -/
def FT (H : Hp) (q : Addr) : Prop := ∃ xs, H q = some (.tup xs) ∧ xs.length ≤ 2000 ∧ ∀ x ∈ xs, LeafO x
theorem FT.same {H H' : Hp} {q : Addr} (s : Same H H') (h : FT H q) : FT H' q := by
  obtain ⟨xs, h, l, k⟩ := h
  exact ⟨xs, s _ _ h, l, k⟩
theorem FT.kp {a : Addr} {H : Hp} {q : Addr} (st : Strm H a) (h : FT H q) : ∃ js, Kp a H (.ref q) (.tup js) 1 ∧ ∀ x ∈ js, okJ x = true := by
  obtain ⟨xs, h, l, k⟩ := h
  obtain ⟨js, two, ok⟩ := leafs_kp (a := a) (H := H) (n := 0) k
  exact ⟨js, .tup h (st.neT h) (by omega) two, ok⟩
/-- a value that draws leave, and whose trouble is of scalars -/
def KV (a : Addr) (H : Hp) (v : V) : Prop := ∃ j n, Kp a H v j n ∧ FlatR j
theorem KV.keep {a : Addr} {H H' : Hp} {v : V} (k : Keep a H H') (h : KV a H v) : KV a H' v := by
  obtain ⟨j, n, h1, h2⟩ := h
  exact ⟨j, n, h1.keep k, h2⟩
theorem KV.same {a : Addr} {H H' : Hp} {v : V} (k : Same H H') (h : KV a H v) : KV a H' v := h.keep (Keep.same k)
theorem kv_leaf {a : Addr} {H : Hp} {v : V} (h : LeafO v) : KV a H v := by
  obtain ⟨j, h1, h2⟩ := h.kp (a := a) (H := H) 0
  exact ⟨j, 0, h1, fun jp js e => by subst e; cases h2⟩
theorem kv_pair {a : Addr} {H : Hp} {q y : Addr} {x : V} (st : Strm H a) (h : H q = some (.tup [x, .ref y])) (hx : ∃ j, Kp a H x j 1) (hy : FT H y) : KV a H (.ref q) := by
  obtain ⟨j, hj⟩ := hx
  obtain ⟨js, hk, ok⟩ := hy.kp st
  refine ⟨.tup [j, .tup js], 2, .tup h (st.neT h) (by show 2 ≤ 100000; decide) (.cons hj (.cons hk .nil)), fun jp js' e => ?_⟩
  cases e
  exact ok
theorem kv_len {a : Addr} {H : Hp} {q : Addr} {xs : List V} (st : Strm H a) (h : H q = some (.tup xs)) (hl : xs.length ≠ 2) (hz : xs.length ≤ 100000) (hx : ∀ x ∈ xs, ∃ j, Kp a H x j 1) : KV a H (.ref q) := by
  obtain ⟨js, two⟩ := kp_all hx
  refine ⟨.tup js, 2, .tup h (st.neT h) hz two, fun jp js' e => ?_⟩
  cases e
  exact absurd two.len hl
theorem kv_two {a : Addr} {H : Hp} {q : Addr} {x u : V} (st : Strm H a) (h : H q = some (.tup [x, u])) (hx : ∃ j, Kp a H x j 1) (hu : ∃ j, Kp a H u j 1 ∧ tupJ j = none) : KV a H (.ref q) := by
  obtain ⟨j, hj⟩ := hx
  obtain ⟨k, hk, hn⟩ := hu
  refine ⟨.tup [j, k], 2, .tup h (st.neT h) (by show 2 ≤ 100000; decide) (.cons hj (.cons hk .nil)), fun jp js' e => ?_⟩
  cases e
  cases hn
theorem kv_lst {a : Addr} {H : Hp} {q : Addr} {xs : List V} (ne : q ≠ a) (h : H q = some (.lst xs)) (hz : xs.length ≤ 100000) (hx : ∀ x ∈ xs, ∃ j, Kp a H x j 1) : KV a H (.ref q) := by
  obtain ⟨js, two⟩ := kp_all hx
  exact ⟨.lst js, 2, .lst h ne hz two, fun jp js' e => nomatch e⟩
theorem leaf_tup0 {a : Addr} {H : Hp} {u : V} (h : LeafO u) : ∃ j, Kp a H u j 1 ∧ tupJ j = none := by
  obtain ⟨j, h1, h2⟩ := h.kp (a := a) (H := H) 1
  exact ⟨j, h1, by cases j <;> first | rfl | cases h2⟩
theorem leaf_ex {a : Addr} {H : Hp} {u : V} (h : LeafO u) : ∃ j, Kp a H u j 1 := by
  obtain ⟨j, h1, _⟩ := h.kp (a := a) (H := H) 1
  exact ⟨j, h1⟩
theorem ft_ex {a : Addr} {H : Hp} {q : Addr} (st : Strm H a) (h : FT H q) : ∃ j, Kp a H (.ref q) j 1 := by
  obtain ⟨js, h1, _⟩ := h.kp st
  exact ⟨_, h1⟩
theorem kv_more {a : Addr} {H H' : Hp} {xs : List V} {y : V} (s : Same H H') (h : ∀ x ∈ xs, KV a H x) (hy : KV a H' y) : ∀ x ∈ xs ++ [y], KV a H' x := fun x hx => by
  rcases List.mem_append.mp hx with hx | hx
  · exact (h x hx).same s
  · rw [List.mem_singleton.mp hx]
    exact hy
theorem ft_more {H H' : Hp} {xs : List V} {y : Addr} (s : Same H H') (h : ∀ x ∈ xs, ∃ q, x = .ref q ∧ FT H q) (hy : FT H' y) : ∀ x ∈ xs ++ [V.ref y], ∃ q, x = .ref q ∧ FT H' q := fun x hx => by
  rcases List.mem_append.mp hx with hx | hx
  · obtain ⟨q, e, hq⟩ := h x hx
    exact ⟨q, e, hq.same s⟩
  · exact ⟨y, List.mem_singleton.mp hx, hy⟩
/-- a reason, or what looks like one -/
def VAL (H : Hp) (v : V) : Prop := ∃ t p w ps ws, v = .ref t ∧ H t = some (.tup [.ref p, .ref w]) ∧ H p = some (.tup ps) ∧ H w = some (.tup ws) ∧ ps.length ≤ 1000 ∧ (∀ x ∈ ps, LeafO x) ∧ 0 < ws.length ∧ ws.length ≤ 3 ∧ ∀ x ∈ ws, LeafO x
theorem lo_nats {xs : List Nat} : ∀ x ∈ natsV xs, LeafO x := fun x hx => by
  obtain ⟨i, _, rfl⟩ := List.mem_map.mp hx
  exact lo_int _
def spDrawn : Sp := fun vs H Q _ => ∃ (a p : Addr) (S : Sy), vs = [.ref a, .ref p] ∧ Strm H a ∧ SysAt H p S ∧ Good S ∧ ∀ v H', Go a H H' → VAL H' v → Q v H'
def spTurned : Sp := fun vs H Q _ => ∃ (a p t : Addr), vs = [.ref a, .ref p, .ref t] ∧ Strm H a ∧ VAL H (.ref t) ∧ ∀ v H', Go a H H' → KV a H' v → Q v H'
section
variable {P : Program} {w : World} {K : PySem.W.Frag} {mg : Str → Option Value} {base : Heap} {tL tM tV : Tok}
abbrev N__law_drawn : List Str := ["stream", "system", "path", "here", "step", "state", "why"]
theorem sc__law_drawn : FnScope ["stream", "system", "path", "here", "step", "state", "why"] ["stream", "system"] (defScope s__law_drawn) := ⟨rfl, rfl, rfl, by decide +kernel, rfl, by decide +kernel, by decide +kernel⟩
theorem ok_drawn {f : Addr} {fd : FuncData} (B : Bt K mg tL tM tV) (Dd : Df K mg "_law_drawn" s__law_drawn ["stream", "system"] f fd) (G_law_next : Cl P w K mg base 1 "_law_next" ["stream", "many"] spNext) (G_law_entered : Cl P w K mg base 4 "_law_entered" ["system", "state"] spLEnt) : FnOk P w K mg base CX0 5 f fd ["stream", "system"] spDrawn := by
  refine Dd.F.ok sc__law_drawn (fun vs H Q Ex h => ?_) (fun cdv A outer s H vs Q Ex hr h => ?_)
  · obtain ⟨a, p, S, rfl, _⟩ := h
    rfl
  obtain ⟨a, p, S, rfl, st, hS, hG, q⟩ := h
  refine ⟨_, (pss_cons (ps_set (i := 2) sc__law_drawn.nd rfl (Or.inl rfl) (pe_tup pa_nil))
    (pss_cons (ps_set (i := 3) sc__law_drawn.nd rfl (Or.inl rfl) (pv 1))
    (pss_cons (ps_for PassesOwn.never rfl (pi_range1 rfl B.b_range (pa_cons (pe_cl G_law_next (hr.mono (by omega)) rfl (pa_cons (pv 0) (pa_cons pe_int pa_nil))) pa_nil)) (pg_name (i := 4) sc__law_drawn.nd rfl (Or.inl rfl)) (pss_cons (ps_set (i := 5) sc__law_drawn.nd rfl (Or.inl rfl) (pe_ix (r := rIxT K) ix_tup (pe_ix (r := rIxT K) ix_tup (pv 3) pe_int (fun _ _ => rfl)) (pe_cl G_law_next (hr.mono (by omega)) rfl (pa_cons (pv 0) (pa_cons (pe_callB call_len rfl B.b_len boot_len (pa_cons (pe_ix (r := rIxT K) ix_tup (pv 3) pe_int (fun _ _ => rfl)) pa_nil)) pa_nil))) (fun _ _ => rfl)))
    (pss_one (ps_if (pt_cmpR op_notN (pe_cl G_law_entered (hr.mono (by omega)) rfl (pa_cons (pv 3) (pa_cons (pv 5) pa_nil))) pe_non (nomark _)) (pss_cons (ps_set (i := 3) sc__law_drawn.nd rfl (Or.inl rfl) (pe_cl G_law_entered (hr.mono (by omega)) rfl (pa_cons (pv 3) (pa_cons (pv 5) pa_nil))))
    (pss_one (ps_set (i := 2) sc__law_drawn.nd rfl (Or.inl rfl) (pe_op op_catA (pv 2) (pe_tup (pa_cons (pv 5) pa_nil)))))) pss_nil))))
    (pss_cons (ps_set (i := 6) sc__law_drawn.nd rfl (Or.inl rfl) (pe_tup (pa_cons pe_str pa_nil)))
    (C8.pss_cut (ps_if (pt_cmpR op_eq (pe_cl G_law_next (hr.mono (by omega)) rfl (pa_cons (pv 0) (pa_cons pe_int pa_nil))) pe_int (nomark _)) (pss_one (ps_set (i := 6) sc__law_drawn.nd rfl (Or.inl rfl) (pe_tup (pa_cons pe_str (pa_cons (pe_ix (r := rIxT K) ix_tup (pe_ix (r := rIxT K) ix_tup (pv 3) pe_int (fun _ _ => rfl)) (pe_cl G_law_next (hr.mono (by omega)) rfl (pa_cons (pv 0) (pa_cons (pe_callB call_len rfl B.b_len boot_len (pa_cons (pe_ix (r := rIxT K) ix_tup (pv 3) pe_int (fun _ _ => rfl)) pa_nil)) pa_nil))) (fun _ _ => rfl)) (pa_cons (pe_ix (r := rIxT K) ix_tup (pe_ix (r := rIxT K) ix_tup (pv 3) pe_int (fun _ _ => rfl)) (pe_cl G_law_next (hr.mono (by omega)) rfl (pa_cons (pv 0) (pa_cons (pe_callB call_len rfl B.b_len boot_len (pa_cons (pe_ix (r := rIxT K) ix_tup (pv 3) pe_int (fun _ _ => rfl)) pa_nil)) pa_nil))) (fun _ _ => rfl)) pa_nil)))))) pss_nil)
    (pss_one (ps_ret (pe_tup (pa_cons (pv 2) (pa_cons (pv 6) pa_nil)))))))))), ?_⟩
  refine ⟨by show 0 ≤ sizeLine; decide, fun T0 hT0 => ?_⟩
  have g1 := Go.new (o := .tup []) st hT0
  have h1 : (upd H T0 (.tup [])) T0 = some (.tup (natsV [])) := upd_same
  revert g1 h1
  generalize upd H T0 (.tup []) = H1
  intro g1 h1
  refine ⟨_, rfl, _, rfl, a, 4, rfl, g1.st, by decide, by decide, fun d H2 d0 d1 g2 => ?_⟩
  refine ⟨d, rfl, by omega, by omega, for_range (lo := 0) (n := d.toNat) (fun k σ' H' => ∃ (tp th : Addr) (path : List Nat) (T : Sy) (o4 o5 : Option V), σ' = [some (.ref a), some (.ref p), some (.ref tp), some (.ref th), o4, o5, none] ∧ Go a H H' ∧ H' tp = some (.tup (natsV path)) ∧ SysAt H' th T ∧ Good T ∧ path.length ≤ k) ?_ ?_ ?_⟩
  · exact ⟨T0, p, [], S, none, none, rfl, g1.trans g2, g2.pers.tup _ _ h1, hS.pers (g1.trans g2).pers, hG, Nat.le_refl _⟩
  · rintro k σ' H7 hk ⟨tp, th, path, T, o4, o5, rfl, g7, htp, hth, hT, hpl⟩
    obtain ⟨ta, tb, tc, tms, q1, q2, q3, q4, q5⟩ := id hth.ex
    have tl := hT.len
    have t0 : 0 < T.st.length := List.length_pos_iff.mpr hT.ne
    refine ⟨_, rfl, th, _, 0, _, rfl, rfl, SqT.of q1, at_zero, ?_⟩
    refine ⟨_, rfl, _, rfl, th, _, 0, _, rfl, rfl, SqT.of q1, at_zero, _, T.st.length, rfl, .inr ⟨_, SqT.of q2, by rw [natsV_len]⟩, a, _, rfl, g7.st, by omega, by omega, fun d2 H8 e0 e1 g8 => ?_⟩
    obtain ⟨x, hx, hxm⟩ := atI_nats (xs := T.st) (n := T.st.length) rfl e0 e1
    refine ⟨ta, _, _, _, rfl, rfl, SqT.of (g8.pers.tup _ _ q2), hx, ?_⟩
    have g8' := g7.trans g8
    have hth8 := hth.pers g8.pers
    refine ⟨_, rfl, _, rfl, th, T, x, rfl, hth8, hT, hxm, fun v9 H9 s9 hv9 => ?_⟩
    have g9 := g8'.trans (Go.same g8'.st s9)
    have htp9 := s9 _ _ (g8.pers.tup _ _ htp)
    cases he : entL T x with
    | none =>
      rw [he] at hv9
      obtain rfl : v9 = .non := hv9
      exact ⟨rfl, _, rfl, iteF ⟨tp, th, path, T, _, _, rfl, g9, htp9, hth8.same s9, hT, Nat.le_succ_of_le hpl⟩⟩
    | some T2 =>
      rw [he] at hv9
      obtain ⟨t9, rfl, ht9⟩ := hv9
      refine ⟨rfl, _, rfl, iteT ⟨_, rfl, _, rfl, th, T, x, rfl, hth8.same s9, hT, hxm, fun v10 H10 s10 hv10 => ?_⟩⟩
      rw [he] at hv10
      obtain ⟨t10, rfl, ht10⟩ := hv10
      refine ⟨_, rfl, _, rfl, by show 1 ≤ sizeLine; decide, fun Z hZ => ?_⟩
      have uZ := same_upd (o := .tup [V.int (x : Int)]) hZ
      refine catA_of (uZ _ _ (s10 _ _ htp9)) upd_same (by rw [natsV_len]; exact Nat.le_trans (m := 10) (by show path.length + 1 ≤ 10; omega) (by decide)) fun y H11 s11 hy => ?_
      rw [natsV_snoc] at hy
      have S11 := s10.trans (uZ.trans s11)
      exact ⟨y, t10, path ++ [x], T2, _, _, rfl, g9.trans (Go.same g9.st S11), hy, ht10.same (uZ.trans s11), ent_good hT hxm he, by rw [List.length_append, List.length_singleton]; omega⟩
  · rintro σ' H7 ⟨tp, th, path, T, o4, o5, rfl, g7, htp, hth, hT, hpl⟩
    obtain ⟨ta, tb, tc, tms, q1, q2, q3, q4, q5⟩ := id hth.ex
    have tl := hT.len
    have t0 : 0 < T.st.length := List.length_pos_iff.mpr hT.ne
    refine ⟨by show 1 ≤ sizeLine; decide, fun W hW => ?_⟩
    have g8 := g7.trans (Go.new (o := .tup [V.str "stuck"]) g7.st hW)
    have hW8 : (upd H7 W (.tup [V.str "stuck"])) W = some (.tup [V.str "stuck"]) := upd_same
    have u8 := same_upd (o := .tup [V.str "stuck"]) hW
    revert g8 hW8 u8
    generalize upd H7 W (.tup [V.str "stuck"]) = H8
    intro g8 hW8 u8
    have ls : LeafO (V.str "stuck") := lo_str (by decide +kernel)
    have lg : LeafO (V.str "gates") := lo_str (by decide +kernel)
    refine ⟨fun σ' H' => ∃ (wa : Addr) (ws : List V), σ' = [some (.ref a), some (.ref p), some (.ref tp), some (.ref th), o4, o5, some (.ref wa)] ∧ Go a H H' ∧ H' tp = some (.tup (natsV path)) ∧ H' wa = some (.tup ws) ∧ 0 < ws.length ∧ ws.length ≤ 3 ∧ ∀ x ∈ ws, LeafO x, ?_, ?_⟩
    · refine ⟨_, rfl, a, 2, rfl, g8.st, by decide, by decide, fun d2 H9 e0 e1 g9 => ⟨rfl, _, rfl, ite2 (fun c => ?_) (fun c => ?_)⟩⟩
      · have p9 := u8.trans (Same.refl _)
        have g9' := g8.trans g9
        have q19 := g9.pers.tup _ _ (u8 _ _ q1)
        have q29 := g9.pers.tup _ _ (u8 _ _ q2)
        have htp9 := g9.pers.tup _ _ (u8 _ _ htp)
        refine ⟨_, rfl, th, _, 0, _, rfl, rfl, SqT.of q19, at_zero, ?_⟩
        refine ⟨_, rfl, _, rfl, th, _, 0, _, rfl, rfl, SqT.of q19, at_zero, _, T.st.length, rfl, .inr ⟨_, SqT.of q29, by rw [natsV_len]⟩, a, _, rfl, g9'.st, by omega, by omega, fun d3 H10 e0 e1 g10 => ?_⟩
        obtain ⟨x, hx, hxm⟩ := atI_nats (xs := T.st) (n := T.st.length) rfl e0 e1
        have q1a := g10.pers.tup _ _ q19
        have q2a := g10.pers.tup _ _ q29
        have g10' := g9'.trans g10
        refine ⟨ta, _, _, _, rfl, rfl, SqT.of q2a, hx, ?_⟩
        refine ⟨_, rfl, th, _, 0, _, rfl, rfl, SqT.of q1a, at_zero, ?_⟩
        refine ⟨_, rfl, _, rfl, th, _, 0, _, rfl, rfl, SqT.of q1a, at_zero, _, T.st.length, rfl, .inr ⟨_, SqT.of q2a, by rw [natsV_len]⟩, a, _, rfl, g10'.st, by omega, by omega, fun d4 H11 e0 e1 g11 => ?_⟩
        obtain ⟨y, hy, hym⟩ := atI_nats (xs := T.st) (n := T.st.length) rfl e0 e1
        have g11' := g10'.trans g11
        refine ⟨ta, _, _, _, rfl, rfl, SqT.of (g11.pers.tup _ _ q2a), hy, ?_⟩
        refine ⟨by show 3 ≤ sizeLine; decide, fun Z hZ => ⟨Z, _, rfl, g11'.trans (Go.new g11'.st hZ), same_upd hZ _ _ (g11.pers.tup _ _ (g10.pers.tup _ _ htp9)), upd_same, by show 0 < 3; decide, by show 3 ≤ 3; decide, fun z hz => ?_⟩⟩
        simp only [List.mem_cons, List.not_mem_nil, or_false] at hz
        rcases hz with rfl | rfl | rfl
        · exact lg
        · exact lo_int _
        · exact lo_int _
      · exact ⟨W, _, rfl, g8.trans g9, g9.pers.tup _ _ (u8 _ _ htp), g9.pers.tup _ _ hW8, by show 0 < 1; decide, by show 1 ≤ 3; decide, fun z hz => by rw [List.mem_singleton.mp hz]; exact ls⟩
    · rintro σ' H9 ⟨wa, ws, rfl, g9, htp9, hwa, w0, w3, wl⟩
      refine ⟨_, rfl, _, rfl, by show 2 ≤ sizeLine; decide, fun Z hZ => q _ _ (g9.trans (Go.new g9.st hZ)) ⟨Z, tp, wa, _, ws, rfl, upd_same, same_upd hZ _ _ htp9, same_upd hZ _ _ hwa, by rw [natsV_len]; omega, lo_nats, w0, w3, wl⟩⟩
end
end My
namespace My
open PySem PySem.Spec PyProof.Rows L2
theorem cut_leaf {xs : List V} {lo hi : Option Int} (h : ∀ x ∈ xs, LeafO x) : ∀ x ∈ cutV xs lo hi, LeafO x := fun x hx => h x (mem_cut hx)
theorem app_leaf {xs ys : List V} (h : ∀ x ∈ xs, LeafO x) (k : ∀ x ∈ ys, LeafO x) : ∀ x ∈ xs ++ ys, LeafO x := fun x hx => by
  rcases List.mem_append.mp hx with hx | hx
  · exact h x hx
  · exact k x hx
theorem one_leaf {v : V} (h : LeafO v) : ∀ x ∈ [v], LeafO x := fun x hx => by
  rw [List.mem_singleton.mp hx]
  exact h
section
variable {P : Program} {w : World} {K : PySem.W.Frag} {mg : Str → Option Value} {base : Heap} {tL tM tV : Tok}
abbrev N__law_turned : List Str := ["stream", "system", "value", "path", "why", "pick", "state", "odd", "rows"]
theorem sc__law_turned : FnScope ["stream", "system", "value", "path", "why", "pick", "state", "odd", "rows"] ["stream", "system", "value"] (defScope s__law_turned) := ⟨rfl, rfl, rfl, by decide +kernel, rfl, by decide +kernel, by decide +kernel⟩
set_option maxHeartbeats 4000000 in
theorem ok_turned {f : Addr} {fd : FuncData} (B : Bt K mg tL tM tV) (Dd : Df K mg "_law_turned" s__law_turned ["stream", "system", "value"] f fd) (G_law_next : Cl P w K mg base 1 "_law_next" ["stream", "many"] spNext) : FnOk P w K mg base CX0 2 f fd ["stream", "system", "value"] spTurned := by
  refine Dd.F.ok sc__law_turned (fun vs H Q Ex h => ?_) (fun cdv A outer s H vs Q Ex hr h => ?_)
  · obtain ⟨a, p, t, rfl, _⟩ := h
    rfl
  obtain ⟨a, pS, t, rfl, st, hv, q⟩ := h
  refine ⟨_, (pss_cons (ps_asg (pv 2) (pg_tup rfl (pgs_cons (pg_name (i := 3) sc__law_turned.nd rfl (Or.inl rfl)) (pgs_cons (pg_name (i := 4) sc__law_turned.nd rfl (Or.inl rfl)) pgs_nil))))
    (pss_cons (ps_set (i := 5) sc__law_turned.nd rfl (Or.inl rfl) (pe_cl G_law_next (hr.mono (by omega)) rfl (pa_cons (pv 0) (pa_cons pe_int pa_nil))))
    (pss_cons (ps_set (i := 6) sc__law_turned.nd rfl (Or.inl rfl) (pe_cl G_law_next (hr.mono (by omega)) rfl (pa_cons (pv 0) (pa_cons pe_int pa_nil))))
    (pss_cons (ps_if (pt_cmpR op_eq (pv 5) pe_int (nomark _)) (pss_cons (ps_set (i := 7) sc__law_turned.nd rfl (Or.inl rfl) (pe_lst (pa_cons pe_non (pa_cons (pe_callTy call_list_of rfl B.b_list boot_list (pa_cons (pv 2) pa_nil)) (pa_cons (pe_tup (pa_cons (pv 3) pa_nil)) (pa_cons (pe_op op_catA (pv 2) (pe_tup (pa_cons pe_int pa_nil))) (pa_cons (pe_tup (pa_cons (pv 4) (pa_cons (pv 3) pa_nil))) (pa_cons (pe_tup (pa_cons (pe_callTy call_list_of rfl B.b_list boot_list (pa_cons (pv 3) pa_nil)) (pa_cons (pv 4) pa_nil))) (pa_cons (pe_tup (pa_cons (pv 3) (pa_cons (pe_callTy call_list_of rfl B.b_list boot_list (pa_cons (pv 4) pa_nil)) pa_nil))) (pa_cons (pe_tup (pa_cons (pv 3) (pa_cons (pe_ix (r := rIxT K) ix_tup (pv 4) pe_int (fun _ _ => rfl)) pa_nil))) (pa_cons (pe_tup (pa_cons (pv 3) (pa_cons (pe_tup pa_nil) pa_nil))) (pa_cons (pe_tup (pa_cons (pv 3) (pa_cons pe_non pa_nil))) pa_nil))))))))))))
    (pss_one (ps_ret (pe_ix (r := rIxL K) ix_list (pv 7) (pe_cl G_law_next (hr.mono (by omega)) rfl (pa_cons (pv 0) (pa_cons pe_int pa_nil))) (fun _ _ => rfl))))) pss_nil)
    (pss_cons (ps_if (pt_cmpR op_eq (pv 5) pe_int (nomark _)) (pss_cons (ps_set (i := 8) sc__law_turned.nd rfl (Or.inl rfl) (pe_lst (pa_cons (pe_op op_catA (pv 3) (pe_tup (pa_cons (pv 6) pa_nil))) (pa_cons (pe_slice sl_tupA (pv 3) po_none (po_some (pe_un un_neg pe_int))) (pa_cons (pe_slice sl_tupA (pv 3) (po_some pe_int) po_none) (pa_cons (pe_op op_catA (pv 3) (pe_tup (pa_cons pe_non pa_nil))) (pa_cons (pe_op op_catA (pe_tup (pa_cons (pv 6) pa_nil)) (pv 3)) (pa_cons (pe_op op_catA (pv 3) (pe_tup (pa_cons (pe_un un_neg pe_int) pa_nil))) (pa_cons (pe_op op_catA (pv 3) (pe_tup (pa_cons pe_str pa_nil))) pa_nil)))))))))
    (pss_one (ps_ret (pe_tup (pa_cons (pe_ix (r := rIxL K) ix_list (pv 8) (pe_cl G_law_next (hr.mono (by omega)) rfl (pa_cons (pv 0) (pa_cons pe_int pa_nil))) (fun _ _ => rfl)) (pa_cons (pv 4) pa_nil)))))) pss_nil)
    (pss_cons (ps_if (pt_cmpR op_eq (pv 5) pe_int (nomark _)) (pss_cons (ps_set (i := 8) sc__law_turned.nd rfl (Or.inl rfl) (pe_lst (pa_cons (pe_tup (pa_cons pe_str pa_nil)) (pa_cons (pe_tup (pa_cons pe_str (pa_cons pe_int pa_nil))) (pa_cons (pe_tup (pa_cons pe_str pa_nil)) (pa_cons (pe_op op_catA (pe_tup (pa_cons pe_str pa_nil)) (pe_slice sl_tupA (pv 4) (po_some pe_int) po_none)) (pa_cons (pe_tup (pa_cons pe_str (pa_cons (pv 6) (pa_cons (pv 6) pa_nil)))) (pa_cons (pe_op op_catA (pe_tup (pa_cons pe_str pa_nil)) (pe_rev (r := rRvT K) (rv_tup rfl) (pe_slice sl_tupA (pv 4) (po_some pe_int) po_none))) (pa_cons (pe_op op_catA (pe_tup (pa_cons pe_non pa_nil)) (pe_slice sl_tupA (pv 4) (po_some pe_int) po_none)) pa_nil)))))))))
    (pss_cons (ps_set (i := 8) sc__law_turned.nd rfl (Or.inl rfl) (pe_op op_cat (pv 8) (pe_lst (pa_cons (pe_op op_catA (pe_slice sl_tupA (pv 4) po_none (po_some (pe_un un_neg pe_int))) (pe_tup (pa_cons (pv 6) pa_nil))) (pa_cons (pe_op op_catA (pv 4) (pe_tup (pa_cons (pv 6) pa_nil))) (pa_cons (pe_op op_catA (pe_slice sl_tupA (pv 4) po_none (po_some (pe_un un_neg pe_int))) (pe_tup (pa_cons pe_non pa_nil))) (pa_cons (pe_op op_catA (pe_slice sl_tupA (pv 4) po_none (po_some (pe_un un_neg pe_int))) (pe_tup (pa_cons pe_str pa_nil))) (pa_cons (pe_op op_catA (pe_tup (pa_cons pe_int pa_nil)) (pe_slice sl_tupA (pv 4) (po_some pe_int) po_none)) pa_nil))))))))
    (pss_one (ps_ret (pe_tup (pa_cons (pv 3) (pa_cons (pe_ix (r := rIxL K) ix_list (pv 8) (pe_cl G_law_next (hr.mono (by omega)) rfl (pa_cons (pv 0) (pa_cons pe_int pa_nil))) (fun _ _ => rfl)) pa_nil))))))) pss_nil)
    (pss_one (ps_ret (pv 2))))))))), ?_⟩
  obtain ⟨t', p, w', ps, ws, e, ht, hp, hw, pl, plf, w0, w3, wlf⟩ := hv
  cases e
  refine ⟨_, rfl, t, _, rfl, SqT.of ht, rfl, _, _, rfl, _, _, rfl, rfl, ?_⟩
  refine ⟨_, rfl, a, 5, rfl, st, by decide, by decide, fun pick H1 e0 e1 g1 => ?_⟩
  refine ⟨_, rfl, a, 12, rfl, g1.st, by decide, by decide, fun sn H2 d0 d1 g2 => ?_⟩
  have G2 := g1.trans g2
  have st2 := G2.st
  have ht2 := G2.pers.tup _ _ ht
  have hp2 := G2.pers.tup _ _ hp
  have hw2 := G2.pers.tup _ _ hw
  have fp2 : FT H2 p := ⟨ps, hp2, by omega, plf⟩
  have fw2 : FT H2 w' := ⟨ws, hw2, by omega, wlf⟩
  have sL : ∀ {n : Nat}, n ≤ 3000 → n ≤ sizeLine := fun h => Nat.le_trans h (by decide)
  have lsn : LeafO (V.int sn) := lo_int sn
  refine ⟨_, rfl, rfl, _, rfl, ite2 (fun c => ?_) (fun c => ?_)⟩
  · -- None, list(value)
    refine ⟨_, rfl, t, _, rfl, .inr (SqT.of ht2), fun l1 hl1 => ?_⟩
    have kx : ∀ x ∈ [V.ref p, V.ref w'], ∃ j, Kp a H2 x j 1 := fun x hx => by
      simp only [List.mem_cons, List.not_mem_nil, or_false] at hx
      rcases hx with rfl | rfl
      · exact ft_ex st2 fp2
      · exact ft_ex st2 fw2
    have kpx : ∃ j, Kp a H2 (V.ref p) j 1 := ft_ex st2 fp2
    have kwx : ∃ j, Kp a H2 (V.ref w') j 1 := ft_ex st2 fw2
    have up : ∀ {H' : Hp} {x : V}, Same H2 H' → (∃ j, Kp a H2 x j 1) → ∃ j, Kp a H' x j 1 := fun s ⟨j, h⟩ => ⟨j, h.same s⟩
    have sA := same_upd (o := .lst [V.ref p, V.ref w']) hl1
    have iA : (upd H2 l1 (.lst [V.ref p, V.ref w'])) l1 = some (.lst [V.ref p, V.ref w']) := upd_same
    have nA : l1 ≠ a := (st2.ne hl1).symm
    revert sA iA
    generalize upd H2 l1 (.lst [V.ref p, V.ref w']) = HA
    intro sA iA
    have k1 := kv_more (xs := [V.non]) sA (fun x hx => by rw [List.mem_singleton.mp hx]; exact kv_leaf lo_non) (kv_lst nA iA (by show 2 ≤ 100000; decide) fun x hx => up sA (kx x hx))
    -- (path,)
    refine ⟨_, rfl, by show 1 ≤ sizeLine; decide, fun l2 hl2 => ?_⟩
    have sB := same_upd (o := .tup [V.ref p]) hl2
    have iB : (upd HA l2 (.tup [V.ref p])) l2 = some (.tup [V.ref p]) := upd_same
    revert sB iB
    generalize upd HA l2 (.tup [V.ref p]) = HB
    intro sB iB
    have SB := sA.trans sB
    have stB := st2.same SB
    have k2 := kv_more sB k1 (kv_len stB iB (by show (1 : Nat) ≠ 2; decide) (by show 1 ≤ 100000; decide) fun x hx => up SB (by rw [List.mem_singleton.mp hx]; exact kpx))
    -- value + (0,)
    refine ⟨_, rfl, by show 1 ≤ sizeLine; decide, fun l3 hl3 => ?_⟩
    have uC := same_upd (o := .tup [V.int 0]) hl3
    refine catA_of (uC _ _ (SB _ _ ht2)) upd_same (by show 2 + 1 ≤ sizeLine; decide) fun y3 HC sC iC => ?_
    have sC := uC.trans sC
    have SC := SB.trans sC
    have k3 := kv_more sC k2 (kv_len (st2.same SC) iC (by show (3 : Nat) ≠ 2; decide) (by show 3 ≤ 100000; decide) fun x hx => up SC (by
      rcases List.mem_append.mp hx with hx | hx
      · exact kx x hx
      · rw [List.mem_singleton.mp hx]; exact leaf_ex (lo_int 0)))
    -- (why, path)
    refine ⟨_, rfl, _, rfl, by show 2 ≤ sizeLine; decide, fun l4 hl4 => ?_⟩
    have sD := same_upd (o := .tup [V.ref w', V.ref p]) hl4
    have iD : (upd HC l4 (.tup [V.ref w', V.ref p])) l4 = some (.tup [V.ref w', V.ref p]) := upd_same
    revert sD iD
    generalize upd HC l4 (.tup [V.ref w', V.ref p]) = HD
    intro sD iD
    have SD := SC.trans sD
    have k4 := kv_more sD k3 (kv_pair (st2.same SD) iD (up SD kwx) (fp2.same SD))
    -- (list(path), why)
    refine ⟨_, rfl, p, ps, rfl, .inr (SqT.of (SD _ _ hp2)), fun l5 hl5 => ?_⟩
    have sE := same_upd (o := .lst ps) hl5
    have iE : (upd HD l5 (.lst ps)) l5 = some (.lst ps) := upd_same
    have nE : l5 ≠ a := ((st2.same SD).ne hl5).symm
    revert sE iE
    generalize upd HD l5 (.lst ps) = HE
    intro sE iE
    have SE := SD.trans sE
    have kl : ∃ j, Kp a HE (V.ref l5) j 1 := by
      obtain ⟨js, two, _⟩ := leafs_kp (a := a) (H := HE) (n := 0) plf
      exact ⟨_, Kp.lst iE nE (by omega) two⟩
    refine ⟨_, rfl, by show 2 ≤ sizeLine; decide, fun l6 hl6 => ?_⟩
    have sF := same_upd (o := .tup [V.ref l5, V.ref w']) hl6
    have iF : (upd HE l6 (.tup [V.ref l5, V.ref w'])) l6 = some (.tup [V.ref l5, V.ref w']) := upd_same
    revert sF iF
    generalize upd HE l6 (.tup [V.ref l5, V.ref w']) = HF
    intro sF iF
    have SF := SE.trans sF
    have klF : ∃ j, Kp a HF (V.ref l5) j 1 := by
      obtain ⟨j, hj⟩ := kl
      exact ⟨j, hj.same sF⟩
    have k5 := kv_more (sE.trans sF) k4 (kv_pair (st2.same SF) iF klF (fw2.same SF))
    -- (path, list(why))
    refine ⟨_, rfl, _, rfl, w', ws, rfl, .inr (SqT.of (SF _ _ hw2)), fun l7 hl7 => ?_⟩
    have sG := same_upd (o := .lst ws) hl7
    have iG : (upd HF l7 (.lst ws)) l7 = some (.lst ws) := upd_same
    have nG : l7 ≠ a := ((st2.same SF).ne hl7).symm
    revert sG iG
    generalize upd HF l7 (.lst ws) = HG
    intro sG iG
    have SG := SF.trans sG
    refine ⟨by show 2 ≤ sizeLine; decide, fun l8 hl8 => ?_⟩
    have sH := same_upd (o := .tup [V.ref p, V.ref l7]) hl8
    have iH : (upd HG l8 (.tup [V.ref p, V.ref l7])) l8 = some (.tup [V.ref p, V.ref l7]) := upd_same
    revert sH iH
    generalize upd HG l8 (.tup [V.ref p, V.ref l7]) = HH
    intro sH iH
    have SH := SG.trans sH
    have klH : ∃ j, Kp a HH (V.ref l7) j 1 ∧ tupJ j = none := by
      obtain ⟨js, two, _⟩ := leafs_kp (a := a) (H := HH) (n := 0) wlf
      exact ⟨_, Kp.lst (sH _ _ iG) nG (by omega) two, rfl⟩
    have k6 := kv_more (sG.trans sH) k5 (kv_two (st2.same SH) iH (up SH kpx) klH)
    -- (path, why[0])
    obtain ⟨w1, wr, rfl⟩ : ∃ x xs, ws = x :: xs := by
      cases ws with
      | nil => exact absurd w0 (by decide)
      | cons x xs => exact ⟨x, xs, rfl⟩
    refine ⟨_, rfl, _, rfl, w', _, 0, _, rfl, rfl, SqT.of (SH _ _ hw2), at_zero, by show 2 ≤ sizeLine; decide, fun l9 hl9 => ?_⟩
    have sI := same_upd (o := .tup [V.ref p, w1]) hl9
    have iI : (upd HH l9 (.tup [V.ref p, w1])) l9 = some (.tup [V.ref p, w1]) := upd_same
    revert sI iI
    generalize upd HH l9 (.tup [V.ref p, w1]) = HI
    intro sI iI
    have SI := SH.trans sI
    have k7 := kv_more sI k6 (kv_two (st2.same SI) iI (up SI kpx) (leaf_tup0 (wlf w1 List.mem_cons_self)))
    -- (path, ())
    refine ⟨_, rfl, by show 0 ≤ sizeLine; decide, fun la hla => ?_⟩
    have sJ := same_upd (o := .tup []) hla
    have iJ : (upd HI la (.tup [])) la = some (.tup []) := upd_same
    revert sJ iJ
    generalize upd HI la (.tup []) = HJ
    intro sJ iJ
    have SJ := SI.trans sJ
    refine ⟨by show 2 ≤ sizeLine; decide, fun lb hlb => ?_⟩
    have sK := same_upd (o := .tup [V.ref p, V.ref la]) hlb
    have iK : (upd HJ lb (.tup [V.ref p, V.ref la])) lb = some (.tup [V.ref p, V.ref la]) := upd_same
    revert sK iK
    generalize upd HJ lb (.tup [V.ref p, V.ref la]) = HK
    intro sK iK
    have SK := SJ.trans sK
    have k8 := kv_more (sJ.trans sK) k7 (kv_pair (st2.same SK) iK (up SK kpx) ⟨[], sK _ _ iJ, by show 0 ≤ 2000; decide, fun x hx => by cases hx⟩)
    -- (path, None)
    refine ⟨_, rfl, by show 2 ≤ sizeLine; decide, fun lc hlc => ?_⟩
    have sM := same_upd (o := .tup [V.ref p, V.non]) hlc
    have iM : (upd HK lc (.tup [V.ref p, V.non])) lc = some (.tup [V.ref p, V.non]) := upd_same
    revert sM iM
    generalize upd HK lc (.tup [V.ref p, V.non]) = HM
    intro sM iM
    have SM := SK.trans sM
    have k9 := kv_more sM k8 (kv_two (st2.same SM) iM (up SM kpx) (leaf_tup0 lo_non))
    refine ⟨by show 10 ≤ sizeLine; decide, fun L hL => ?_⟩
    have sN := same_upd (o := .lst [V.non, V.ref l1, V.ref l2, V.ref y3, V.ref l4, V.ref l6, V.ref l8, V.ref l9, V.ref lb, V.ref lc]) hL
    have stM := st2.same SM
    have nL : L ≠ a := (stM.ne hL).symm
    have gN := G2.trans (Go.same st2 (SM.trans sN))
    have iL : (upd HM L (.lst [V.non, V.ref l1, V.ref l2, V.ref y3, V.ref l4, V.ref l6, V.ref l8, V.ref l9, V.ref lb, V.ref lc])) L = some (.lst [V.non, V.ref l1, V.ref l2, V.ref y3, V.ref l4, V.ref l6, V.ref l8, V.ref l9, V.ref lb, V.ref lc]) := upd_same
    refine ⟨_, rfl, _, rfl, a, 10, rfl, gN.st, by decide, by decide, fun d3 HF2 f0 f1 g3 => ?_⟩
    obtain ⟨v, hv, hvm⟩ := at_draw (xs := [V.non, V.ref l1, V.ref l2, V.ref y3, V.ref l4, V.ref l6, V.ref l8, V.ref l9, V.ref lb, V.ref lc]) (n := 10) rfl f0 f1
    refine ⟨L, _, _, _, rfl, rfl, SqL.of (g3.keep _ _ iL nL), hv, ?_⟩
    exact q _ _ (gN.trans g3) (((k9 v hvm).same sN).keep g3.keep)
  · refine ⟨_, rfl, rfl, _, rfl, ite2 (fun c' => ?_) (fun c' => ?_)⟩
    · -- path + (state,)
      have ft_none : ∀ x ∈ ([] : List V), ∃ q, x = V.ref q ∧ FT H2 q := fun x hx => by cases hx
      have pcat : ∀ (v : V), LeafO v → ∀ {H' : Hp} {y : Addr}, H' y = some (.tup (ps ++ [v])) → FT H' y := fun v lv H' y h => ⟨_, h, by rw [List.length_append, List.length_singleton]; omega, app_leaf plf (one_leaf lv)⟩
      have cat1 : ∀ (v : V) (Hx : Hp) (Q' : VK), Hx p = some (.tup ps) → (∀ y H', Same Hx H' → H' y = some (.tup (ps ++ [v])) → Q' (.ref y) H') → 1 ≤ sizeLine ∧ ∀ Z, Hx Z = none → rCatA K (.ref p) (.ref Z) (upd Hx Z (.tup [v])) Q' := fun v Hx Q' h k => ⟨by show 1 ≤ sizeLine; decide, fun Z hZ => by
        have u := same_upd (o := .tup [v]) hZ
        exact catA_of (u _ _ h) upd_same (sL (by show ps.length + 1 ≤ 3000; omega)) fun y H' s' hy => k y H' (u.trans s') hy⟩
      refine ⟨_, rfl, _, rfl, cat1 _ H2 _ hp2 fun y1 HA sA i1 => ?_⟩
      have k1 := ft_more sA ft_none (pcat _ lsn i1)
      -- path[:-1]
      refine ⟨_, rfl, 1, rfl, -1, rfl, slA_of (sA _ _ hp2) fun y2 HB sB i2 => ?_⟩
      have SB := sA.trans sB
      have k2 := ft_more sB k1 ⟨_, i2, Nat.le_trans (cutV_length _ _ _) (by omega), cut_leaf plf⟩
      -- path[1:]
      refine ⟨_, rfl, 1, rfl, slA_lo (SB _ _ hp2) fun y3 HC sC i3 => ?_⟩
      have SC := SB.trans sC
      have k3 := ft_more sC k2 ⟨_, i3, Nat.le_trans (cutV_length _ _ _) (by omega), cut_leaf plf⟩
      -- path + (None,)
      refine ⟨_, rfl, cat1 _ HC _ (SC _ _ hp2) fun y4 HD sD i4 => ?_⟩
      have SD := SC.trans sD
      have k4 := ft_more sD k3 (pcat _ lo_non i4)
      -- (state,) + path
      refine ⟨_, rfl, by show 1 ≤ sizeLine; decide, fun Z hZ => ⟨_, rfl, ?_⟩⟩
      have uZ := same_upd (o := .tup [V.int sn]) hZ
      refine catA_of upd_same (uZ _ _ (SD _ _ hp2)) (sL (by show 1 + ps.length ≤ 3000; omega)) fun y5 HE sE i5 => ?_
      have sE := uZ.trans sE
      have SE := SD.trans sE
      have k5 := ft_more sE k4 ⟨_, i5, by rw [List.length_append]; show 1 + ps.length ≤ 2000; omega, app_leaf (one_leaf lsn) plf⟩
      -- path + (-1,)
      refine ⟨_, rfl, _, rfl, cat1 _ HE _ (SE _ _ hp2) fun y6 HF sF i6 => ?_⟩
      have SF := SE.trans sF
      have k6 := ft_more sF k5 (pcat _ (lo_int _) i6)
      -- path + ('0',)
      refine ⟨_, rfl, cat1 _ HF _ (SF _ _ hp2) fun y7 HG sG i7 => ?_⟩
      have SG := SF.trans sG
      have k7 := ft_more sG k6 (pcat _ (lo_str (by decide +kernel)) i7)
      refine ⟨by show 7 ≤ sizeLine; decide, fun L hL => ?_⟩
      have sN := same_upd (o := .lst [V.ref y1, V.ref y2, V.ref y3, V.ref y4, V.ref y5, V.ref y6, V.ref y7]) hL
      have stG := st2.same SG
      have nL : L ≠ a := (stG.ne hL).symm
      have gN := G2.trans (Go.same st2 (SG.trans sN))
      have iL : (upd HG L (.lst [V.ref y1, V.ref y2, V.ref y3, V.ref y4, V.ref y5, V.ref y6, V.ref y7])) L = some (.lst [V.ref y1, V.ref y2, V.ref y3, V.ref y4, V.ref y5, V.ref y6, V.ref y7]) := upd_same
      refine ⟨_, rfl, _, rfl, a, 7, rfl, gN.st, by decide, by decide, fun d3 HF2 f0 f1 g3 => ?_⟩
      obtain ⟨v, hv, hvm⟩ := at_draw (xs := [V.ref y1, V.ref y2, V.ref y3, V.ref y4, V.ref y5, V.ref y6, V.ref y7]) (n := 7) rfl f0 f1
      obtain ⟨y, rfl, fy⟩ := k7 v hvm
      obtain ⟨yx, hy, yl, ylf⟩ := fy.same sN
      refine ⟨L, _, _, _, rfl, rfl, SqL.of (g3.keep _ _ iL nL), hv, ?_⟩
      have g4 := gN.trans g3
      refine ⟨_, rfl, by show 2 ≤ sizeLine; decide, fun Z2 hZ2 => ?_⟩
      have u2 := same_upd (o := .tup [V.ref y, V.ref w']) hZ2
      have hw4 := g3.pers.tup _ _ ((SG.trans sN) _ _ hw2)
      exact q _ _ (g4.trans (Go.same g4.st u2)) (kv_pair (g4.st.same u2) upd_same (ft_ex (g4.st.same u2) ⟨yx, u2 _ _ (g3.pers.tup _ _ hy), yl, ylf⟩) ⟨ws, u2 _ _ hw4, by omega, wlf⟩)
    · refine ⟨_, rfl, rfl, _, rfl, ite2 (fun c'' => ?_) (fun c'' => ?_)⟩
      · have ft_none : ∀ x ∈ ([] : List V), ∃ q, x = V.ref q ∧ FT H2 q := fun x hx => by cases hx
        have ls : LeafO (V.str "stuck") := lo_str (by decide +kernel)
        have lg : LeafO (V.str "gates") := lo_str (by decide +kernel)
        have lg1 : LeafO (V.str "gate") := lo_str (by decide +kernel)
        have l0 : LeafO (V.str "0") := lo_str (by decide +kernel)
        have cl : ∀ {lo hi : Option Int}, (cutV ws lo hi).length ≤ 3 := Nat.le_trans (cutV_length _ _ _) w3
        have c0 : ∀ {lo hi : Option Int}, ∀ x ∈ cutV ws lo hi, LeafO x := cut_leaf wlf
        have sml : ∀ {n m : Nat}, n ≤ 3 → m ≤ 1 → n + m ≤ sizeLine := fun h h' => sL (by omega)
        have sml' : ∀ {n m : Nat}, n ≤ 1 → m ≤ 3 → n + m ≤ sizeLine := fun h h' => sL (by omega)
        -- 1
        refine ⟨by show 1 ≤ sizeLine; decide, fun y1 hy1 => ?_⟩
        have s1 := same_upd (o := .tup [V.str "stuck"]) hy1
        have i1 : (upd H2 y1 (.tup [V.str "stuck"])) y1 = some (.tup [V.str "stuck"]) := upd_same
        revert s1 i1
        generalize upd H2 y1 (.tup [V.str "stuck"]) = HA1
        intro s1 i1
        have S1 : Same H2 HA1 := (Same.refl H2).trans s1
        have k1 := ft_more s1 ft_none ⟨_, i1, by show 1 ≤ 2000; decide, fun x hx => by
          simp only [List.mem_cons, List.not_mem_nil, or_false] at hx
          rw [hx]; exact ls⟩
        -- 2
        refine ⟨by show 2 ≤ sizeLine; decide, fun y2 hy2 => ?_⟩
        have s2 := same_upd (o := .tup [V.str "stuck", V.int 0]) hy2
        have i2 : (upd HA1 y2 (.tup [V.str "stuck", V.int 0])) y2 = some (.tup [V.str "stuck", V.int 0]) := upd_same
        revert s2 i2
        generalize upd HA1 y2 (.tup [V.str "stuck", V.int 0]) = HA2
        intro s2 i2
        have S2 : Same H2 HA2 := (S1).trans s2
        have k2 := ft_more s2 k1 ⟨_, i2, by show 2 ≤ 2000; decide, fun x hx => by
          simp only [List.mem_cons, List.not_mem_nil, or_false] at hx
          rcases hx with rfl | rfl; exact ls; exact lo_int _⟩
        -- 3
        refine ⟨by show 1 ≤ sizeLine; decide, fun y3 hy3 => ?_⟩
        have s3 := same_upd (o := .tup [V.str "gates"]) hy3
        have i3 : (upd HA2 y3 (.tup [V.str "gates"])) y3 = some (.tup [V.str "gates"]) := upd_same
        revert s3 i3
        generalize upd HA2 y3 (.tup [V.str "gates"]) = HA3
        intro s3 i3
        have S3 : Same H2 HA3 := (S2).trans s3
        have k3 := ft_more s3 k2 ⟨_, i3, by show 1 ≤ 2000; decide, fun x hx => by
          simp only [List.mem_cons, List.not_mem_nil, or_false] at hx
          rw [hx]; exact lg⟩
        -- 4
        refine ⟨by show 1 ≤ sizeLine; decide, fun z4 hz4 => ?_⟩
        have u4 := same_upd (o := .tup [V.str "gate"]) hz4
        have j4 : (upd HA3 z4 (.tup [V.str "gate"])) z4 = some (.tup [V.str "gate"]) := upd_same
        revert u4 j4
        generalize upd HA3 z4 (.tup [V.str "gate"]) = HB4
        intro u4 j4
        refine ⟨_, rfl, 1, rfl, slA_lo (((S3).trans u4) _ _ hw2) fun c4 HC4 v4 hc4 => ?_⟩
        refine catA_of (v4 _ _ j4) hc4 (sml' (Nat.le_refl 1) cl) fun y4 HA4 x4 i4 => ?_
        have s4 : Same HA3 HA4 := u4.trans (v4.trans x4)
        have S4 : Same H2 HA4 := (S3).trans s4
        have k4 := ft_more s4 k3 ⟨_, i4, by rw [List.length_append]; have := cl (lo := some 1) (hi := none); show 1 + _ ≤ 2000; omega, app_leaf (one_leaf lg1) c0⟩
        -- 5
        refine ⟨_, rfl, _, rfl, by show 3 ≤ sizeLine; decide, fun y5 hy5 => ?_⟩
        have s5 := same_upd (o := .tup [V.str "gates", V.int sn, V.int sn]) hy5
        have i5 : (upd HA4 y5 (.tup [V.str "gates", V.int sn, V.int sn])) y5 = some (.tup [V.str "gates", V.int sn, V.int sn]) := upd_same
        revert s5 i5
        generalize upd HA4 y5 (.tup [V.str "gates", V.int sn, V.int sn]) = HA5
        intro s5 i5
        have S5 : Same H2 HA5 := (S4).trans s5
        have k5 := ft_more s5 k4 ⟨_, i5, by show 3 ≤ 2000; decide, fun x hx => by
          simp only [List.mem_cons, List.not_mem_nil, or_false] at hx
          rcases hx with rfl | rfl | rfl; exact lg; exact lsn; exact lsn⟩
        -- 6
        refine ⟨by show 1 ≤ sizeLine; decide, fun z6 hz6 => ?_⟩
        have u6 := same_upd (o := .tup [V.str "gates"]) hz6
        have j6 : (upd HA5 z6 (.tup [V.str "gates"])) z6 = some (.tup [V.str "gates"]) := upd_same
        revert u6 j6
        generalize upd HA5 z6 (.tup [V.str "gates"]) = HB6
        intro u6 j6
        refine ⟨_, rfl, 1, rfl, slA_lo (((S5).trans u6) _ _ hw2) fun c6 HC6 v6 hc6 => ?_⟩
        refine ⟨c6, _, rfl, SqT.of hc6, fun r6 hr6 => ?_⟩
        have v26 := same_upd (o := .tup (cutV ws (some 1) none).reverse) hr6
        refine catA_of (v26 _ _ (v6 _ _ j6)) upd_same (sml' (Nat.le_refl 1) (by rw [List.length_reverse]; exact cl)) fun y6 HA6 x6 i6 => ?_
        have s6 : Same HA5 HA6 := u6.trans (v6.trans (v26.trans x6))
        have S6 : Same H2 HA6 := (S5).trans s6
        have k6 := ft_more s6 k5 ⟨_, i6, by rw [List.length_append, List.length_reverse]; have := cl (lo := some 1) (hi := none); show 1 + _ ≤ 2000; omega, app_leaf (one_leaf lg) fun x hx => c0 x (List.mem_reverse.mp hx)⟩
        -- 7
        refine ⟨by show 1 ≤ sizeLine; decide, fun z7 hz7 => ?_⟩
        have u7 := same_upd (o := .tup [V.non]) hz7
        have j7 : (upd HA6 z7 (.tup [V.non])) z7 = some (.tup [V.non]) := upd_same
        revert u7 j7
        generalize upd HA6 z7 (.tup [V.non]) = HB7
        intro u7 j7
        refine ⟨_, rfl, 1, rfl, slA_lo (((S6).trans u7) _ _ hw2) fun c7 HC7 v7 hc7 => ?_⟩
        refine catA_of (v7 _ _ j7) hc7 (sml' (Nat.le_refl 1) cl) fun y7 HA7 x7 i7 => ?_
        have s7 : Same HA6 HA7 := u7.trans (v7.trans x7)
        have S7 : Same H2 HA7 := (S6).trans s7
        have k7 := ft_more s7 k6 ⟨_, i7, by rw [List.length_append]; have := cl (lo := some 1) (hi := none); show 1 + _ ≤ 2000; omega, app_leaf (one_leaf lo_non) c0⟩
        refine ⟨by show 7 ≤ sizeLine; decide, fun L1 hL1 => ?_⟩
        have sN := same_upd (o := .lst [V.ref y1, V.ref y2, V.ref y3, V.ref y4, V.ref y5, V.ref y6, V.ref y7]) hL1
        have iN : (upd HA7 L1 (.lst [V.ref y1, V.ref y2, V.ref y3, V.ref y4, V.ref y5, V.ref y6, V.ref y7])) L1 = some (.lst [V.ref y1, V.ref y2, V.ref y3, V.ref y4, V.ref y5, V.ref y6, V.ref y7]) := upd_same
        revert sN iN
        generalize upd HA7 L1 (.lst [V.ref y1, V.ref y2, V.ref y3, V.ref y4, V.ref y5, V.ref y6, V.ref y7]) = HN
        intro sN iN
        have SN : Same H2 HN := S7.trans sN
        have kN : ∀ x ∈ [V.ref y1, V.ref y2, V.ref y3, V.ref y4, V.ref y5, V.ref y6, V.ref y7], ∃ q, x = V.ref q ∧ FT HN q := fun x hx => by
          obtain ⟨q, e, hq⟩ := k7 x hx
          exact ⟨q, e, hq.same sN⟩
        refine ⟨_, rfl, ?_⟩
        have ft_none2 : ∀ x ∈ ([] : List V), ∃ q, x = V.ref q ∧ FT HN q := fun x hx => by cases hx
        -- 8
        refine ⟨_, rfl, 1, rfl, -1, rfl, slA_of ((SN) _ _ hw2) fun c8 HC8 v8 hc8 => ?_⟩
        refine ⟨_, rfl, by show 1 ≤ sizeLine; decide, fun z8 hz8 => ?_⟩
        have u8 := same_upd (o := .tup [V.int sn]) hz8
        refine catA_of (u8 _ _ hc8) upd_same (sml cl (Nat.le_refl 1)) fun y8 HA8 x8 i8 => ?_
        have s8 : Same HN HA8 := v8.trans (u8.trans x8)
        have S8 : Same H2 HA8 := (SN).trans s8
        have k8 := ft_more s8 ft_none2 ⟨_, i8, by rw [List.length_append, List.length_singleton]; have := cl (lo := none) (hi := some (-1)); omega, app_leaf c0 (one_leaf lsn)⟩
        -- 9
        refine ⟨_, rfl, _, rfl, by show 1 ≤ sizeLine; decide, fun z9 hz9 => ?_⟩
        have u9 := same_upd (o := .tup [V.int sn]) hz9
        refine catA_of (u9 _ _ ((S8) _ _ hw2)) upd_same (sml w3 (Nat.le_refl 1)) fun y9 HA9 x9 i9 => ?_
        have s9 : Same HA8 HA9 := u9.trans x9
        have S9 : Same H2 HA9 := (S8).trans s9
        have k9 := ft_more s9 k8 ⟨_, i9, by rw [List.length_append, List.length_singleton]; omega, app_leaf wlf (one_leaf lsn)⟩
        -- 10
        refine ⟨_, rfl, 1, rfl, -1, rfl, slA_of ((S9) _ _ hw2) fun c10 HC10 v10 hc10 => ?_⟩
        refine ⟨by show 1 ≤ sizeLine; decide, fun z10 hz10 => ?_⟩
        have u10 := same_upd (o := .tup [V.non]) hz10
        refine catA_of (u10 _ _ hc10) upd_same (sml cl (Nat.le_refl 1)) fun y10 HA10 x10 i10 => ?_
        have s10 : Same HA9 HA10 := v10.trans (u10.trans x10)
        have S10 : Same H2 HA10 := (S9).trans s10
        have k10 := ft_more s10 k9 ⟨_, i10, by rw [List.length_append, List.length_singleton]; have := cl (lo := none) (hi := some (-1)); omega, app_leaf c0 (one_leaf lo_non)⟩
        -- 11
        refine ⟨_, rfl, 1, rfl, -1, rfl, slA_of ((S10) _ _ hw2) fun c11 HC11 v11 hc11 => ?_⟩
        refine ⟨by show 1 ≤ sizeLine; decide, fun z11 hz11 => ?_⟩
        have u11 := same_upd (o := .tup [V.str "0"]) hz11
        refine catA_of (u11 _ _ hc11) upd_same (sml cl (Nat.le_refl 1)) fun y11 HA11 x11 i11 => ?_
        have s11 : Same HA10 HA11 := v11.trans (u11.trans x11)
        have S11 : Same H2 HA11 := (S10).trans s11
        have k11 := ft_more s11 k10 ⟨_, i11, by rw [List.length_append, List.length_singleton]; have := cl (lo := none) (hi := some (-1)); omega, app_leaf c0 (one_leaf l0)⟩
        -- 12
        refine ⟨by show 1 ≤ sizeLine; decide, fun z12 hz12 => ?_⟩
        have u12 := same_upd (o := .tup [V.int 7]) hz12
        have j12 : (upd HA11 z12 (.tup [V.int 7])) z12 = some (.tup [V.int 7]) := upd_same
        revert u12 j12
        generalize upd HA11 z12 (.tup [V.int 7]) = HB12
        intro u12 j12
        refine ⟨_, rfl, 1, rfl, slA_lo (((S11).trans u12) _ _ hw2) fun c12 HC12 v12 hc12 => ?_⟩
        refine catA_of (v12 _ _ j12) hc12 (sml' (Nat.le_refl 1) cl) fun y12 HA12 x12 i12 => ?_
        have s12 : Same HA11 HA12 := u12.trans (v12.trans x12)
        have S12 : Same H2 HA12 := (S11).trans s12
        have k12 := ft_more s12 k11 ⟨_, i12, by rw [List.length_append]; have := cl (lo := some 1) (hi := none); show 1 + _ ≤ 2000; omega, app_leaf (one_leaf (lo_int 7)) c0⟩
        refine ⟨by show 5 ≤ sizeLine; decide, fun L2 hL2 => ?_⟩
        have S2N := s8.trans (s9.trans (s10.trans (s11.trans s12)))
        have sO := same_upd (o := .lst [V.ref y8, V.ref y9, V.ref y10, V.ref y11, V.ref y12]) hL2
        refine ⟨L1, L2, _, _, rfl, rfl, sO _ _ (S2N _ _ iN), upd_same, by show 7 + 5 ≤ sizeLine; decide, fun L3 hL3 => ?_⟩
        have sP := same_upd (o := .lst [V.ref y1, V.ref y2, V.ref y3, V.ref y4, V.ref y5, V.ref y6, V.ref y7, V.ref y8, V.ref y9, V.ref y10, V.ref y11, V.ref y12]) hL3
        have SP := S12.trans (sO.trans sP)
        have st12 := st2.same (S12.trans sO)
        have nL : L3 ≠ a := (st12.ne hL3).symm
        have gN := G2.trans (Go.same st2 SP)
        have iL : (upd (upd HA12 L2 (.lst [V.ref y8, V.ref y9, V.ref y10, V.ref y11, V.ref y12])) L3 (.lst [V.ref y1, V.ref y2, V.ref y3, V.ref y4, V.ref y5, V.ref y6, V.ref y7, V.ref y8, V.ref y9, V.ref y10, V.ref y11, V.ref y12])) L3 = some (.lst [V.ref y1, V.ref y2, V.ref y3, V.ref y4, V.ref y5, V.ref y6, V.ref y7, V.ref y8, V.ref y9, V.ref y10, V.ref y11, V.ref y12]) := upd_same
        refine ⟨_, rfl, _, rfl, _, rfl, a, 12, rfl, gN.st, by decide, by decide, fun d3 HF2 f0 f1 g3 => ?_⟩
        obtain ⟨v, hv, hvm⟩ := at_draw (xs := [V.ref y1, V.ref y2, V.ref y3, V.ref y4, V.ref y5, V.ref y6, V.ref y7, V.ref y8, V.ref y9, V.ref y10, V.ref y11, V.ref y12]) (n := 12) rfl f0 f1
        obtain ⟨y, rfl, fy⟩ : ∃ q, v = V.ref q ∧ FT HA12 q := by
          rcases List.mem_append.mp (show v ∈ [V.ref y1, V.ref y2, V.ref y3, V.ref y4, V.ref y5, V.ref y6, V.ref y7] ++ [V.ref y8, V.ref y9, V.ref y10, V.ref y11, V.ref y12] from hvm) with h | h
          · obtain ⟨q, e, hq⟩ := kN v h
            exact ⟨q, e, hq.same S2N⟩
          · exact k12 v h
        obtain ⟨yx, hy, yl, ylf⟩ := fy.same (sO.trans sP)
        refine ⟨L3, _, _, _, rfl, rfl, SqL.of (g3.keep _ _ iL nL), hv, ?_⟩
        have g4 := gN.trans g3
        refine ⟨by show 2 ≤ sizeLine; decide, fun Z2 hZ2 => ?_⟩
        have u2 := same_upd (o := .tup [V.ref p, V.ref y]) hZ2
        have hp4 := g3.pers.tup _ _ (SP _ _ hp2)
        exact q _ _ (g4.trans (Go.same g4.st u2)) (kv_pair (g4.st.same u2) upd_same (ft_ex (g4.st.same u2) ⟨ps, u2 _ _ hp4, by omega, plf⟩) ⟨yx, u2 _ _ (g3.pers.tup _ _ hy), yl, ylf⟩)
      · exact ⟨_, rfl, q _ _ G2 (kv_pair st2 ht2 (ft_ex st2 fp2) fw2)⟩
end
end My
namespace My
open PySem PySem.Spec PyProof.Rows L2
theorem whyJs_ok : ∀ (y : Why), ∀ x ∈ whyJs y, okJ x = true
  | none => fun x hx => by rw [List.mem_singleton.mp hx]; decide +kernel
  | some z => fun x hx => by
    simp only [whyJs, List.mem_cons, List.not_mem_nil, or_false] at hx
    rcases hx with rfl | rfl | rfl
    · decide +kernel
    · rfl
    · rfl
theorem why_two {H : Hp} : ∀ (y : Why), Two (fun x j => RepJ H x j 0) (whyV y) (whyJs y)
  | none => .cons (.str _) .nil
  | some z => .cons (.str _) (.cons (.int _) (.cons (.int _) .nil))
theorem why_leaf : ∀ (y : Why), ∀ x ∈ whyV y, LeafO x
  | none => fun x hx => by rw [List.mem_singleton.mp hx]; exact lo_str (by decide +kernel)
  | some z => fun x hx => by
    simp only [whyV, List.mem_cons, List.not_mem_nil, or_false] at hx
    rcases hx with rfl | rfl | rfl
    · exact lo_str (by decide +kernel)
    · exact lo_int _
    · exact lo_int _
theorem why_vlen : ∀ (y : Why), 0 < (whyV y).length ∧ (whyV y).length ≤ 3
  | none => ⟨by show 0 < 1; decide, by show 1 ≤ 3; decide⟩
  | some z => ⟨by show 0 < 3; decide, by show 3 ≤ 3; decide⟩
theorem first_rep {H : Hp} {v : V} {x : List Nat × Why} (h : ReasonAt H v (some x)) (hl : x.1.length ≤ 1000) : RepJ H v (.tup [.tup (pathJ x.1), .tup (whyJs x.2)]) 2 := by
  obtain ⟨t, a, b, rfl, h1, h2, h3⟩ := h
  refine repJ_two h1 (by show 2 ≤ 100000; decide) (.cons (repJ_two h2 (by rw [natsV_len]; omega) (two_nats _)) (.cons (repJ_two h3 (by have := (why_vlen x.2).2; omega) (why_two _)) .nil))
theorem first_val {H : Hp} {v : V} {x : List Nat × Why} (h : ReasonAt H v (some x)) (hl : x.1.length ≤ 1000) : VAL H v := by
  obtain ⟨t, a, b, rfl, h1, h2, h3⟩ := h
  exact ⟨t, a, b, _, _, rfl, h1, h2, h3, by rw [natsV_len]; exact hl, lo_nats, (why_vlen x.2).1, (why_vlen x.2).2, why_leaf _⟩
theorem rsn_pers {H H' : Hp} {v : V} {x : Option (List Nat × Why)} (s : Pers H H') (h : ReasonAt H v x) : ReasonAt H' v x := by
  cases x with
  | none => exact h
  | some x =>
    obtain ⟨t, a, b, e, h1, h2, h3⟩ := h
    exact ⟨t, a, b, e, s.tup _ _ h1, s.tup _ _ h2, s.tup _ _ h3⟩
theorem rsn_none {H : Hp} {v : V} {x : Option (List Nat × Why)} (h : ReasonAt H v x) : decide (v = .non) = x.isNone := by
  cases x with
  | none =>
    obtain rfl : v = .non := h
    rfl
  | some x =>
    obtain ⟨t, a, b, rfl, _⟩ := h
    rfl
section
variable {P : Program} {w : World} {K : PySem.W.Frag} {mg : Str → Option Value} {base : Heap} {tL tM tV : Tok}
abbrev N_law : List Str := ["script", "stream", "system", "first", "turn", "value", "answer"]
theorem sc_law : FnScope ["script", "stream", "system", "first", "turn", "value", "answer"] ["script"] (defScope s_law) := ⟨rfl, rfl, rfl, by decide +kernel, rfl, by decide +kernel, by decide +kernel⟩
set_option maxHeartbeats 4000000 in
theorem ok_law {f : Addr} {fd : FuncData} (B : Bt K mg tL tM tV) (Dd : Df K mg "law" s_law ["script"] f fd)
    (G_law_stream : Cl P w K mg base 1 "_law_stream" ["script"] (spStream K)) (G_law_system : Cl P w K mg base 2 "_law_system" ["stream", "most"] spLawSys) (G_law_equal : Cl P w K mg base 5 "_law_equal" ["actual", "due"] (spEqual 4)) (G_law_next : Cl P w K mg base 1 "_law_next" ["stream", "many"] spNext)
    (Gfirst_reason : Cl P w K mg base 6 "first_reason" ["system"] spReason) (Gis_smooth : Cl P w K mg base 6 "is_smooth" ["system"] spSmooth) (Gaccepts_reason : Cl P w K mg base 6 "accepts_reason" ["system", "value"] spAccJ)
    (G_law_is_reason : Cl P w K mg base 6 "_law_is_reason" ["system", "value"] spAccJ) (G_law_drawn : Cl P w K mg base 5 "_law_drawn" ["stream", "system"] spDrawn) (G_law_turned : Cl P w K mg base 2 "_law_turned" ["stream", "system", "value"] spTurned) : FnOk P w K mg base CX0 9 f fd ["script"] (spLaw K) := by
  refine Dd.F.ok sc_law (fun vs H Q Ex h => ?_) (fun cdv A outer s H vs Q Ex hr h => ?_)
  · obtain ⟨s, ns, rfl, _⟩ := h
    rfl
  obtain ⟨s, ns, rfl, hs, hn, q⟩ := h
  refine ⟨_, (pss_cons (ps_set (i := 1) sc_law.nd rfl (Or.inl rfl) (pe_cl G_law_stream (hr.mono (by omega)) rfl (pa_cons (pv 0) pa_nil)))
    (pss_cons (ps_set (i := 2) sc_law.nd rfl (Or.inl rfl) (pe_cl G_law_system (hr.mono (by omega)) rfl (pa_cons (pv 1) (pa_cons pe_int pa_nil))))
    (pss_cons (ps_set (i := 3) sc_law.nd rfl (Or.inl rfl) (pe_cl Gfirst_reason (hr.mono (by omega)) rfl (pa_cons (pv 2) pa_nil)))
    (C8.pss_cut (ps_if (PW.pt (pw_or (pt_cmpR op_ne (pe_cmpR op_isN (pv 3) pe_non (nomark _)) (pe_cl Gis_smooth (hr.mono (by omega)) rfl (pa_cons (pv 2) pa_nil)) (nomark _)) (pw_or1 (PW.pt (pw_and (pt_cmpR op_notN (pv 3) pe_non (nomark _)) (pw_and1 (pt_cmpR op_notBl (pe_cl Gaccepts_reason (hr.mono (by omega)) rfl (pa_cons (pv 2) (pa_cons (pv 3) pa_nil))) pe_bl (nomark _)))))))) (pss_one (ps_ret pe_bl)) pss_nil)
    (pss_cons (ps_for PassesOwn.never rfl (pi_range1 rfl B.b_range (pa_cons pe_int pa_nil)) (pg_name (i := 4) sc_law.nd rfl (Or.inl rfl)) (pss_cons (ps_set (i := 5) sc_law.nd rfl (Or.inl rfl) (pe_cl G_law_drawn (hr.mono (by omega)) rfl (pa_cons (pv 1) (pa_cons (pv 2) pa_nil))))
    (C8.pss_cut (ps_if (PW.pt (pw_and (pt_cmpR op_notN (pv 3) pe_non (nomark _)) (pw_and1 (pt_cmpR op_eq (pe_cl G_law_next (hr.mono (by omega)) rfl (pa_cons (pv 1) (pa_cons pe_int pa_nil))) pe_int (nomark _))))) (pss_one (ps_set (i := 5) sc_law.nd rfl (Or.inl rfl) (pv 3))) pss_nil)
    (pss_cons (ps_set (i := 5) sc_law.nd rfl (Or.inl rfl) (pe_cl G_law_turned (hr.mono (by omega)) rfl (pa_cons (pv 1) (pa_cons (pv 2) (pa_cons (pv 5) pa_nil)))))
    (pss_cons (ps_set (i := 6) sc_law.nd rfl (Or.inl rfl) (pe_cl Gaccepts_reason (hr.mono (by omega)) rfl (pa_cons (pv 2) (pa_cons (pv 5) pa_nil))))
    (pss_one (ps_if (PW.pt (pw_or (pt_not (pt_val (pe_cl G_law_equal (hr.mono (by omega)) rfl (pa_cons (pv 6) (pa_cons (pe_cl G_law_is_reason (hr.mono (by omega)) rfl (pa_cons (pv 2) (pa_cons (pv 5) pa_nil))) pa_nil))))) (pw_or1 (PW.pt (pw_and (pt_truth (pv 6) (by intro _; rfl)) (pw_and1 (pt_cmpR op_isN (pv 3) pe_non (nomark _)))))))) (pss_one (ps_ret pe_bl)) pss_nil)))))))
    (pss_one (ps_ret pe_bl))))))), ?_⟩
  refine ⟨_, rfl, s, ns, rfl, hs, hn, fun a H1 s1 ha st1 => ?_⟩
  refine ⟨_, rfl, a, 6, rfl, st1, by decide, by decide, fun p S H2 g2 hS hG hl6 => ?_⟩
  have st2 := g2.st
  refine ⟨_, rfl, p, S, rfl, hS, hG, fun v3 H3 s3 hv3 => ?_⟩
  have hS3 := hS.same s3
  have st3 := st2.same s3
  refine ⟨fun σ' H' => σ' = [some (.ref s), some (.ref a), some (.ref p), some v3, none, none, none] ∧ Same H3 H', ?_, ?_⟩
  · refine ⟨_, rfl, rfl, _, rfl, p, S, rfl, hS3, hG, fun H4 s4 => ⟨rfl, _, rfl, ?_⟩⟩
    have hS4 := hS3.same s4
    have e1 : (!decide (V.bl (decide (v3 = V.non)) = V.bl (reasonL S).isNone)) = false := by
      rw [rsn_none hv3, decide_eq_true rfl]
      rfl
    rw [e1]
    refine iteF ⟨_, rfl, rfl, _, rfl, ?_⟩
    cases hr1 : reasonL S with
    | none =>
      rw [hr1] at hv3
      obtain rfl : v3 = .non := hv3
      exact iteF ⟨rfl, s4⟩
    | some x =>
      have hn3 := rsn_none hv3
      rw [hr1] at hv3 hn3
      rw [hn3]
      have hm := reason_mem hG hr1
      refine iteT ⟨_, rfl, _, rfl, p, v3, S, _, 2, rfl, hS4, hG, (first_rep hv3 hm.1).same s4, fun jp js e => ?_, fun H5 s5 => ?_⟩
      · cases e
        exact whyJs_ok _
      · rw [reason_acc hG hl6 hr1]
        exact ⟨_, _, rfl, rfl, _, rfl, iteF ⟨rfl, s4.trans s5⟩⟩
  · rintro σ' H4 ⟨rfl, s4⟩
    have hS4 := hS3.same s4
    have st4 := st3.same s4
    have hv4 := rsn_same s4 hv3
    refine ⟨8, rfl, by decide, by decide, for_range (lo := 0) (n := 8) (fun i σ' H' => ∃ o4 o5 o6, σ' = [some (.ref s), some (.ref a), some (.ref p), some v3, o4, o5, o6] ∧ Go a H4 H') ?_ ?_ ?_⟩
    · exact ⟨_, _, _, rfl, Go.refl st4⟩
    · rintro i σ' H5 hi ⟨o4, o5, o6, rfl, g5⟩
      refine ⟨_, rfl, _, rfl, a, p, S, rfl, g5.st, hS4.pers g5.pers, hG, fun v6 H6 g6 hv6 => ?_⟩
      have G6 := g5.trans g6
      refine ⟨fun σ' H' => ∃ v7, σ' = [some (.ref s), some (.ref a), some (.ref p), some v3, some (.int (0 + (i : Nat))), some v7, o6] ∧ Go a H4 H' ∧ VAL H' v7, ?_, ?_⟩
      · have hv6' := rsn_pers G6.pers hv4
        refine ⟨_, rfl, rfl, _, rfl, ?_⟩
        cases hr1 : reasonL S with
        | none =>
          rw [hr1] at hv3
          obtain rfl : v3 = .non := hv3
          exact iteF ⟨_, rfl, G6, hv6⟩
        | some x =>
          have hn3 := rsn_none hv3
          rw [hr1] at hv6' hn3
          rw [hn3]
          have hm := reason_mem hG hr1
          refine iteT ⟨_, rfl, a, 2, rfl, G6.st, by decide, by decide, fun d H7 d0 d1 g7 => ⟨rfl, _, rfl, ite2 (fun c => ?_) (fun c => ?_)⟩⟩
          · exact ⟨_, rfl, v3, rfl, G6.trans g7, first_val (rsn_pers g7.pers hv6') hm.1⟩
          · refine ⟨v6, rfl, G6.trans g7, ?_⟩
            obtain ⟨t, pp, w', ps, ws, e, ht, hp, hw, pl, plf, w0, w3, wlf⟩ := hv6
            exact ⟨t, pp, w', ps, ws, e, g7.pers.tup _ _ ht, g7.pers.tup _ _ hp, g7.pers.tup _ _ hw, pl, plf, w0, w3, wlf⟩
      · rintro σ' H7 ⟨v7, rfl, G7, hv7⟩
        obtain ⟨t7, hh⟩ : ∃ t, v7 = .ref t := by
          obtain ⟨t, pp, w', ps, ws, e, _⟩ := hv7
          exact ⟨t, e⟩
        subst hh
        refine ⟨_, rfl, _, rfl, _, rfl, a, p, t7, rfl, G7.st, hv7, fun v8 H8 g8 hv8 => ?_⟩
        have G8 := G7.trans g8
        obtain ⟨j, n, hk, hF⟩ := hv8
        have hr8 := hk.rep
        refine ⟨_, rfl, _, rfl, p, v8, S, j, n, rfl, hS4.pers G8.pers, hG, hr8, hF, fun H9 s9 => ?_⟩
        have G9 := G8.trans (Go.same G8.st s9)
        refine ⟨_, rfl, _, rfl, _, rfl, p, v8, S, j, n, rfl, hS4.pers G9.pers, hG, hr8.same s9, hF, fun H10 s10 => ?_⟩
        have G10 := G9.trans (Go.same G9.st s10)
        refine ⟨_, _, .bl (accJ S j), 0, rfl, by decide, .bl _, .bl _, fun H11 s11 => ⟨_, rfl, iteF ?_⟩⟩
        have G11 := G10.trans (Go.same G10.st s11)
        refine ⟨_, rfl, accJ S j, rfl, ?_⟩
        cases hacc : accJ S j with
        | false => exact iteF (iteF ⟨_, _, _, rfl, G11⟩)
        | true =>
          have hne := acc_reason hG hacc
          have e : decide (v3 = V.non) = false := by
            rw [rsn_none hv3]
            cases hr1 : reasonL S with
            | none => exact absurd hr1 hne
            | some x => rfl
          refine iteT ⟨_, rfl, rfl, _, rfl, ?_⟩
          rw [e]
          exact iteF ⟨_, _, _, rfl, G11⟩
    · rintro σ' H5 ⟨o4, o5, o6, rfl, g5⟩
      exact q H5
end
end My
namespace My
open PySem PySem.Spec PyProof.Rows L2
set_option maxHeartbeats 4000000 in
theorem all_mk {l : PySem.W.OpenLaw} {w : World} {K : PySem.W.Frag} {h : Heap} {mg : Str → Option Value} {fa : Addr} (X : K.In h) (G : h.Ns mainGlobals mg) (hfa : mg "law" = some (.ref fa))
    {od1 an1 od2 an2 od3 an3 od4 an4 od5 an5 od6 an6 od7 an7 od8 an8 od9 an9 od10 an10 od11 an11 od12 an12 od13 an13 od14 an14 od15 an15 od16 an16 od17 an17 od18 an18 od19 an19 od20 an20 od21 an21 od22 an22 od23 an23 od24 an24 od25 an25 od26 an26 od27 an27 od28 an28 od29 an29 od30 an30 od31 an31 od32 an32 od33 an33 od34 an34 od35 an35 od36 an36 od37 an37 od38 an38 od39 an39 od40 an40 od41 an41 od42 an42 od43 an43 od44 an44 od45 an45 od46 an46 od47 an47 od48 an48 od49 an49 od50 an50 od51 an51 : Option Addr} {sl1 sl2 sl3 sl4 sl5 sl6 sl7 sl8 sl9 sl10 sl11 sl12 sl13 sl14 sl15 sl16 sl17 sl18 sl19 sl20 sl21 sl22 sl23 sl24 sl25 sl26 sl27 sl28 sl29 sl30 sl31 sl32 sl33 sl34 sl35 sl36 sl37 sl38 sl39 sl40 sl41 sl42 sl43 sl44 sl45 sl46 sl47 sl48 sl49 sl50 sl51 : Array (Option Value)} {oc1 kV1 dc1 pm1 cd1 ct1 oc2 kV2 dc2 pm2 cd2 ct2 oc3 kV3 dc3 pm3 cd3 ct3 oc4 kV4 dc4 pm4 cd4 ct4 oc5 kV5 dc5 pm5 cd5 ct5 oc6 kV6 dc6 pm6 cd6 ct6 oc7 kV7 dc7 pm7 cd7 ct7 oc8 kV8 dc8 pm8 cd8 ct8 oc9 kV9 dc9 pm9 cd9 ct9 oc10 kV10 dc10 pm10 cd10 ct10 oc11 kV11 dc11 pm11 cd11 ct11 oc12 kV12 dc12 pm12 cd12 ct12 oc13 kV13 dc13 pm13 cd13 ct13 oc14 kV14 dc14 pm14 cd14 ct14 oc15 kV15 dc15 pm15 cd15 ct15 oc16 kV16 dc16 pm16 cd16 ct16 oc17 kV17 dc17 pm17 cd17 ct17 oc18 kV18 dc18 pm18 cd18 ct18 oc19 kV19 dc19 pm19 cd19 ct19 oc20 kV20 dc20 pm20 cd20 ct20 oc21 kV21 dc21 pm21 cd21 ct21 oc22 kV22 dc22 pm22 cd22 ct22 oc23 kV23 dc23 pm23 cd23 ct23 oc24 kV24 dc24 pm24 cd24 ct24 oc25 kV25 dc25 pm25 cd25 ct25 oc26 kV26 dc26 pm26 cd26 ct26 oc27 kV27 dc27 pm27 cd27 ct27 oc28 kV28 dc28 pm28 cd28 ct28 oc29 kV29 dc29 pm29 cd29 ct29 oc30 kV30 dc30 pm30 cd30 ct30 oc31 kV31 dc31 pm31 cd31 ct31 oc32 kV32 dc32 pm32 cd32 ct32 oc33 kV33 dc33 pm33 cd33 ct33 oc34 kV34 dc34 pm34 cd34 ct34 oc35 kV35 dc35 pm35 cd35 ct35 oc36 kV36 dc36 pm36 cd36 ct36 oc37 kV37 dc37 pm37 cd37 ct37 oc38 kV38 dc38 pm38 cd38 ct38 oc39 kV39 dc39 pm39 cd39 ct39 oc40 kV40 dc40 pm40 cd40 ct40 oc41 kV41 dc41 pm41 cd41 ct41 oc42 kV42 dc42 pm42 cd42 ct42 oc43 kV43 dc43 pm43 cd43 ct43 oc44 kV44 dc44 pm44 cd44 ct44 oc45 kV45 dc45 pm45 cd45 ct45 oc46 kV46 dc46 pm46 cd46 ct46 oc47 kV47 dc47 pm47 cd47 ct47 oc48 kV48 dc48 pm48 cd48 ct48 oc49 kV49 dc49 pm49 cd49 ct49 oc50 kV50 dc50 pm50 cd50 ct50 oc51 kV51 dc51 pm51 cd51 ct51 : Value} {f1 f2 f3 f4 f5 f6 f7 f8 f9 f10 f11 f12 f13 f14 f15 f16 f17 f18 f19 f20 f21 f22 f23 f24 f25 f26 f27 f28 f29 f30 f31 f32 f33 f34 f35 f36 f37 f38 f39 f40 f41 f42 f43 f44 f45 f46 f47 f48 f49 f50 f51 : Addr}
    (a1 : PySem.W.nsIn K mainGlobals "is_number" = some (some (.ref f1))) (l1 : K.lookup f1 = some ⟨oc1, od1, .func (PySem.W.fnOf "is_number" "is_number" (defArgs s_is_number) (defBody s_is_number) (defScope s_is_number) .none kV1 dc1 pm1 an1 cd1 ct1), sl1⟩) (c1 : PySem.W.codeIn K cd1 "is_number" = true) (k1 : PySem.W.keepIn K (.ref f1) = true)
    (a2 : PySem.W.nsIn K mainGlobals "is_letter" = some (some (.ref f2))) (l2 : K.lookup f2 = some ⟨oc2, od2, .func (PySem.W.fnOf "is_letter" "is_letter" (defArgs s_is_letter) (defBody s_is_letter) (defScope s_is_letter) .none kV2 dc2 pm2 an2 cd2 ct2), sl2⟩) (c2 : PySem.W.codeIn K cd2 "is_letter" = true) (k2 : PySem.W.keepIn K (.ref f2) = true)
    (a3 : PySem.W.nsIn K mainGlobals "are_moves" = some (some (.ref f3))) (l3 : K.lookup f3 = some ⟨oc3, od3, .func (PySem.W.fnOf "are_moves" "are_moves" (defArgs s_are_moves) (defBody s_are_moves) (defScope s_are_moves) .none kV3 dc3 pm3 an3 cd3 ct3), sl3⟩) (c3 : PySem.W.codeIn K cd3 "are_moves" = true) (k3 : PySem.W.keepIn K (.ref f3) = true)
    (a4 : PySem.W.nsIn K mainGlobals "_is_move" = some (some (.ref f4))) (l4 : K.lookup f4 = some ⟨oc4, od4, .func (PySem.W.fnOf "_is_move" "_is_move" (defArgs s__is_move) (defBody s__is_move) (defScope s__is_move) .none kV4 dc4 pm4 an4 cd4 ct4), sl4⟩) (c4 : PySem.W.codeIn K cd4 "_is_move" = true) (k4 : PySem.W.keepIn K (.ref f4) = true)
    (a5 : PySem.W.nsIn K mainGlobals "is_system" = some (some (.ref f5))) (l5 : K.lookup f5 = some ⟨oc5, od5, .func (PySem.W.fnOf "is_system" "is_system" (defArgs s_is_system) (defBody s_is_system) (defScope s_is_system) .none kV5 dc5 pm5 an5 cd5 ct5), sl5⟩) (c5 : PySem.W.codeIn K cd5 "is_system" = true) (k5 : PySem.W.keepIn K (.ref f5) = true)
    (a6 : PySem.W.nsIn K mainGlobals "_are_states" = some (some (.ref f6))) (l6 : K.lookup f6 = some ⟨oc6, od6, .func (PySem.W.fnOf "_are_states" "_are_states" (defArgs s__are_states) (defBody s__are_states) (defScope s__are_states) .none kV6 dc6 pm6 an6 cd6 ct6), sl6⟩) (c6 : PySem.W.codeIn K cd6 "_are_states" = true) (k6 : PySem.W.keepIn K (.ref f6) = true)
    (a7 : PySem.W.nsIn K mainGlobals "check_system" = some (some (.ref f7))) (l7 : K.lookup f7 = some ⟨oc7, od7, .func (PySem.W.fnOf "check_system" "check_system" (defArgs s_check_system) (defBody s_check_system) (defScope s_check_system) .none kV7 dc7 pm7 an7 cd7 ct7), sl7⟩) (c7 : PySem.W.codeIn K cd7 "check_system" = true) (k7 : PySem.W.keepIn K (.ref f7) = true)
    (a8 : PySem.W.nsIn K mainGlobals "is_state" = some (some (.ref f8))) (l8 : K.lookup f8 = some ⟨oc8, od8, .func (PySem.W.fnOf "is_state" "is_state" (defArgs s_is_state) (defBody s_is_state) (defScope s_is_state) .none kV8 dc8 pm8 an8 cd8 ct8), sl8⟩) (c8 : PySem.W.codeIn K cd8 "is_state" = true) (k8 : PySem.W.keepIn K (.ref f8) = true)
    (a9 : PySem.W.nsIn K mainGlobals "_ends_by_state" = some (some (.ref f9))) (l9 : K.lookup f9 = some ⟨oc9, od9, .func (PySem.W.fnOf "_ends_by_state" "_ends_by_state" (defArgs s__ends_by_state) (defBody s__ends_by_state) (defScope s__ends_by_state) .none kV9 dc9 pm9 an9 cd9 ct9), sl9⟩) (c9 : PySem.W.codeIn K cd9 "_ends_by_state" = true) (k9 : PySem.W.keepIn K (.ref f9) = true)
    (a10 : PySem.W.nsIn K mainGlobals "_reached_from" = some (some (.ref f10))) (l10 : K.lookup f10 = some ⟨oc10, od10, .func (PySem.W.fnOf "_reached_from" "_reached_from" (defArgs s__reached_from) (defBody s__reached_from) (defScope s__reached_from) .none kV10 dc10 pm10 an10 cd10 ct10), sl10⟩) (c10 : PySem.W.codeIn K cd10 "_reached_from" = true) (k10 : PySem.W.keepIn K (.ref f10) = true)
    (a11 : PySem.W.nsIn K mainGlobals "orbits_of" = some (some (.ref f11))) (l11 : K.lookup f11 = some ⟨oc11, od11, .func (PySem.W.fnOf "orbits_of" "orbits_of" (defArgs s_orbits_of) (defBody s_orbits_of) (defScope s_orbits_of) .none kV11 dc11 pm11 an11 cd11 ct11), sl11⟩) (c11 : PySem.W.codeIn K cd11 "orbits_of" = true) (k11 : PySem.W.keepIn K (.ref f11) = true)
    (a12 : PySem.W.nsIn K mainGlobals "orbit_at" = some (some (.ref f12))) (l12 : K.lookup f12 = some ⟨oc12, od12, .func (PySem.W.fnOf "orbit_at" "orbit_at" (defArgs s_orbit_at) (defBody s_orbit_at) (defScope s_orbit_at) .none kV12 dc12 pm12 an12 cd12 ct12), sl12⟩) (c12 : PySem.W.codeIn K cd12 "orbit_at" = true) (k12 : PySem.W.keepIn K (.ref f12) = true)
    (a13 : PySem.W.nsIn K mainGlobals "is_round" = some (some (.ref f13))) (l13 : K.lookup f13 = some ⟨oc13, od13, .func (PySem.W.fnOf "is_round" "is_round" (defArgs s_is_round) (defBody s_is_round) (defScope s_is_round) .none kV13 dc13 pm13 an13 cd13 ct13), sl13⟩) (c13 : PySem.W.codeIn K cd13 "is_round" = true) (k13 : PySem.W.keepIn K (.ref f13) = true)
    (a14 : PySem.W.nsIn K mainGlobals "gates_of" = some (some (.ref f14))) (l14 : K.lookup f14 = some ⟨oc14, od14, .func (PySem.W.fnOf "gates_of" "gates_of" (defArgs s_gates_of) (defBody s_gates_of) (defScope s_gates_of) .none kV14 dc14 pm14 an14 cd14 ct14), sl14⟩) (c14 : PySem.W.codeIn K cd14 "gates_of" = true) (k14 : PySem.W.keepIn K (.ref f14) = true)
    (a15 : PySem.W.nsIn K mainGlobals "exits_of" = some (some (.ref f15))) (l15 : K.lookup f15 = some ⟨oc15, od15, .func (PySem.W.fnOf "exits_of" "exits_of" (defArgs s_exits_of) (defBody s_exits_of) (defScope s_exits_of) .none kV15 dc15 pm15 an15 cd15 ct15), sl15⟩) (c15 : PySem.W.codeIn K cd15 "exits_of" = true) (k15 : PySem.W.keepIn K (.ref f15) = true)
    (a16 : PySem.W.nsIn K mainGlobals "unlike_gates_of" = some (some (.ref f16))) (l16 : K.lookup f16 = some ⟨oc16, od16, .func (PySem.W.fnOf "unlike_gates_of" "unlike_gates_of" (defArgs s_unlike_gates_of) (defBody s_unlike_gates_of) (defScope s_unlike_gates_of) .none kV16 dc16 pm16 an16 cd16 ct16), sl16⟩) (c16 : PySem.W.codeIn K cd16 "unlike_gates_of" = true) (k16 : PySem.W.keepIn K (.ref f16) = true)
    (a17 : PySem.W.nsIn K mainGlobals "are_alike" = some (some (.ref f17))) (l17 : K.lookup f17 = some ⟨oc17, od17, .func (PySem.W.fnOf "are_alike" "are_alike" (defArgs s_are_alike) (defBody s_are_alike) (defScope s_are_alike) .none kV17 dc17 pm17 an17 cd17 ct17), sl17⟩) (c17 : PySem.W.codeIn K cd17 "are_alike" = true) (k17 : PySem.W.keepIn K (.ref f17) = true)
    (a18 : PySem.W.nsIn K mainGlobals "consistent_of" = some (some (.ref f18))) (l18 : K.lookup f18 = some ⟨oc18, od18, .func (PySem.W.fnOf "consistent_of" "consistent_of" (defArgs s_consistent_of) (defBody s_consistent_of) (defScope s_consistent_of) .none kV18 dc18 pm18 an18 cd18 ct18), sl18⟩) (c18 : PySem.W.codeIn K cd18 "consistent_of" = true) (k18 : PySem.W.keepIn K (.ref f18) = true)
    (a19 : PySem.W.nsIn K mainGlobals "cut_of" = some (some (.ref f19))) (l19 : K.lookup f19 = some ⟨oc19, od19, .func (PySem.W.fnOf "cut_of" "cut_of" (defArgs s_cut_of) (defBody s_cut_of) (defScope s_cut_of) .none kV19 dc19 pm19 an19 cd19 ct19), sl19⟩) (c19 : PySem.W.codeIn K cd19 "cut_of" = true) (k19 : PySem.W.keepIn K (.ref f19) = true)
    (a20 : PySem.W.nsIn K mainGlobals "_entered" = some (some (.ref f20))) (l20 : K.lookup f20 = some ⟨oc20, od20, .func (PySem.W.fnOf "_entered" "_entered" (defArgs s__entered) (defBody s__entered) (defScope s__entered) .none kV20 dc20 pm20 an20 cd20 ct20), sl20⟩) (c20 : PySem.W.codeIn K cd20 "_entered" = true) (k20 : PySem.W.keepIn K (.ref f20) = true)
    (a21 : PySem.W.nsIn K mainGlobals "inner_of" = some (some (.ref f21))) (l21 : K.lookup f21 = some ⟨oc21, od21, .func (PySem.W.fnOf "inner_of" "inner_of" (defArgs s_inner_of) (defBody s_inner_of) (defScope s_inner_of) .none kV21 dc21 pm21 an21 cd21 ct21), sl21⟩) (c21 : PySem.W.codeIn K cd21 "inner_of" = true) (k21 : PySem.W.keepIn K (.ref f21) = true)
    (a22 : PySem.W.nsIn K mainGlobals "_behind" = some (some (.ref f22))) (l22 : K.lookup f22 = some ⟨oc22, od22, .func (PySem.W.fnOf "_behind" "_behind" (defArgs s__behind) (defBody s__behind) (defScope s__behind) .none kV22 dc22 pm22 an22 cd22 ct22), sl22⟩) (c22 : PySem.W.codeIn K cd22 "_behind" = true) (k22 : PySem.W.keepIn K (.ref f22) = true)
    (a23 : PySem.W.nsIn K mainGlobals "_is_stuck" = some (some (.ref f23))) (l23 : K.lookup f23 = some ⟨oc23, od23, .func (PySem.W.fnOf "_is_stuck" "_is_stuck" (defArgs s__is_stuck) (defBody s__is_stuck) (defScope s__is_stuck) .none kV23 dc23 pm23 an23 cd23 ct23), sl23⟩) (c23 : PySem.W.codeIn K cd23 "_is_stuck" = true) (k23 : PySem.W.keepIn K (.ref f23) = true)
    (a24 : PySem.W.nsIn K mainGlobals "is_smooth" = some (some (.ref f24))) (l24 : K.lookup f24 = some ⟨oc24, od24, .func (PySem.W.fnOf "is_smooth" "is_smooth" (defArgs s_is_smooth) (defBody s_is_smooth) (defScope s_is_smooth) .none kV24 dc24 pm24 an24 cd24 ct24), sl24⟩) (c24 : PySem.W.codeIn K cd24 "is_smooth" = true) (k24 : PySem.W.keepIn K (.ref f24) = true)
    (a25 : PySem.W.nsIn K mainGlobals "_systems_inward" = some (some (.ref f25))) (l25 : K.lookup f25 = some ⟨oc25, od25, .func (PySem.W.fnOf "_systems_inward" "_systems_inward" (defArgs s__systems_inward) (defBody s__systems_inward) (defScope s__systems_inward) .none kV25 dc25 pm25 an25 cd25 ct25), sl25⟩) (c25 : PySem.W.codeIn K cd25 "_systems_inward" = true) (k25 : PySem.W.keepIn K (.ref f25) = true)
    (a26 : PySem.W.nsIn K mainGlobals "first_reason" = some (some (.ref f26))) (l26 : K.lookup f26 = some ⟨oc26, od26, .func (PySem.W.fnOf "first_reason" "first_reason" (defArgs s_first_reason) (defBody s_first_reason) (defScope s_first_reason) .none kV26 dc26 pm26 an26 cd26 ct26), sl26⟩) (c26 : PySem.W.codeIn K cd26 "first_reason" = true) (k26 : PySem.W.keepIn K (.ref f26) = true)
    (a27 : PySem.W.nsIn K mainGlobals "find_reason" = some (some (.ref f27))) (l27 : K.lookup f27 = some ⟨oc27, od27, .func (PySem.W.fnOf "find_reason" "find_reason" (defArgs s_find_reason) (defBody s_find_reason) (defScope s_find_reason) .none kV27 dc27 pm27 an27 cd27 ct27), sl27⟩) (c27 : PySem.W.codeIn K cd27 "find_reason" = true) (k27 : PySem.W.keepIn K (.ref f27) = true)
    (a28 : PySem.W.nsIn K mainGlobals "_first_of" = some (some (.ref f28))) (l28 : K.lookup f28 = some ⟨oc28, od28, .func (PySem.W.fnOf "_first_of" "_first_of" (defArgs s__first_of) (defBody s__first_of) (defScope s__first_of) .none kV28 dc28 pm28 an28 cd28 ct28), sl28⟩) (c28 : PySem.W.codeIn K cd28 "_first_of" = true) (k28 : PySem.W.keepIn K (.ref f28) = true)
    (a29 : PySem.W.nsIn K mainGlobals "accepts_reason" = some (some (.ref f29))) (l29 : K.lookup f29 = some ⟨oc29, od29, .func (PySem.W.fnOf "accepts_reason" "accepts_reason" (defArgs s_accepts_reason) (defBody s_accepts_reason) (defScope s_accepts_reason) .none kV29 dc29 pm29 an29 cd29 ct29), sl29⟩) (c29 : PySem.W.codeIn K cd29 "accepts_reason" = true) (k29 : PySem.W.keepIn K (.ref f29) = true)
    (a30 : PySem.W.nsIn K mainGlobals "_are_unlike" = some (some (.ref f30))) (l30 : K.lookup f30 = some ⟨oc30, od30, .func (PySem.W.fnOf "_are_unlike" "_are_unlike" (defArgs s__are_unlike) (defBody s__are_unlike) (defScope s__are_unlike) .none kV30 dc30 pm30 an30 cd30 ct30), sl30⟩) (c30 : PySem.W.codeIn K cd30 "_are_unlike" = true) (k30 : PySem.W.keepIn K (.ref f30) = true)
    (a31 : PySem.W.nsIn K mainGlobals "_law_stream" = some (some (.ref f31))) (l31 : K.lookup f31 = some ⟨oc31, od31, .func (PySem.W.fnOf "_law_stream" "_law_stream" (defArgs s__law_stream) (defBody s__law_stream) (defScope s__law_stream) .none kV31 dc31 pm31 an31 cd31 ct31), sl31⟩) (c31 : PySem.W.codeIn K cd31 "_law_stream" = true) (k31 : PySem.W.keepIn K (.ref f31) = true)
    (a32 : PySem.W.nsIn K mainGlobals "_law_next" = some (some (.ref f32))) (l32 : K.lookup f32 = some ⟨oc32, od32, .func (PySem.W.fnOf "_law_next" "_law_next" (defArgs s__law_next) (defBody s__law_next) (defScope s__law_next) .none kV32 dc32 pm32 an32 cd32 ct32), sl32⟩) (c32 : PySem.W.codeIn K cd32 "_law_next" = true) (k32 : PySem.W.keepIn K (.ref f32) = true)
    (a33 : PySem.W.nsIn K mainGlobals "_law_is_integer" = some (some (.ref f33))) (l33 : K.lookup f33 = some ⟨oc33, od33, .func (PySem.W.fnOf "_law_is_integer" "_law_is_integer" (defArgs s__law_is_integer) (defBody s__law_is_integer) (defScope s__law_is_integer) .none kV33 dc33 pm33 an33 cd33 ct33), sl33⟩) (c33 : PySem.W.codeIn K cd33 "_law_is_integer" = true) (k33 : PySem.W.keepIn K (.ref f33) = true)
    (a34 : PySem.W.nsIn K mainGlobals "_law_equal" = some (some (.ref f34))) (l34 : K.lookup f34 = some ⟨oc34, od34, .func (PySem.W.fnOf "_law_equal" "_law_equal" (defArgs s__law_equal) (defBody s__law_equal) (defScope s__law_equal) .none kV34 dc34 pm34 an34 cd34 ct34), sl34⟩) (c34 : PySem.W.codeIn K cd34 "_law_equal" = true) (k34 : PySem.W.keepIn K (.ref f34) = true)
    (a35 : PySem.W.nsIn K mainGlobals "_law_system" = some (some (.ref f35))) (l35 : K.lookup f35 = some ⟨oc35, od35, .func (PySem.W.fnOf "_law_system" "_law_system" (defArgs s__law_system) (defBody s__law_system) (defScope s__law_system) .none kV35 dc35 pm35 an35 cd35 ct35), sl35⟩) (c35 : PySem.W.codeIn K cd35 "_law_system" = true) (k35 : PySem.W.keepIn K (.ref f35) = true)
    (a36 : PySem.W.nsIn K mainGlobals "_law_reached" = some (some (.ref f36))) (l36 : K.lookup f36 = some ⟨oc36, od36, .func (PySem.W.fnOf "_law_reached" "_law_reached" (defArgs s__law_reached) (defBody s__law_reached) (defScope s__law_reached) .none kV36 dc36 pm36 an36 cd36 ct36), sl36⟩) (c36 : PySem.W.codeIn K cd36 "_law_reached" = true) (k36 : PySem.W.keepIn K (.ref f36) = true)
    (a37 : PySem.W.nsIn K mainGlobals "_law_orbits" = some (some (.ref f37))) (l37 : K.lookup f37 = some ⟨oc37, od37, .func (PySem.W.fnOf "_law_orbits" "_law_orbits" (defArgs s__law_orbits) (defBody s__law_orbits) (defScope s__law_orbits) .none kV37 dc37 pm37 an37 cd37 ct37), sl37⟩) (c37 : PySem.W.codeIn K cd37 "_law_orbits" = true) (k37 : PySem.W.keepIn K (.ref f37) = true)
    (a38 : PySem.W.nsIn K mainGlobals "_law_orbit" = some (some (.ref f38))) (l38 : K.lookup f38 = some ⟨oc38, od38, .func (PySem.W.fnOf "_law_orbit" "_law_orbit" (defArgs s__law_orbit) (defBody s__law_orbit) (defScope s__law_orbit) .none kV38 dc38 pm38 an38 cd38 ct38), sl38⟩) (c38 : PySem.W.codeIn K cd38 "_law_orbit" = true) (k38 : PySem.W.keepIn K (.ref f38) = true)
    (a39 : PySem.W.nsIn K mainGlobals "_law_round" = some (some (.ref f39))) (l39 : K.lookup f39 = some ⟨oc39, od39, .func (PySem.W.fnOf "_law_round" "_law_round" (defArgs s__law_round) (defBody s__law_round) (defScope s__law_round) .none kV39 dc39 pm39 an39 cd39 ct39), sl39⟩) (c39 : PySem.W.codeIn K cd39 "_law_round" = true) (k39 : PySem.W.keepIn K (.ref f39) = true)
    (a40 : PySem.W.nsIn K mainGlobals "_law_exits" = some (some (.ref f40))) (l40 : K.lookup f40 = some ⟨oc40, od40, .func (PySem.W.fnOf "_law_exits" "_law_exits" (defArgs s__law_exits) (defBody s__law_exits) (defScope s__law_exits) .none kV40 dc40 pm40 an40 cd40 ct40), sl40⟩) (c40 : PySem.W.codeIn K cd40 "_law_exits" = true) (k40 : PySem.W.keepIn K (.ref f40) = true)
    (a41 : PySem.W.nsIn K mainGlobals "_law_gates" = some (some (.ref f41))) (l41 : K.lookup f41 = some ⟨oc41, od41, .func (PySem.W.fnOf "_law_gates" "_law_gates" (defArgs s__law_gates) (defBody s__law_gates) (defScope s__law_gates) .none kV41 dc41 pm41 an41 cd41 ct41), sl41⟩) (c41 : PySem.W.codeIn K cd41 "_law_gates" = true) (k41 : PySem.W.keepIn K (.ref f41) = true)
    (a42 : PySem.W.nsIn K mainGlobals "_law_alike" = some (some (.ref f42))) (l42 : K.lookup f42 = some ⟨oc42, od42, .func (PySem.W.fnOf "_law_alike" "_law_alike" (defArgs s__law_alike) (defBody s__law_alike) (defScope s__law_alike) .none kV42 dc42 pm42 an42 cd42 ct42), sl42⟩) (c42 : PySem.W.codeIn K cd42 "_law_alike" = true) (k42 : PySem.W.keepIn K (.ref f42) = true)
    (a43 : PySem.W.nsIn K mainGlobals "_law_consistent" = some (some (.ref f43))) (l43 : K.lookup f43 = some ⟨oc43, od43, .func (PySem.W.fnOf "_law_consistent" "_law_consistent" (defArgs s__law_consistent) (defBody s__law_consistent) (defScope s__law_consistent) .none kV43 dc43 pm43 an43 cd43 ct43), sl43⟩) (c43 : PySem.W.codeIn K cd43 "_law_consistent" = true) (k43 : PySem.W.keepIn K (.ref f43) = true)
    (a44 : PySem.W.nsIn K mainGlobals "_law_cut" = some (some (.ref f44))) (l44 : K.lookup f44 = some ⟨oc44, od44, .func (PySem.W.fnOf "_law_cut" "_law_cut" (defArgs s__law_cut) (defBody s__law_cut) (defScope s__law_cut) .none kV44 dc44 pm44 an44 cd44 ct44), sl44⟩) (c44 : PySem.W.codeIn K cd44 "_law_cut" = true) (k44 : PySem.W.keepIn K (.ref f44) = true)
    (a45 : PySem.W.nsIn K mainGlobals "_law_entered" = some (some (.ref f45))) (l45 : K.lookup f45 = some ⟨oc45, od45, .func (PySem.W.fnOf "_law_entered" "_law_entered" (defArgs s__law_entered) (defBody s__law_entered) (defScope s__law_entered) .none kV45 dc45 pm45 an45 cd45 ct45), sl45⟩) (c45 : PySem.W.codeIn K cd45 "_law_entered" = true) (k45 : PySem.W.keepIn K (.ref f45) = true)
    (a46 : PySem.W.nsIn K mainGlobals "_law_behind" = some (some (.ref f46))) (l46 : K.lookup f46 = some ⟨oc46, od46, .func (PySem.W.fnOf "_law_behind" "_law_behind" (defArgs s__law_behind) (defBody s__law_behind) (defScope s__law_behind) .none kV46 dc46 pm46 an46 cd46 ct46), sl46⟩) (c46 : PySem.W.codeIn K cd46 "_law_behind" = true) (k46 : PySem.W.keepIn K (.ref f46) = true)
    (a47 : PySem.W.nsIn K mainGlobals "_law_stuck" = some (some (.ref f47))) (l47 : K.lookup f47 = some ⟨oc47, od47, .func (PySem.W.fnOf "_law_stuck" "_law_stuck" (defArgs s__law_stuck) (defBody s__law_stuck) (defScope s__law_stuck) .none kV47 dc47 pm47 an47 cd47 ct47), sl47⟩) (c47 : PySem.W.codeIn K cd47 "_law_stuck" = true) (k47 : PySem.W.keepIn K (.ref f47) = true)
    (a48 : PySem.W.nsIn K mainGlobals "_law_is_reason" = some (some (.ref f48))) (l48 : K.lookup f48 = some ⟨oc48, od48, .func (PySem.W.fnOf "_law_is_reason" "_law_is_reason" (defArgs s__law_is_reason) (defBody s__law_is_reason) (defScope s__law_is_reason) .none kV48 dc48 pm48 an48 cd48 ct48), sl48⟩) (c48 : PySem.W.codeIn K cd48 "_law_is_reason" = true) (k48 : PySem.W.keepIn K (.ref f48) = true)
    (a49 : PySem.W.nsIn K mainGlobals "_law_drawn" = some (some (.ref f49))) (l49 : K.lookup f49 = some ⟨oc49, od49, .func (PySem.W.fnOf "_law_drawn" "_law_drawn" (defArgs s__law_drawn) (defBody s__law_drawn) (defScope s__law_drawn) .none kV49 dc49 pm49 an49 cd49 ct49), sl49⟩) (c49 : PySem.W.codeIn K cd49 "_law_drawn" = true) (k49 : PySem.W.keepIn K (.ref f49) = true)
    (a50 : PySem.W.nsIn K mainGlobals "_law_turned" = some (some (.ref f50))) (l50 : K.lookup f50 = some ⟨oc50, od50, .func (PySem.W.fnOf "_law_turned" "_law_turned" (defArgs s__law_turned) (defBody s__law_turned) (defScope s__law_turned) .none kV50 dc50 pm50 an50 cd50 ct50), sl50⟩) (c50 : PySem.W.codeIn K cd50 "_law_turned" = true) (k50 : PySem.W.keepIn K (.ref f50) = true)
    (a51 : PySem.W.nsIn K mainGlobals "law" = some (some (.ref f51))) (l51 : K.lookup f51 = some ⟨oc51, od51, .func (PySem.W.fnOf "law" "law" (defArgs s_law) (defBody s_law) (defScope s_law) .none kV51 dc51 pm51 an51 cd51 ct51), sl51⟩) (c51 : PySem.W.codeIn K cd51 "law" = true) (k51 : PySem.W.keepIn K (.ref f51) = true)
    (z_ValueError : PySem.W.nsIn K mainGlobals "ValueError" = some none) (z_abs : PySem.W.nsIn K mainGlobals "abs" = some none) (z_all : PySem.W.nsIn K mainGlobals "all" = some none) (z_any : PySem.W.nsIn K mainGlobals "any" = some none) (z_bool : PySem.W.nsIn K mainGlobals "bool" = some none) (z_enumerate : PySem.W.nsIn K mainGlobals "enumerate" = some none) (z_int : PySem.W.nsIn K mainGlobals "int" = some none) (z_isinstance : PySem.W.nsIn K mainGlobals "isinstance" = some none) (z_len : PySem.W.nsIn K mainGlobals "len" = some none) (z_list : PySem.W.nsIn K mainGlobals "list" = some none) (z_max : PySem.W.nsIn K mainGlobals "max" = some none) (z_min : PySem.W.nsIn K mainGlobals "min" = some none) (z_range : PySem.W.nsIn K mainGlobals "range" = some none) (z_reversed : PySem.W.nsIn K mainGlobals "reversed" = some none) (z_str : PySem.W.nsIn K mainGlobals "str" = some none) (z_super : PySem.W.nsIn K mainGlobals "super" = some none) (z_tuple : PySem.W.nsIn K mainGlobals "tuple" = some none)
    {tL tM tV tP : Tok}
    (gL : PySem.W.nsIn K mainGlobals "LETTERS" = some (some (.str "abcd" tL))) (gM : PySem.W.nsIn K mainGlobals "MOST_STATES" = some (some (.int 40 tM))) (gV : PySem.W.nsIn K mainGlobals "MOST_STATES_OF_A_VALUE" = some (some (.int 300 tV))) (gP : PySem.W.nsIn K mainGlobals "MOST_PATH_STATES" = some (some (.int 40 tP)))
    :
    ∃ fd : FuncData, (∀ (s : Shared) (v : Value), BindsTo s fd ⟨[v], []⟩ [("script", v)]) ∧ ∀ base : Heap, K.In base → base.Ns mainGlobals mg → FnOk l.prog w K mg base CX0 9 fa fd ["script"] (spLaw K) := by
  have F1 := fun_mk (st := s_is_number) l1 c1 k1
  have b1 := F1.binds (ps := ["value", "least", "most"]) fun _ _ _ _ _ _ us hl => match us, hl with | [_, _, _], _ => rfl
  have D_is_number : Df K mg "is_number" s_is_number ["value", "least", "most"] f1 _ := ⟨F1, b1, PySem.W.mg_of X G a1⟩
  have F2 := fun_mk (st := s_is_letter) l2 c2 k2
  have b2 := F2.binds (ps := ["value"]) fun _ _ _ _ _ _ us hl => match us, hl with | [_], _ => rfl
  have D_is_letter : Df K mg "is_letter" s_is_letter ["value"] f2 _ := ⟨F2, b2, PySem.W.mg_of X G a2⟩
  have F3 := fun_mk (st := s_are_moves) l3 c3 k3
  have b3 := F3.binds (ps := ["value", "states"]) fun _ _ _ _ _ _ us hl => match us, hl with | [_, _], _ => rfl
  have D_are_moves : Df K mg "are_moves" s_are_moves ["value", "states"] f3 _ := ⟨F3, b3, PySem.W.mg_of X G a3⟩
  have F4 := fun_mk (st := s__is_move) l4 c4 k4
  have b4 := F4.binds (ps := ["value", "inside"]) fun _ _ _ _ _ _ us hl => match us, hl with | [_, _], _ => rfl
  have D__is_move : Df K mg "_is_move" s__is_move ["value", "inside"] f4 _ := ⟨F4, b4, PySem.W.mg_of X G a4⟩
  have F5 := fun_mk (st := s_is_system) l5 c5 k5
  have b5 := F5.binds (ps := ["value"]) fun _ _ _ _ _ _ us hl => match us, hl with | [_], _ => rfl
  have D_is_system : Df K mg "is_system" s_is_system ["value"] f5 _ := ⟨F5, b5, PySem.W.mg_of X G a5⟩
  have F6 := fun_mk (st := s__are_states) l6 c6 k6
  have b6 := F6.binds (ps := ["value"]) fun _ _ _ _ _ _ us hl => match us, hl with | [_], _ => rfl
  have D__are_states : Df K mg "_are_states" s__are_states ["value"] f6 _ := ⟨F6, b6, PySem.W.mg_of X G a6⟩
  have F7 := fun_mk (st := s_check_system) l7 c7 k7
  have b7 := F7.binds (ps := ["value"]) fun _ _ _ _ _ _ us hl => match us, hl with | [_], _ => rfl
  have D_check_system : Df K mg "check_system" s_check_system ["value"] f7 _ := ⟨F7, b7, PySem.W.mg_of X G a7⟩
  have F8 := fun_mk (st := s_is_state) l8 c8 k8
  have b8 := F8.binds (ps := ["system", "value"]) fun _ _ _ _ _ _ us hl => match us, hl with | [_, _], _ => rfl
  have D_is_state : Df K mg "is_state" s_is_state ["system", "value"] f8 _ := ⟨F8, b8, PySem.W.mg_of X G a8⟩
  have F9 := fun_mk (st := s__ends_by_state) l9 c9 k9
  have b9 := F9.binds (ps := ["system"]) fun _ _ _ _ _ _ us hl => match us, hl with | [_], _ => rfl
  have D__ends_by_state : Df K mg "_ends_by_state" s__ends_by_state ["system"] f9 _ := ⟨F9, b9, PySem.W.mg_of X G a9⟩
  have F10 := fun_mk (st := s__reached_from) l10 c10 k10
  have b10 := F10.binds (ps := ["ends", "state"]) fun _ _ _ _ _ _ us hl => match us, hl with | [_, _], _ => rfl
  have D__reached_from : Df K mg "_reached_from" s__reached_from ["ends", "state"] f10 _ := ⟨F10, b10, PySem.W.mg_of X G a10⟩
  have F11 := fun_mk (st := s_orbits_of) l11 c11 k11
  have b11 := F11.binds (ps := ["system"]) fun _ _ _ _ _ _ us hl => match us, hl with | [_], _ => rfl
  have D_orbits_of : Df K mg "orbits_of" s_orbits_of ["system"] f11 _ := ⟨F11, b11, PySem.W.mg_of X G a11⟩
  have F12 := fun_mk (st := s_orbit_at) l12 c12 k12
  have b12 := F12.binds (ps := ["system", "state"]) fun _ _ _ _ _ _ us hl => match us, hl with | [_, _], _ => rfl
  have D_orbit_at : Df K mg "orbit_at" s_orbit_at ["system", "state"] f12 _ := ⟨F12, b12, PySem.W.mg_of X G a12⟩
  have F13 := fun_mk (st := s_is_round) l13 c13 k13
  have b13 := F13.binds (ps := ["system", "orbit"]) fun _ _ _ _ _ _ us hl => match us, hl with | [_, _], _ => rfl
  have D_is_round : Df K mg "is_round" s_is_round ["system", "orbit"] f13 _ := ⟨F13, b13, PySem.W.mg_of X G a13⟩
  have F14 := fun_mk (st := s_gates_of) l14 c14 k14
  have b14 := F14.binds (ps := ["system", "orbit"]) fun _ _ _ _ _ _ us hl => match us, hl with | [_, _], _ => rfl
  have D_gates_of : Df K mg "gates_of" s_gates_of ["system", "orbit"] f14 _ := ⟨F14, b14, PySem.W.mg_of X G a14⟩
  have F15 := fun_mk (st := s_exits_of) l15 c15 k15
  have b15 := F15.binds (ps := ["system", "orbit", "state"]) fun _ _ _ _ _ _ us hl => match us, hl with | [_, _, _], _ => rfl
  have D_exits_of : Df K mg "exits_of" s_exits_of ["system", "orbit", "state"] f15 _ := ⟨F15, b15, PySem.W.mg_of X G a15⟩
  have F16 := fun_mk (st := s_unlike_gates_of) l16 c16 k16
  have b16 := F16.binds (ps := ["system"]) fun _ _ _ _ _ _ us hl => match us, hl with | [_], _ => rfl
  have D_unlike_gates_of : Df K mg "unlike_gates_of" s_unlike_gates_of ["system"] f16 _ := ⟨F16, b16, PySem.W.mg_of X G a16⟩
  have F17 := fun_mk (st := s_are_alike) l17 c17 k17
  have b17 := F17.binds (ps := ["system", "orbit", "one", "other"]) fun _ _ _ _ _ _ us hl => match us, hl with | [_, _, _, _], _ => rfl
  have D_are_alike : Df K mg "are_alike" s_are_alike ["system", "orbit", "one", "other"] f17 _ := ⟨F17, b17, PySem.W.mg_of X G a17⟩
  have F18 := fun_mk (st := s_consistent_of) l18 c18 k18
  have b18 := F18.binds (ps := ["system"]) fun _ _ _ _ _ _ us hl => match us, hl with | [_], _ => rfl
  have D_consistent_of : Df K mg "consistent_of" s_consistent_of ["system"] f18 _ := ⟨F18, b18, PySem.W.mg_of X G a18⟩
  have F19 := fun_mk (st := s_cut_of) l19 c19 k19
  have b19 := F19.binds (ps := ["system"]) fun _ _ _ _ _ _ us hl => match us, hl with | [_], _ => rfl
  have D_cut_of : Df K mg "cut_of" s_cut_of ["system"] f19 _ := ⟨F19, b19, PySem.W.mg_of X G a19⟩
  have F20 := fun_mk (st := s__entered) l20 c20 k20
  have b20 := F20.binds (ps := ["system", "state"]) fun _ _ _ _ _ _ us hl => match us, hl with | [_, _], _ => rfl
  have D__entered : Df K mg "_entered" s__entered ["system", "state"] f20 _ := ⟨F20, b20, PySem.W.mg_of X G a20⟩
  have F21 := fun_mk (st := s_inner_of) l21 c21 k21
  have b21 := F21.binds (ps := ["system", "orbit"]) fun _ _ _ _ _ _ us hl => match us, hl with | [_, _], _ => rfl
  have D_inner_of : Df K mg "inner_of" s_inner_of ["system", "orbit"] f21 _ := ⟨F21, b21, PySem.W.mg_of X G a21⟩
  have F22 := fun_mk (st := s__behind) l22 c22 k22
  have b22 := F22.binds (ps := ["system", "value"]) fun _ _ _ _ _ _ us hl => match us, hl with | [_, _], _ => rfl
  have D__behind : Df K mg "_behind" s__behind ["system", "value"] f22 _ := ⟨F22, b22, PySem.W.mg_of X G a22⟩
  have F23 := fun_mk (st := s__is_stuck) l23 c23 k23
  have b23 := F23.binds (ps := ["system"]) fun _ _ _ _ _ _ us hl => match us, hl with | [_], _ => rfl
  have D__is_stuck : Df K mg "_is_stuck" s__is_stuck ["system"] f23 _ := ⟨F23, b23, PySem.W.mg_of X G a23⟩
  have F24 := fun_mk (st := s_is_smooth) l24 c24 k24
  have b24 := F24.binds (ps := ["system"]) fun _ _ _ _ _ _ us hl => match us, hl with | [_], _ => rfl
  have D_is_smooth : Df K mg "is_smooth" s_is_smooth ["system"] f24 _ := ⟨F24, b24, PySem.W.mg_of X G a24⟩
  have F25 := fun_mk (st := s__systems_inward) l25 c25 k25
  have b25 := F25.binds (ps := ["system"]) fun _ _ _ _ _ _ us hl => match us, hl with | [_], _ => rfl
  have D__systems_inward : Df K mg "_systems_inward" s__systems_inward ["system"] f25 _ := ⟨F25, b25, PySem.W.mg_of X G a25⟩
  have F26 := fun_mk (st := s_first_reason) l26 c26 k26
  have b26 := F26.binds (ps := ["system"]) fun _ _ _ _ _ _ us hl => match us, hl with | [_], _ => rfl
  have D_first_reason : Df K mg "first_reason" s_first_reason ["system"] f26 _ := ⟨F26, b26, PySem.W.mg_of X G a26⟩
  have F27 := fun_mk (st := s_find_reason) l27 c27 k27
  have b27 := F27.binds (ps := ["system"]) fun _ _ _ _ _ _ us hl => match us, hl with | [_], _ => rfl
  have D_find_reason : Df K mg "find_reason" s_find_reason ["system"] f27 _ := ⟨F27, b27, PySem.W.mg_of X G a27⟩
  have F28 := fun_mk (st := s__first_of) l28 c28 k28
  have b28 := F28.binds (ps := ["systems"]) fun _ _ _ _ _ _ us hl => match us, hl with | [_], _ => rfl
  have D__first_of : Df K mg "_first_of" s__first_of ["systems"] f28 _ := ⟨F28, b28, PySem.W.mg_of X G a28⟩
  have F29 := fun_mk (st := s_accepts_reason) l29 c29 k29
  have b29 := F29.binds (ps := ["system", "value"]) fun _ _ _ _ _ _ us hl => match us, hl with | [_, _], _ => rfl
  have D_accepts_reason : Df K mg "accepts_reason" s_accepts_reason ["system", "value"] f29 _ := ⟨F29, b29, PySem.W.mg_of X G a29⟩
  have F30 := fun_mk (st := s__are_unlike) l30 c30 k30
  have b30 := F30.binds (ps := ["system", "one", "other"]) fun _ _ _ _ _ _ us hl => match us, hl with | [_, _, _], _ => rfl
  have D__are_unlike : Df K mg "_are_unlike" s__are_unlike ["system", "one", "other"] f30 _ := ⟨F30, b30, PySem.W.mg_of X G a30⟩
  have F31 := fun_mk (st := s__law_stream) l31 c31 k31
  have b31 := F31.binds (ps := ["script"]) fun _ _ _ _ _ _ us hl => match us, hl with | [_], _ => rfl
  have D__law_stream : Df K mg "_law_stream" s__law_stream ["script"] f31 _ := ⟨F31, b31, PySem.W.mg_of X G a31⟩
  have F32 := fun_mk (st := s__law_next) l32 c32 k32
  have b32 := F32.binds (ps := ["stream", "many"]) fun _ _ _ _ _ _ us hl => match us, hl with | [_, _], _ => rfl
  have D__law_next : Df K mg "_law_next" s__law_next ["stream", "many"] f32 _ := ⟨F32, b32, PySem.W.mg_of X G a32⟩
  have F33 := fun_mk (st := s__law_is_integer) l33 c33 k33
  have b33 := F33.binds (ps := ["actual"]) fun _ _ _ _ _ _ us hl => match us, hl with | [_], _ => rfl
  have D__law_is_integer : Df K mg "_law_is_integer" s__law_is_integer ["actual"] f33 _ := ⟨F33, b33, PySem.W.mg_of X G a33⟩
  have F34 := fun_mk (st := s__law_equal) l34 c34 k34
  have b34 := F34.binds (ps := ["actual", "due"]) fun _ _ _ _ _ _ us hl => match us, hl with | [_, _], _ => rfl
  have D__law_equal : Df K mg "_law_equal" s__law_equal ["actual", "due"] f34 _ := ⟨F34, b34, PySem.W.mg_of X G a34⟩
  have F35 := fun_mk (st := s__law_system) l35 c35 k35
  have b35 := F35.binds (ps := ["stream", "most"]) fun _ _ _ _ _ _ us hl => match us, hl with | [_, _], _ => rfl
  have D__law_system : Df K mg "_law_system" s__law_system ["stream", "most"] f35 _ := ⟨F35, b35, PySem.W.mg_of X G a35⟩
  have F36 := fun_mk (st := s__law_reached) l36 c36 k36
  have b36 := F36.binds (ps := ["system", "state"]) fun _ _ _ _ _ _ us hl => match us, hl with | [_, _], _ => rfl
  have D__law_reached : Df K mg "_law_reached" s__law_reached ["system", "state"] f36 _ := ⟨F36, b36, PySem.W.mg_of X G a36⟩
  have F37 := fun_mk (st := s__law_orbits) l37 c37 k37
  have b37 := F37.binds (ps := ["system"]) fun _ _ _ _ _ _ us hl => match us, hl with | [_], _ => rfl
  have D__law_orbits : Df K mg "_law_orbits" s__law_orbits ["system"] f37 _ := ⟨F37, b37, PySem.W.mg_of X G a37⟩
  have F38 := fun_mk (st := s__law_orbit) l38 c38 k38
  have b38 := F38.binds (ps := ["system", "state"]) fun _ _ _ _ _ _ us hl => match us, hl with | [_, _], _ => rfl
  have D__law_orbit : Df K mg "_law_orbit" s__law_orbit ["system", "state"] f38 _ := ⟨F38, b38, PySem.W.mg_of X G a38⟩
  have F39 := fun_mk (st := s__law_round) l39 c39 k39
  have b39 := F39.binds (ps := ["system", "orbit"]) fun _ _ _ _ _ _ us hl => match us, hl with | [_, _], _ => rfl
  have D__law_round : Df K mg "_law_round" s__law_round ["system", "orbit"] f39 _ := ⟨F39, b39, PySem.W.mg_of X G a39⟩
  have F40 := fun_mk (st := s__law_exits) l40 c40 k40
  have b40 := F40.binds (ps := ["system", "orbit", "state"]) fun _ _ _ _ _ _ us hl => match us, hl with | [_, _, _], _ => rfl
  have D__law_exits : Df K mg "_law_exits" s__law_exits ["system", "orbit", "state"] f40 _ := ⟨F40, b40, PySem.W.mg_of X G a40⟩
  have F41 := fun_mk (st := s__law_gates) l41 c41 k41
  have b41 := F41.binds (ps := ["system", "orbit"]) fun _ _ _ _ _ _ us hl => match us, hl with | [_, _], _ => rfl
  have D__law_gates : Df K mg "_law_gates" s__law_gates ["system", "orbit"] f41 _ := ⟨F41, b41, PySem.W.mg_of X G a41⟩
  have F42 := fun_mk (st := s__law_alike) l42 c42 k42
  have b42 := F42.binds (ps := ["system", "orbit", "one", "other"]) fun _ _ _ _ _ _ us hl => match us, hl with | [_, _, _, _], _ => rfl
  have D__law_alike : Df K mg "_law_alike" s__law_alike ["system", "orbit", "one", "other"] f42 _ := ⟨F42, b42, PySem.W.mg_of X G a42⟩
  have F43 := fun_mk (st := s__law_consistent) l43 c43 k43
  have b43 := F43.binds (ps := ["system"]) fun _ _ _ _ _ _ us hl => match us, hl with | [_], _ => rfl
  have D__law_consistent : Df K mg "_law_consistent" s__law_consistent ["system"] f43 _ := ⟨F43, b43, PySem.W.mg_of X G a43⟩
  have F44 := fun_mk (st := s__law_cut) l44 c44 k44
  have b44 := F44.binds (ps := ["system"]) fun _ _ _ _ _ _ us hl => match us, hl with | [_], _ => rfl
  have D__law_cut : Df K mg "_law_cut" s__law_cut ["system"] f44 _ := ⟨F44, b44, PySem.W.mg_of X G a44⟩
  have F45 := fun_mk (st := s__law_entered) l45 c45 k45
  have b45 := F45.binds (ps := ["system", "state"]) fun _ _ _ _ _ _ us hl => match us, hl with | [_, _], _ => rfl
  have D__law_entered : Df K mg "_law_entered" s__law_entered ["system", "state"] f45 _ := ⟨F45, b45, PySem.W.mg_of X G a45⟩
  have F46 := fun_mk (st := s__law_behind) l46 c46 k46
  have b46 := F46.binds (ps := ["system", "path"]) fun _ _ _ _ _ _ us hl => match us, hl with | [_, _], _ => rfl
  have D__law_behind : Df K mg "_law_behind" s__law_behind ["system", "path"] f46 _ := ⟨F46, b46, PySem.W.mg_of X G a46⟩
  have F47 := fun_mk (st := s__law_stuck) l47 c47 k47
  have b47 := F47.binds (ps := ["system"]) fun _ _ _ _ _ _ us hl => match us, hl with | [_], _ => rfl
  have D__law_stuck : Df K mg "_law_stuck" s__law_stuck ["system"] f47 _ := ⟨F47, b47, PySem.W.mg_of X G a47⟩
  have F48 := fun_mk (st := s__law_is_reason) l48 c48 k48
  have b48 := F48.binds (ps := ["system", "value"]) fun _ _ _ _ _ _ us hl => match us, hl with | [_, _], _ => rfl
  have D__law_is_reason : Df K mg "_law_is_reason" s__law_is_reason ["system", "value"] f48 _ := ⟨F48, b48, PySem.W.mg_of X G a48⟩
  have F49 := fun_mk (st := s__law_drawn) l49 c49 k49
  have b49 := F49.binds (ps := ["stream", "system"]) fun _ _ _ _ _ _ us hl => match us, hl with | [_, _], _ => rfl
  have D__law_drawn : Df K mg "_law_drawn" s__law_drawn ["stream", "system"] f49 _ := ⟨F49, b49, PySem.W.mg_of X G a49⟩
  have F50 := fun_mk (st := s__law_turned) l50 c50 k50
  have b50 := F50.binds (ps := ["stream", "system", "value"]) fun _ _ _ _ _ _ us hl => match us, hl with | [_, _, _], _ => rfl
  have D__law_turned : Df K mg "_law_turned" s__law_turned ["stream", "system", "value"] f50 _ := ⟨F50, b50, PySem.W.mg_of X G a50⟩
  have F51 := fun_mk (st := s_law) l51 c51 k51
  have b51 := F51.binds (ps := ["script"]) fun _ _ _ _ _ _ us hl => match us, hl with | [_], _ => rfl
  have D_law : Df K mg "law" s_law ["script"] f51 _ := ⟨F51, b51, PySem.W.mg_of X G a51⟩
  have B : Bt K mg tL tM tV := ⟨PySem.W.mg_none_of X G z_ValueError, PySem.W.mg_none_of X G z_abs, PySem.W.mg_none_of X G z_all, PySem.W.mg_none_of X G z_any, PySem.W.mg_none_of X G z_bool, PySem.W.mg_none_of X G z_enumerate, PySem.W.mg_none_of X G z_int, PySem.W.mg_none_of X G z_isinstance, PySem.W.mg_none_of X G z_len, PySem.W.mg_none_of X G z_list, PySem.W.mg_none_of X G z_max, PySem.W.mg_none_of X G z_min, PySem.W.mg_none_of X G z_range, PySem.W.mg_none_of X G z_reversed, PySem.W.mg_none_of X G z_str, PySem.W.mg_none_of X G z_super, PySem.W.mg_none_of X G z_tuple, PySem.W.mg_of X G gL, PySem.W.mg_of X G gM, PySem.W.mg_of X G gV, ⟨_, PySem.W.mg_of X G gP⟩⟩
  have e := hfa.symm.trans D_law.g
  cases e
  refine ⟨(PySem.W.fnOf "law" "law" (defArgs s_law) (defBody s_law) (defScope s_law) .none kV51 dc51 pm51 an51 cd51 ct51), fun s v => .of_eq rfl, fun base _ _ => ?_⟩
  have C_is_letter := D_is_letter.cl (ok_letter (P := l.prog) (w := w) (base := base) B D_is_letter)
  have C_is_number := D_is_number.cl (ok_isnumber (P := l.prog) (w := w) (base := base) B D_is_number)
  have C_is_move := D__is_move.cl (ok_ismove (P := l.prog) (w := w) (base := base) B D__is_move C_is_letter C_is_number)
  have C_are_moves := D_are_moves.cl (ok_aremoves (P := l.prog) (w := w) (base := base) B D_are_moves C_is_move)
  have C_are_states := D__are_states.cl (ok_arestates (P := l.prog) (w := w) (base := base) B D__are_states C_is_number)
  have C_is_system := D_is_system.cl (ok_issystem (P := l.prog) (w := w) (base := base) B D_is_system C_are_states C_are_moves)
  have C_check_system := D_check_system.cl (ok_checksystem (P := l.prog) (w := w) (base := base) B D_check_system C_is_system)
  have C_ends := D__ends_by_state.cl (ok_endsby (P := l.prog) (w := w) (base := base) B D__ends_by_state)
  have C_reached := D__reached_from.cl (ok_reached (P := l.prog) (w := w) (base := base) B D__reached_from)
  have C_orbits_of := D_orbits_of.cl (ok_orbitsof (P := l.prog) (w := w) (base := base) B D_orbits_of C_ends C_reached)
  have C_orbit_at := D_orbit_at.cl (ok_orbitat (P := l.prog) (w := w) (base := base) B D_orbit_at C_ends C_reached)
  have C_exits_of := D_exits_of.cl (ok_exitsof (P := l.prog) (w := w) (base := base) B D_exits_of)
  have C_gates_of := D_gates_of.cl (ok_gatesof (P := l.prog) (w := w) (base := base) B D_gates_of C_exits_of)
  have C__law_stream := D__law_stream.cl (ok_stream (P := l.prog) (w := w) (base := base) B D__law_stream)
  have C__law_next := D__law_next.cl (ok_next (P := l.prog) (w := w) (base := base) B D__law_next)
  have C__law_system := D__law_system.cl (ok_system (P := l.prog) (w := w) (base := base) B D__law_system C__law_next)
  have C_cons_of := D_consistent_of.cl (ok_consof (P := l.prog) (w := w) (base := base) B D_consistent_of)
  have C_cutof := D_cut_of.cl (ok_cutof (P := l.prog) (w := w) (base := base) B D_cut_of C_cons_of)
  have C_isint := D__law_is_integer.cl (ok_isint (P := l.prog) (w := w) (base := base) B D__law_is_integer)
  have C_equal := D__law_equal.cl (all_equal (P := l.prog) (w := w) (base := base) B D__law_equal C_isint 4)
  have C_lcons := D__law_consistent.cl (ok_lawcons (P := l.prog) (w := w) (base := base) B D__law_consistent)
  have C_lcut := D__law_cut.cl (ok_lawcut (P := l.prog) (w := w) (base := base) B D__law_cut C_lcons)
  have C_alike := D_are_alike.cl (ok_alike (P := l.prog) (w := w) (base := base) B D_are_alike C_exits_of)
  have C_unlof := D_unlike_gates_of.cl (ok_unlof (P := l.prog) (w := w) (base := base) B D_unlike_gates_of C_orbits_of C_gates_of C_alike)
  have C_lreached := D__law_reached.cl (ok_lreached (P := l.prog) (w := w) (base := base) B D__law_reached)
  have C_lorbits := D__law_orbits.cl (ok_lorbits (P := l.prog) (w := w) (base := base) B D__law_orbits C_lreached)
  have C_lorbit := D__law_orbit.cl (ok_lorbit (P := l.prog) (w := w) (base := base) B D__law_orbit C_lorbits)
  have C_lexits := D__law_exits.cl (ok_lexits (P := l.prog) (w := w) (base := base) B D__law_exits)
  have C_lgates := D__law_gates.cl (ok_lgates (P := l.prog) (w := w) (base := base) B D__law_gates C_lexits)
  have C_lalike := D__law_alike.cl (ok_lalike (P := l.prog) (w := w) (base := base) B D__law_alike C_lexits)
  have C_isround := D_is_round.cl (ok_round (P := l.prog) (w := w) (base := base) B D_is_round)
  have C_lround := D__law_round.cl (ok_lround (P := l.prog) (w := w) (base := base) B D__law_round)
  have C_inner := D_inner_of.cl (ok_inner (P := l.prog) (w := w) (base := base) B D_inner_of C_gates_of)
  have C_stuck := D__is_stuck.cl (ok_stuck (P := l.prog) (w := w) (base := base) B D__is_stuck C_orbits_of C_isround C_cons_of)
  have C_sysin := D__systems_inward.cl (ok_sysin (P := l.prog) (w := w) (base := base) B D__systems_inward C_stuck C_cutof C_orbits_of C_isround C_inner)
  have C_firstof := D__first_of.cl (ok_firstof (P := l.prog) (w := w) (base := base) B D__first_of C_stuck C_cutof C_unlof)
  have C_findr := D_find_reason.cl (ok_findreason (P := l.prog) (w := w) (base := base) B D_find_reason C_sysin C_firstof)
  have C_firstr := D_first_reason.cl (ok_firstreason (P := l.prog) (w := w) (base := base) B D_first_reason C_check_system C_findr)
  have C_smooth := D_is_smooth.cl (ok_smooth (P := l.prog) (w := w) (base := base) B D_is_smooth C_check_system C_findr)
  have C_is_numberJ := D_is_number.cl (ok_isnumberJ (P := l.prog) (w := w) (base := base) B D_is_number)
  have C_is_stateJ := D_is_state.cl (ok_isstateJ (P := l.prog) (w := w) (base := base) B D_is_state C_is_numberJ)
  have C_ent := D__entered.cl (ok_entered (P := l.prog) (w := w) (base := base) B D__entered C_cutof C_orbit_at C_inner C_isround)
  have C_behV := D__behind.cl (ok_behindV (P := l.prog) (w := w) (base := base) B D__behind C_is_stateJ C_ent)
  have C_isintJ := D__law_is_integer.cl (ok_isintJ (P := l.prog) (w := w) (base := base) B D__law_is_integer)
  have C_lent := D__law_entered.cl (ok_lentered (P := l.prog) (w := w) (base := base) B D__law_entered C_lcut C_lorbit C_lround C_lgates)
  have C_lbeh := D__law_behind.cl (ok_lbehind (P := l.prog) (w := w) (base := base) B D__law_behind C_isintJ C_lent)
  have C_lstuck := D__law_stuck.cl (ok_lstuck (P := l.prog) (w := w) (base := base) B D__law_stuck C_lorbits C_lround C_lcons)
  have C_areunl := D__are_unlike.cl (ok_areunlike (P := l.prog) (w := w) (base := base) B D__are_unlike C_is_stateJ C_cutof C_orbit_at C_gates_of C_alike)
  have C_accepts := D_accepts_reason.cl (ok_accepts (P := l.prog) (w := w) (base := base) B D_accepts_reason C_check_system C_behV C_stuck C_areunl)
  have C_lisr := D__law_is_reason.cl (ok_lisreason (P := l.prog) (w := w) (base := base) B D__law_is_reason C_isintJ C_lbeh C_lstuck C_lcut C_lorbit C_lgates C_lalike)
  have C_ldrawn := D__law_drawn.cl (ok_drawn (P := l.prog) (w := w) (base := base) B D__law_drawn C__law_next C_lent)
  have C_lturned := D__law_turned.cl (ok_turned (P := l.prog) (w := w) (base := base) B D__law_turned C__law_next)
  exact ok_law B D_law C__law_stream C__law_system C_equal C__law_next C_firstr C_smooth C_accepts C_lisr C_ldrawn C_lturned
theorem walk {l : PySem.W.OpenLaw} {q : Program} {loose : List Str} {XP : (Str → Option Value) → Heap → Prop} {YP : World → Heap → Prop} {d : DefRec} {K : Params → PySem.W.Frag} (hn : l.most = some 63) (hdf : d.params.defaults = [])
    (hY : ∀ (w : World) (h : Heap), YP w h → (K w.params).In h)
    (F : ∀ (w : World) (mg : Str → Option Value) (fa : Addr) (h : Heap), (K w.params).In h → h.Ns mainGlobals mg → mg d.name = some (.ref fa) →
      ∃ fd : FuncData, (∀ (s : Shared) (u : Value), BindsTo s fd ⟨[u], []⟩ [("script", u)]) ∧ ∀ base : Heap, (K w.params).In base → base.Ns mainGlobals mg → FnOk l.prog w (K w.params) mg base CX0 9 fa fd ["script"] (spLaw (K w.params))) :
    PySem.W.WalkO q loose XP YP l.row.toRowW d [] (fun f vs => PySem.call f vs) :=
  L2.walk_of (n := 63) (k := 9) (x := "script") (CX := fun _ => CX0) (sp := fun w => spLaw (K w.params)) hn (by decide) hdf ⟨rfl, by decide, by decide⟩ hY F (fun _ _ a ns hl _ hS => ⟨a, ns, rfl, hS, hl, fun _ => rfl⟩) fun _ _ _ _ _ z => z

end My
open PySem PySem.W PyProof.Rows
set_option maxRecDepth 100000 in
set_option maxHeartbeats 0 in
theorem PySem.Challenge.cw_nodoubt_k54_whole_reasons_by_whomever_holds : PySem.Challenge.rw_nodoubt_k54_whole_reasons_by_whomever.Holds := by
  w_on; o_law; k_head; (case hw => w_witness2)
  k_fill
  refine My.walk (l := PySem.Challenge.rw_nodoubt_k54_whole_reasons_by_whomever) rfl rfl (fun w h Y => PySem.W.kIn_of Y) ?F
  case F =>
    intro w mg fa h KX G hmg
    refine' My.all_mk KX G hmg ?a1 ?l1 ?c1 ?k1 ?a2 ?l2 ?c2 ?k2 ?a3 ?l3 ?c3 ?k3 ?a4 ?l4 ?c4 ?k4 ?a5 ?l5 ?c5 ?k5 ?a6 ?l6 ?c6 ?k6 ?a7 ?l7 ?c7 ?k7 ?a8 ?l8 ?c8 ?k8 ?a9 ?l9 ?c9 ?k9 ?a10 ?l10 ?c10 ?k10 ?a11 ?l11 ?c11 ?k11 ?a12 ?l12 ?c12 ?k12 ?a13 ?l13 ?c13 ?k13 ?a14 ?l14 ?c14 ?k14 ?a15 ?l15 ?c15 ?k15 ?a16 ?l16 ?c16 ?k16 ?a17 ?l17 ?c17 ?k17 ?a18 ?l18 ?c18 ?k18 ?a19 ?l19 ?c19 ?k19 ?a20 ?l20 ?c20 ?k20 ?a21 ?l21 ?c21 ?k21 ?a22 ?l22 ?c22 ?k22 ?a23 ?l23 ?c23 ?k23 ?a24 ?l24 ?c24 ?k24 ?a25 ?l25 ?c25 ?k25 ?a26 ?l26 ?c26 ?k26 ?a27 ?l27 ?c27 ?k27 ?a28 ?l28 ?c28 ?k28 ?a29 ?l29 ?c29 ?k29 ?a30 ?l30 ?c30 ?k30 ?a31 ?l31 ?c31 ?k31 ?a32 ?l32 ?c32 ?k32 ?a33 ?l33 ?c33 ?k33 ?a34 ?l34 ?c34 ?k34 ?a35 ?l35 ?c35 ?k35 ?a36 ?l36 ?c36 ?k36 ?a37 ?l37 ?c37 ?k37 ?a38 ?l38 ?c38 ?k38 ?a39 ?l39 ?c39 ?k39 ?a40 ?l40 ?c40 ?k40 ?a41 ?l41 ?c41 ?k41 ?a42 ?l42 ?c42 ?k42 ?a43 ?l43 ?c43 ?k43 ?a44 ?l44 ?c44 ?k44 ?a45 ?l45 ?c45 ?k45 ?a46 ?l46 ?c46 ?k46 ?a47 ?l47 ?c47 ?k47 ?a48 ?l48 ?c48 ?k48 ?a49 ?l49 ?c49 ?k49 ?a50 ?l50 ?c50 ?k50 ?a51 ?l51 ?c51 ?k51 ?z_ValueError ?z_abs ?z_all ?z_any ?z_bool ?z_enumerate ?z_int ?z_isinstance ?z_len ?z_list ?z_max ?z_min ?z_range ?z_reversed ?z_str ?z_super ?z_tuple ?gL ?gM ?gV ?gP
    (case a1 => k_is); (case l1 => k_is); (case c1 => k_is); (case k1 => k_is); (case a2 => k_is); (case l2 => k_is); (case c2 => k_is); (case k2 => k_is); (case a3 => k_is); (case l3 => k_is); (case c3 => k_is); (case k3 => k_is); (case a4 => k_is); (case l4 => k_is); (case c4 => k_is); (case k4 => k_is); (case a5 => k_is); (case l5 => k_is); (case c5 => k_is); (case k5 => k_is); (case a6 => k_is); (case l6 => k_is); (case c6 => k_is); (case k6 => k_is); (case a7 => k_is); (case l7 => k_is); (case c7 => k_is); (case k7 => k_is); (case a8 => k_is); (case l8 => k_is); (case c8 => k_is); (case k8 => k_is); (case a9 => k_is); (case l9 => k_is); (case c9 => k_is); (case k9 => k_is); (case a10 => k_is); (case l10 => k_is); (case c10 => k_is); (case k10 => k_is); (case a11 => k_is); (case l11 => k_is); (case c11 => k_is); (case k11 => k_is); (case a12 => k_is); (case l12 => k_is); (case c12 => k_is); (case k12 => k_is); (case a13 => k_is); (case l13 => k_is); (case c13 => k_is); (case k13 => k_is); (case a14 => k_is); (case l14 => k_is); (case c14 => k_is); (case k14 => k_is); (case a15 => k_is); (case l15 => k_is); (case c15 => k_is); (case k15 => k_is); (case a16 => k_is); (case l16 => k_is); (case c16 => k_is); (case k16 => k_is); (case a17 => k_is); (case l17 => k_is); (case c17 => k_is); (case k17 => k_is); (case a18 => k_is); (case l18 => k_is); (case c18 => k_is); (case k18 => k_is); (case a19 => k_is); (case l19 => k_is); (case c19 => k_is); (case k19 => k_is); (case a20 => k_is); (case l20 => k_is); (case c20 => k_is); (case k20 => k_is); (case a21 => k_is); (case l21 => k_is); (case c21 => k_is); (case k21 => k_is); (case a22 => k_is); (case l22 => k_is); (case c22 => k_is); (case k22 => k_is); (case a23 => k_is); (case l23 => k_is); (case c23 => k_is); (case k23 => k_is); (case a24 => k_is); (case l24 => k_is); (case c24 => k_is); (case k24 => k_is); (case a25 => k_is); (case l25 => k_is); (case c25 => k_is); (case k25 => k_is); (case a26 => k_is); (case l26 => k_is); (case c26 => k_is); (case k26 => k_is); (case a27 => k_is); (case l27 => k_is); (case c27 => k_is); (case k27 => k_is); (case a28 => k_is); (case l28 => k_is); (case c28 => k_is); (case k28 => k_is); (case a29 => k_is); (case l29 => k_is); (case c29 => k_is); (case k29 => k_is); (case a30 => k_is); (case l30 => k_is); (case c30 => k_is); (case k30 => k_is); (case a31 => k_is); (case l31 => k_is); (case c31 => k_is); (case k31 => k_is); (case a32 => k_is); (case l32 => k_is); (case c32 => k_is); (case k32 => k_is); (case a33 => k_is); (case l33 => k_is); (case c33 => k_is); (case k33 => k_is); (case a34 => k_is); (case l34 => k_is); (case c34 => k_is); (case k34 => k_is); (case a35 => k_is); (case l35 => k_is); (case c35 => k_is); (case k35 => k_is); (case a36 => k_is); (case l36 => k_is); (case c36 => k_is); (case k36 => k_is); (case a37 => k_is); (case l37 => k_is); (case c37 => k_is); (case k37 => k_is); (case a38 => k_is); (case l38 => k_is); (case c38 => k_is); (case k38 => k_is); (case a39 => k_is); (case l39 => k_is); (case c39 => k_is); (case k39 => k_is); (case a40 => k_is); (case l40 => k_is); (case c40 => k_is); (case k40 => k_is); (case a41 => k_is); (case l41 => k_is); (case c41 => k_is); (case k41 => k_is); (case a42 => k_is); (case l42 => k_is); (case c42 => k_is); (case k42 => k_is); (case a43 => k_is); (case l43 => k_is); (case c43 => k_is); (case k43 => k_is); (case a44 => k_is); (case l44 => k_is); (case c44 => k_is); (case k44 => k_is); (case a45 => k_is); (case l45 => k_is); (case c45 => k_is); (case k45 => k_is); (case a46 => k_is); (case l46 => k_is); (case c46 => k_is); (case k46 => k_is); (case a47 => k_is); (case l47 => k_is); (case c47 => k_is); (case k47 => k_is); (case a48 => k_is); (case l48 => k_is); (case c48 => k_is); (case k48 => k_is); (case a49 => k_is); (case l49 => k_is); (case c49 => k_is); (case k49 => k_is); (case a50 => k_is); (case l50 => k_is); (case c50 => k_is); (case k50 => k_is); (case a51 => k_is); (case l51 => k_is); (case c51 => k_is); (case k51 => k_is); (case z_ValueError => k_is); (case z_abs => k_is); (case z_all => k_is); (case z_any => k_is); (case z_bool => k_is); (case z_enumerate => k_is); (case z_int => k_is); (case z_isinstance => k_is); (case z_len => k_is); (case z_list => k_is); (case z_max => k_is); (case z_min => k_is); (case z_range => k_is); (case z_reversed => k_is); (case z_str => k_is); (case z_super => k_is); (case z_tuple => k_is)
    (case gL => k_is); (case gM => k_is); (case gV => k_is); (case gP => k_is)
