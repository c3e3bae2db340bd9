import PyProof.Rows.All
import Wide.All
import OpenK.AllK
import Wide.FinOn
import HandS.ForMost
import HandS.IsInst
import HandS.TupAny
import HandS.TupMul
import HandS.Codes
import HandS.Style
import HandS.Wide
import PyProof.StrBlock2
import PySem.Challenge.RW_nodoubt_k01_forms_of_expressions
set_option Elab.async false
set_option maxRecDepth 100000
set_option linter.all false
namespace My
open PySem PySem.Spec PyProof.Rows L2
/-! ### a def of the text, and what a caller needs of it -/
structure Df (K : PySem.W.Frag) (mg : Str → Option Value) (x : Str) (st : Stmt) (ps : List Str) (f : Addr) (fd : FuncData) : Prop where
  F : Fun K x x st f fd
  b : Binds K fd ps []
  g : mg x = some (.ref f)
structure Cl (P : Program) (w : World) (K : PySem.W.Frag) (mg : Str → Option Value) (base : Heap) (k : Nat) (x : Str) (ps : List Str) (sp : Sp) : Prop where
  ex : ∃ (f : Addr) (fd : FuncData), FnOk P w K mg base CX0 k f fd ps sp ∧ Binds K fd ps [] ∧ mg x = some (.ref f) ∧ PySem.W.keepIn K (.ref f) = true
theorem Df.cl {P : Program} {w : World} {K : PySem.W.Frag} {mg : Str → Option Value} {base : Heap} {x : Str} {st : Stmt} {ps : List Str} {f : Addr} {fd : FuncData} {k : Nat} {sp : Sp} (D : Df K mg x st ps f fd) (h : FnOk P w K mg base CX0 k f fd ps sp) : Cl P w K mg base k x ps sp :=
  ⟨f, fd, h, D.b, D.g, D.F.kp⟩
theorem pe_cl {X : Cx} {k : Nat} {x : Str} {ps : List Str} {sp : Sp} {p pos : Pos} {e : Expr} {es : List Expr} {t : TA} (C : Cl X.prog X.w X.K X.mg X.base k x ps sp) (hr : Room k X.A) (hg : Gl X x) (ha : PA X (e :: es) t)
    (hdb : (x == ("__debug__" : Str)) = false := by decide) (he : starEach (e :: es) X.env = (false, eval e X.env) :: starEach es X.env := by rfl) (hpl : (backTo pos (starEach es X.env)).any (·.1) = false := by rfl) :
    PE X (.Call (.Name x p) (e :: es) [] pos) (tCall sp [] E0 t) := by
  obtain ⟨f, fd, F, b, m, kp⟩ := C.ex
  exact pe_call F hr hg m kp b .nil pass0 ha hdb he hpl
/-! ### lists of values -/
theorem vals_of : ∀ (vs : List V) (us : List Value), vs.length = us.length → (∀ (j : Nat) (v : V) (u : Value), vs[j]? = some v → us[j]? = some u → RelV v u) → Vals vs us
  | [], [], _, _ => .nil
  | [], _ :: _, h, _ => by cases h
  | _ :: _, [], h, _ => by cases h
  | v :: vs, u :: us, h, k => .cons (k 0 v u rfl rfl) (vals_of vs us (Nat.succ.inj h) fun j v' u' h1 h2 => k (j + 1) v' u' h1 h2)
/-! ### list(text) -/
def signsV (z : Str) : List V := z.cps.toList.map fun c => V.str ⟨#[c]⟩
theorem call_list_text {X : Cx} (hc : X.calm = true) : CallR X (.type "list") (fun xs H Q => ∃ z : Str, xs = [.str z] ∧ z.length ≤ sizeLine ∧ ∀ l, H l = none → Q (.ref l) (upd H l (.lst (signsV z)))) := by
  intro pins s σ H xs us Q I r h
  obtain ⟨z, rfl, hz, q⟩ := h
  obtain ⟨u, rfl, t, rfl⟩ := vals1 r
  have hz' : z.cps.size ≤ sizeLine := hz
  refine call_list_str (I.ok.hd hc) z t (hn := hz) fun h' tk acc' c' hk hS hacc => ?_
  have vals : Vals (signsV z) acc'.toList := by
    refine vals_of _ _ (by unfold signsV; simp [hacc.1]) fun j v u h1 h2 => ?_
    obtain ⟨c, t', hc', rfl⟩ := hacc.2 j u (by simpa using h2)
    unfold signsV at h1
    rw [List.getElem?_map] at h1
    rw [show z.cps.toList[j]? = some c by simpa using hc'] at h1
    cases h1
    exact ⟨_, rfl⟩
  exact ⟨.ref s.heap.objs.size, _, I.laid (t' := tk) hk (Nat.le_refl _) (show ObjOk X.prog X.w _ h' _ (.lst (signsV z)) from ⟨by unfold signsV; simpa using hz', acc'.toList, c', vals, by simpa using hS⟩), rfl, q _ (I.hok.fresh (Nat.le_refl _))⟩

/-- text * number -/
theorem op_mul_str {X : Cx} : OpR X (binaryOp .Mult) (fun x y H Q => ∃ z n, x = .str z ∧ y = .int n ∧ MulOk z n ∧ Q (.str (Txt.mul z n)) H) := by
  intro pins s σ H x y v u Q I rx ry h
  obtain ⟨z, n, rfl, rfl, hok, q⟩ := h
  obtain ⟨t, rfl⟩ := rx
  obtain ⟨t', rfl⟩ := ry
  exact SB.mul hok fun t' k => ⟨.str _, H, I.tok k, ⟨_, rfl⟩, q⟩
/-! ### heaps -/
theorem same_upd {H : Hp} {p : Addr} {o : HO} (h : H p = none) : Same H (upd H p o) := fun b u q => by rw [upd_ne (ne_of_none q h)]; exact q
/-- all but what stands at a is as it was -/
def Keep (a : Addr) (H H' : Hp) : Prop := ∀ b o, H b = some o → b ≠ a → H' b = some o
theorem Keep.refl (a : Addr) (H : Hp) : Keep a H H := fun _ _ h _ => h
theorem Keep.trans {a : Addr} {H H1 H2 : Hp} (x : Keep a H H1) (y : Keep a H1 H2) : Keep a H H2 := fun b o h n => y b o (x b o h n) n
theorem Keep.same {a : Addr} {H H' : Hp} (x : Same H H') : Keep a H H' := fun b o h _ => x b o h
theorem Keep.new {a p : Addr} {H : Hp} {o : HO} (h : H p = none) : Keep a H (upd H p o) := Keep.same (same_upd h)
theorem Keep.store {a : Addr} {H : Hp} {o : HO} : Keep a H (upd H a o) := fun b u q n => by rw [upd_ne n]; exact q
/-- tuples stay, lists stay lists -/
structure Pers (H H' : Hp) : Prop where
  tup : ∀ b xs, H b = some (.tup xs) → H' b = some (.tup xs)
  lst : ∀ b xs, H b = some (.lst xs) → ∃ ys, H' b = some (.lst ys)
theorem Pers.refl (H : Hp) : Pers H H := ⟨fun _ _ h => h, fun _ xs h => ⟨xs, h⟩⟩
theorem Pers.trans {H H1 H2 : Hp} (x : Pers H H1) (y : Pers H1 H2) : Pers H H2 := ⟨fun b xs h => y.tup b xs (x.tup b xs h), fun b xs h => by
  obtain ⟨ys, h1⟩ := x.lst b xs h
  exact y.lst b ys h1⟩
theorem Pers.same {H H' : Hp} (x : Same H H') : Pers H H' := ⟨fun b xs h => x b _ h, fun b xs h => ⟨xs, x b _ h⟩⟩
theorem Pers.new {p : Addr} {H : Hp} {o : HO} (h : H p = none) : Pers H (upd H p o) := Pers.same (same_upd h)
theorem Pers.store {a : Addr} {H : Hp} {xs ys : List V} (h : H a = some (.lst xs)) : Pers H (upd H a (.lst ys)) := ⟨fun b zs q => by
  have n : b ≠ a := fun e => by
    rw [e, h] at q
    cases q
  rw [upd_ne n]
  exact q, fun b zs q => by
  by_cases n : b = a
  · subst n
    exact ⟨ys, upd_same⟩
  · rw [upd_ne n]
    exact ⟨zs, q⟩⟩
/-! ### the stream of draws -/
def StrmW (H : Hp) (a l : Addr) (c k : Int) (ns : List Int) : Prop := H a = some (.lst [.ref l, .int c, .int k]) ∧ H l = some (.lst (ns.map V.int)) ∧ l ≠ a ∧ 0 ≤ k
def Strm (H : Hp) (a : Addr) : Prop := ∃ l c k ns, StrmW H a l c k ns
/-- what a call that draws leaves: all but the stream as it was -/
structure Go (a : Addr) (H H' : Hp) : Prop where
  keep : Keep a H H'
  st0 : Strm H a
  mv : ∀ l c k ns, StrmW H a l c k ns → ∃ c' k' ns', StrmW H' a l c' k' ns'
theorem Go.st {a : Addr} {H H' : Hp} (g : Go a H H') : Strm H' a := by
  obtain ⟨l, c, k, ns, h⟩ := g.st0
  obtain ⟨c', k', ns', h'⟩ := g.mv l c k ns h
  exact ⟨l, c', k', ns', h'⟩
theorem Go.refl {a : Addr} {H : Hp} (h : Strm H a) : Go a H H := ⟨Keep.refl a H, h, fun l c k ns h => ⟨c, k, ns, h⟩⟩
theorem Go.trans {a : Addr} {H H1 H2 : Hp} (x : Go a H H1) (y : Go a H1 H2) : Go a H H2 := ⟨x.keep.trans y.keep, x.st0, fun l c k ns h => by
  obtain ⟨c', k', ns', h'⟩ := x.mv l c k ns h
  exact y.mv l c' k' ns' h'⟩
theorem StrmW.same {a l : Addr} {c k : Int} {ns : List Int} {H H' : Hp} (h : StrmW H a l c k ns) (s : Same H H') : StrmW H' a l c k ns := ⟨s _ _ h.1, s _ _ h.2.1, h.2.2.1, h.2.2.2⟩
theorem Strm.same {a : Addr} {H H' : Hp} (h : Strm H a) (s : Same H H') : Strm H' a := by
  obtain ⟨l, c, k, ns, h⟩ := h
  exact ⟨l, c, k, ns, h.same s⟩
theorem Go.same {a : Addr} {H H' : Hp} (h : Strm H a) (s : Same H H') : Go a H H' := ⟨Keep.same s, h, fun l c k ns w => ⟨c, k, ns, w.same s⟩⟩
theorem Go.new {a p : Addr} {H : Hp} {o : HO} (h : Strm H a) (n : H p = none) : Go a H (upd H p o) := Go.same h (same_upd n)
/-- a store to what is new since H -/
theorem Go.loc {a p : Addr} {H H' : Hp} {o : HO} (g : Go a H H') (n : H p = none) : Go a H (upd H' p o) := ⟨fun b u hb hn => by
  rw [upd_ne (ne_of_none hb n)]
  exact g.keep b u hb hn, g.st0, fun l c k ns h => by
  obtain ⟨c', k', ns', h1, h2, h3, h4⟩ := g.mv l c k ns h
  exact ⟨c', k', ns', by rw [upd_ne (ne_of_none h.1 n)]; exact h1, by rw [upd_ne (ne_of_none h.2.1 n)]; exact h2, h3, h4⟩⟩
theorem Strm.isl {a : Addr} {H : Hp} (h : Strm H a) : ∃ xs, H a = some (.lst xs) := by
  obtain ⟨l, c, k, ns, h1, h2⟩ := h
  exact ⟨_, h1⟩
theorem Go.pers {a : Addr} {H H' : Hp} (g : Go a H H') : Pers H H' := by
  obtain ⟨xs, h1⟩ := g.st0.isl
  obtain ⟨ys, h2⟩ := g.st.isl
  refine ⟨fun b zs q => g.keep b _ q fun e => ?_, fun b zs q => ?_⟩
  · rw [e, h1] at q
    cases q
  · by_cases n : b = a
    · subst n
      exact ⟨ys, h2⟩
    · exact ⟨zs, g.keep b _ q n⟩
theorem Strm.ne {a p : Addr} {H : Hp} (h : Strm H a) (n : H p = none) : a ≠ p := by
  obtain ⟨xs, h1⟩ := h.isl
  exact ne_of_none h1 n
theorem Strm.neT {a p : Addr} {H : Hp} {xs : List V} (h : Strm H a) (n : H p = some (.tup xs)) : p ≠ a := fun e => by
  obtain ⟨ys, h1⟩ := h.isl
  rw [e, h1] at n
  cases n
/-! ### two lists, item by item -/
inductive Two {α β : Type} (R : α → β → Prop) : List α → List β → Prop where
  | nil : Two R [] []
  | cons {a : α} {b : β} {as : List α} {bs : List β} (h : R a b) (t : Two R as bs) : Two R (a :: as) (b :: bs)
theorem Two.len {α β : Type} {R : α → β → Prop} {as : List α} {bs : List β} (h : Two R as bs) : as.length = bs.length := by
  induction h with
  | nil => rfl
  | cons _ _ ih => rw [List.length_cons, List.length_cons, ih]
theorem Two.mono {α β : Type} {R S : α → β → Prop} (k : ∀ a b, R a b → S a b) {as : List α} {bs : List β} (h : Two R as bs) : Two S as bs := by
  induction h with
  | nil => exact .nil
  | cons h _ ih => exact .cons (k _ _ h) ih
theorem Two.monoM {α β : Type} {R S : α → β → Prop} {as : List α} {bs : List β} (h : Two R as bs) (k : ∀ a b, a ∈ as → b ∈ bs → R a b → S a b) : Two S as bs := by
  induction h with
  | nil => exact .nil
  | cons h _ ih => exact .cons (k _ _ (List.mem_cons_self ..) (List.mem_cons_self ..) h) (ih fun a b ha hb => k a b (List.mem_cons_of_mem _ ha) (List.mem_cons_of_mem _ hb))
theorem Two.app {α β : Type} {R : α → β → Prop} {as as' : List α} {bs bs' : List β} (h : Two R as bs) (h' : Two R as' bs') : Two R (as ++ as') (bs ++ bs') := by
  induction h with
  | nil => exact h'
  | cons h _ ih => exact .cons h ih
theorem Two.get {α β : Type} {R : α → β → Prop} {as : List α} {bs : List β} (h : Two R as bs) : ∀ {i : Nat} {a : α}, as[i]? = some a → ∃ b, bs[i]? = some b ∧ R a b := by
  induction h with
  | nil => intro i a h; simp at h
  | cons h _ ih =>
    intro i a e
    cases i with
    | zero => cases e; exact ⟨_, rfl, h⟩
    | succ i => exact ih e
theorem Two.get2 {α β : Type} {R : α → β → Prop} {as : List α} {bs : List β} (h : Two R as bs) {i : Nat} {a : α} {b : β} (ha : as[i]? = some a) (hb : bs[i]? = some b) : R a b := by
  obtain ⟨b', h1, h2⟩ := h.get ha
  rw [h1] at hb
  cases hb
  exact h2
theorem Two.of_get {α β : Type} {R : α → β → Prop} : ∀ {as : List α} {bs : List β}, as.length = bs.length → (∀ (i : Nat) (a : α) (b : β), as[i]? = some a → bs[i]? = some b → R a b) → Two R as bs
  | [], [], _, _ => .nil
  | [], _ :: _, h, _ => by cases h
  | _ :: _, [], h, _ => by cases h
  | a :: as, b :: bs, h, k => .cons (k 0 a b rfl rfl) (Two.of_get (Nat.succ.inj h) fun i a' b' h1 h2 => k (i + 1) a' b' h1 h2)
theorem Two.unsnoc {α β : Type} {R : α → β → Prop} {as : List α} {bs : List β} {b : β} (h : Two R as (bs ++ [b])) : ∃ as' a, as = as' ++ [a] ∧ Two R as' bs ∧ R a b := by
  induction bs generalizing as with
  | nil =>
    cases h with
    | cons h t =>
      cases t
      exact ⟨[], _, rfl, .nil, h⟩
  | cons c bs ih =>
    cases h with
    | cons h t =>
      obtain ⟨as', a, rfl, h1, h2⟩ := ih t
      exact ⟨_ :: as', a, rfl, .cons h h1, h2⟩
theorem Two.map_right {α β γ : Type} {R : α → γ → Prop} {f : β → γ} {as : List α} {bs : List β} (h : Two (fun a b => R a (f b)) as bs) : Two R as (bs.map f) := by
  induction h with
  | nil => exact .nil
  | cons h _ ih => exact .cons h ih
/-! ### data: what stands at a value -/
inductive D where
  | str (z : Str)
  | tup (ds : List D)
  | lst
  | flat
inductive Rep (H : Hp) : V → D → Prop where
  | str {z : Str} (h : z.length ≤ 1000) : Rep H (.str z) (.str z)
  | tup {p : Addr} {xs : List V} {ds : List D} (h : H p = some (.tup xs)) (z : xs.length ≤ 100000) (l : xs.length = ds.length) (k : ∀ (i : Nat) (x : V) (d : D), xs[i]? = some x → ds[i]? = some d → Rep H x d) : Rep H (.ref p) (.tup ds)
  | lst {p : Addr} {xs : List V} (h : H p = some (.lst xs)) : Rep H (.ref p) .lst
  | non : Rep H .non .flat
  | bl (b : Bool) : Rep H (.bl b) .flat
  | int (i : Int) : Rep H (.int i) .flat
theorem Rep.tup2 {H : Hp} {p : Addr} {xs : List V} {ds : List D} (h : H p = some (.tup xs)) (z : xs.length ≤ 100000) (k : Two (Rep H) xs ds) : Rep H (.ref p) (.tup ds) := .tup h z k.len fun _ _ _ h1 h2 => k.get2 h1 h2
theorem Rep.pers {H H' : Hp} (k : Pers H H') {v : V} {d : D} (h : Rep H v d) : Rep H' v d := by
  induction h with
  | str h => exact .str h
  | tup h z l _ ih => exact .tup (k.tup _ _ h) z l ih
  | lst h =>
    obtain ⟨ys, h1⟩ := k.lst _ _ h
    exact .lst h1
  | non => exact .non
  | bl b => exact .bl b
  | int i => exact .int i
theorem Rep.pers2 {H H' : Hp} (k : Pers H H') {vs : List V} {ds : List D} (h : Two (Rep H) vs ds) : Two (Rep H') vs ds := h.mono fun _ _ => Rep.pers k
theorem Rep.untup {H : Hp} {v : V} {ds : List D} (h : Rep H v (.tup ds)) : ∃ p xs, v = .ref p ∧ H p = some (.tup xs) ∧ xs.length ≤ 100000 ∧ Two (Rep H) xs ds := by
  cases h with
  | tup h z l k => exact ⟨_, _, rfl, h, z, Two.of_get l k⟩
def isStr : D → Bool | .str _ => true | _ => false
def isTup : D → Bool | .tup _ => true | _ => false
/-- its type, for isinstance -/
theorem Rep.ty {K : PySem.W.Frag} {H : Hp} {v : V} {d : D} (h : Rep H v d) : ∃ t : String, TyX K H v (.type t) ∧ PySem.W.kitOne K (.type t) (.type "str") = some (isStr d) ∧ PySem.W.kitOne K (.type t) (.type "tuple") = some (isTup d) := by
  cases h with
  | str h => exact ⟨"str", .base (.str _), kit_ty (r := true) (by decide +kernel), kit_ty (r := false) (by decide +kernel)⟩
  | tup h _ _ _ => exact ⟨"tuple", .base (.tup h), kit_ty (r := false) (by decide +kernel), kit_ty (r := true) (by decide +kernel)⟩
  | lst h => exact ⟨"list", .base (.lst h), kit_ty (r := false) (by decide +kernel), kit_ty (r := false) (by decide +kernel)⟩
  | non => exact ⟨"NoneType", .base .non, kit_ty (r := false) (by decide +kernel), kit_ty (r := false) (by decide +kernel)⟩
  | bl b => exact ⟨"bool", .base (.bl _), kit_ty (r := false) (by decide +kernel), kit_ty (r := false) (by decide +kernel)⟩
  | int i => exact ⟨"int", .base (.int _), kit_ty (r := false) (by decide +kernel), kit_ty (r := false) (by decide +kernel)⟩
/-! ### short words for readings -/
theorem vstr {a b : Str} (h : decide (V.str a = V.str b) = true) : a = b := by
  have e := of_decide_eq_true h
  cases e
  rfl
theorem vstrN {a b : Str} (h : ¬ decide (V.str a = V.str b) = true) : ¬ a = b := fun e => h (decide_eq_true (congrArg V.str e))
theorem tyes {σ : L2.St} {H : Hp} {A B : Hp → Prop} (h : A H) : tYes σ H (fun b H3 => if b = true then A H3 else B H3) := by
  show (if true = true then A H else B H)
  rw [if_pos rfl]
  exact h
theorem at_zero {x : V} {xs : List V} : atI (x :: xs) 0 = some x := at_of (j := 0) rfl rfl
theorem at_one {x y : V} {xs : List V} : atI (x :: y :: xs) 1 = some y := at_of (j := 1) rfl rfl
theorem or2 {a b : Prop} {A B : Prop} [Decidable a] [Decidable b] (h1 : a ∨ b → A) (h2 : ¬ (a ∨ b) → B) : if a then A else if b then A else B := by
  by_cases c : a
  · rw [if_pos c]
    exact h1 (.inl c)
  · rw [if_neg c]
    by_cases d : b
    · rw [if_pos d]
      exact h1 (.inr d)
    · rw [if_neg d]
      exact h2 fun z => z.elim c d
theorem lc_str {z : Str} {g : TG} {tt : TT} {te : TE} {vs : List Nat} {σ : L2.St} {H1 : Hp} {D : Addr} {Qd : Hp → Prop} (Pv : Nat → Hp → Prop) (h0 : Pv 0 (upd H1 D (.lst [])))
    (hs : ∀ i c H, z.cps[i]? = some c → Pv i H → g (.str ⟨#[c]⟩) (wipe σ vs) H fun σ2 H2 => wipe σ2 vs = wipe σ vs ∧ tt σ2 H2 fun b H3 =>
      if b = true then te σ2 H3 fun y H4 => ∃ acc, H4 D = some (.lst acc) ∧ acc.length < sizeLine ∧ Pv (i + 1) (upd H4 D (.lst (acc ++ [y]))) else Pv (i + 1) H3) (hd : ∀ H, Pv z.cps.size H → Qd H) :
    ∃ W : Nat → Nat → Hp → Prop, (∃ m, W 0 m (upd H1 D (.lst []))) ∧ ∀ i m H, W i m H →
      ((Its z).stop i H ∧ Qd H) ∨ ((Its z).go i H ∧ ∃ Nx : Hp → Prop, (∀ H', Nx H' → ∃ m', m' < m ∧ W (i + 1) m' H') ∧ ∀ x H', (Its z).yld i H x H' → g x (wipe σ vs) H' fun σ2 H2 => wipe σ2 vs = wipe σ vs ∧ tt σ2 H2 fun b H3 =>
        if b = true then te σ2 H3 fun y H4 => ∃ acc, H4 D = some (.lst acc) ∧ acc.length < sizeLine ∧ Nx (upd H4 D (.lst (acc ++ [y]))) else Nx H3) := by
  refine ⟨fun i m H => m = z.cps.size - i ∧ i ≤ z.cps.size ∧ Pv i H, ⟨z.cps.size, by simp, Nat.zero_le _, h0⟩, ?_⟩
  rintro i m H ⟨rfl, hi, p⟩
  by_cases hlt : i < z.cps.size
  · refine .inr ⟨hlt, Pv (i + 1), fun H' p' => ⟨z.cps.size - (i + 1), by omega, rfl, hlt, p'⟩, fun x H' y => ?_⟩
    obtain ⟨rfl, c, hc, rfl⟩ := y
    exact hs i c _ hc p
  · have e : i = z.cps.size := by omega
    subst e
    exact .inl ⟨Nat.le_refl _, hd H p⟩
/-! ### plain data, for the law's own comparison -/
inductive J where
  | non
  | bl (b : Bool)
  | int (i : Int)
  | str (z : Str)
  | tup (js : List J)
  | lst (js : List J)
inductive RepJ (H : Hp) : V → J → Nat → Prop where
  | non {n : Nat} : RepJ H .non .non n
  | bl {n : Nat} (b : Bool) : RepJ H (.bl b) (.bl b) n
  | int {n : Nat} (i : Int) : RepJ H (.int i) (.int i) n
  | str {n : Nat} (z : Str) : RepJ H (.str z) (.str z) n
  | tup {n : Nat} {p : Addr} {xs : List V} {js : List J} (h : H p = some (.tup xs)) (z : xs.length ≤ 100000) (l : xs.length = js.length) (k : ∀ (i : Nat) (x : V) (j : J), xs[i]? = some x → js[i]? = some j → RepJ H x j n) : RepJ H (.ref p) (.tup js) (n + 1)
  | lst {n : Nat} {p : Addr} {xs : List V} {js : List J} (h : H p = some (.lst xs)) (z : xs.length ≤ 100000) (l : xs.length = js.length) (k : ∀ (i : Nat) (x : V) (j : J), xs[i]? = some x → js[i]? = some j → RepJ H x j n) : RepJ H (.ref p) (.lst js) (n + 1)
theorem RepJ.same {H H' : Hp} (s : Same H H') {v : V} {j : J} {n : Nat} (h : RepJ H v j n) : RepJ H' v j n := by
  induction h with
  | non => exact .non
  | bl b => exact .bl b
  | int i => exact .int i
  | str z => exact .str z
  | tup h z l _ ih => exact .tup (s _ _ h) z l ih
  | lst h z l _ ih => exact .lst (s _ _ h) z l ih
/-! ### the promises of the draws -/
def spStream (K : PySem.W.Frag) : Sp := fun vs H Q _ => ∃ (s : Addr) (ns : List Int), vs = [.ref s] ∧ SqL K H s (ns.map V.int) ∧ ns.length ≤ 63 ∧ ∀ a H', Same H H' → H a = none → Strm H' a → Q (.ref a) H'
def spNext : Sp := fun vs H Q _ => ∃ (a : Addr) (m : Int), vs = [.ref a, .int m] ∧ Strm H a ∧ 0 < m ∧ m < 1000000 ∧ ∀ d H', 0 ≤ d → d < m → Go a H H' → Q (.int d) H'
def spPick (K : PySem.W.Frag) : Sp := fun vs H Q _ => ∃ (a r : Addr) (xs : List V), vs = [.ref a, .ref r] ∧ Strm H a ∧ SqL K H r xs ∧ r ≠ a ∧ 0 < xs.length ∧ xs.length < 1000 ∧ ∀ v H', v ∈ xs → Go a H H' → Q v H'
theorem Go.seq {K : PySem.W.Frag} {a r : Addr} {H H' : Hp} {xs : List V} (g : Go a H H') (n : r ≠ a) (h : SqL K H r xs) : SqL K H' r xs := by
  rcases h with (h | ⟨o, h⟩) | h
  · exact .inl (.inl (g.keep _ _ h n))
  · exact .inl (.inr ⟨o, g.keep _ _ h n⟩)
  · exact .inr h
end My
namespace My
open PySem PySem.Spec PyProof.Rows L2
/-! ### letters and words -/
def isLet (z : Str) : Bool := match z.cps.toList with | [c] => decide (97 ≤ c) && decide (c ≤ 100) | _ => false
abbrev sJoin : Str := "join"
abbrev sOr : Str := "or"
abbrev sMaybe : Str := "maybe"
abbrev sMany : Str := "many"
abbrev sNo : Str := ""
theorem jo : ¬ sJoin = sOr := by decide +kernel
theorem jm : ¬ sJoin = sMaybe := by decide +kernel
theorem jn : ¬ sJoin = sMany := by decide +kernel
theorem je : ¬ sJoin = sNo := by decide +kernel
theorem om : ¬ sOr = sMaybe := by decide +kernel
theorem on : ¬ sOr = sMany := by decide +kernel
theorem oe : ¬ sOr = sNo := by decide +kernel
theorem mn : ¬ sMaybe = sMany := by decide +kernel
theorem lJ : sJoin.length = 4 := by decide +kernel
theorem lO : sOr.length = 2 := by decide +kernel
theorem lM : sMaybe.length = 5 := by decide +kernel
theorem lN : sMany.length = 4 := by decide +kernel
theorem lE : sNo.length = 0 := by decide +kernel
/-! ### the parts directly in a datum -/
def begins (w : Str) : D → Bool
  | .tup (.str x :: _) => decide (x = w)
  | _ => false
def rowOk (w : Str) : D → Bool
  | .tup ys => decide (2 ≤ ys.length) && !(ys.any (begins w))
  | _ => false
def rowItems : D → Option (List D)
  | .tup ys => some ys
  | _ => none
def innerPair (w : Str) (y : D) : Option (List D) := if w = sMaybe ∨ w = sMany then some [y] else if (w = sJoin ∨ w = sOr) ∧ rowOk w y = true then rowItems y else none
def inner : D → Option (List D)
  | .str z => if z = sNo ∨ isLet z = true then some [] else none
  | .tup [.str w, y] => innerPair w y
  | _ => none
theorem inner_pair (w : Str) (y : D) : inner (.tup [.str w, y]) = innerPair w y := rfl
/-- a part of a row does not begin with an object -/
def notObj : D → Bool
  | .tup _ => false
  | .lst => false
  | _ => true
def headFlat : D → Bool
  | .tup (x :: _) => notObj x
  | _ => true
def rowFlat : D → Bool
  | .tup ys => ys.all headFlat
  | _ => true
/-- what the looks at a datum ask: items of a row of parts begin flat -/
inductive Fl : D → Prop where
  | str (z : Str) : Fl (.str z)
  | tup {ds : List D} (h : ∀ w y, ds = [.str w, y] → w = sJoin ∨ w = sOr → rowFlat y = true) (k : ∀ d ∈ ds, Fl d) : Fl (.tup ds)
  | lst : Fl .lst
  | flat : Fl .flat
/-! ### sizes, for the loop's measure -/
def D.size : D → Nat
  | .str _ => 1
  | .tup ds => 1 + sizes ds
  | .lst => 1
  | .flat => 1
where sizes : List D → Nat
  | [] => 0
  | d :: ds => d.size + sizes ds
def places1 : D → Nat
  | .str z => z.length
  | _ => 0
abbrev Bnd := Nat × Nat × Nat
def within (b a : Bnd) : Bool := decide (a.1 ≤ b.1) && decide (a.2.1 ≤ b.2.1) && decide (a.2.2 ≤ b.2.2)
/-- the loop: n turns at most; the stack's last is looked at first -/
def look (b : Bnd) : Nat → List (D × Nat) → Bnd → Option Bnd
  | 0, _, _ => none
  | _ + 1, [], a => some a
  | n + 1, (d, k) :: st, a => match inner d with
    | none => none
    | some ys =>
      if within b (a.1 + places1 d, max a.2.1 k, a.2.2 + ys.length) = true then look b n ((ys.map fun y => (y, k + 1)).reverse ++ st) (a.1 + places1 d, max a.2.1 k, a.2.2 + ys.length) else none
def msr (st : List (D × Nat)) : Nat := (st.map fun p => p.1.size).sum
theorem sizes_eq (ds : List D) : D.size.sizes ds = (ds.map D.size).sum := by
  induction ds with
  | nil => rfl
  | cons d ds ih => rw [D.size.sizes, ih, List.map_cons, List.sum_cons]
theorem size_pos (d : D) : 0 < d.size := by
  cases d <;> (unfold D.size; omega)
theorem inner_size {d : D} {ys : List D} (h : inner d = some ys) : (ys.map D.size).sum < d.size := by
  unfold inner at h
  split at h
  · split at h
    · cases h
      exact size_pos _
    · cases h
  · rename_i w y
    unfold innerPair at h
    split at h
    · cases h
      simp only [D.size, D.size.sizes, List.map_cons, List.map_nil, List.sum_cons, List.sum_nil]
      omega
    · split at h
      · cases y with
        | tup zs =>
          cases h
          simp only [D.size, D.size.sizes, sizes_eq]
          omega
        | str z => cases h
        | lst => cases h
        | flat => cases h
      · cases h
  · cases h
theorem msr_step {d : D} {k : Nat} {st : List (D × Nat)} {ys : List D} (h : inner d = some ys) : msr ((ys.map fun y => (y, k + 1)).reverse ++ st) < msr ((d, k) :: st) := by
  unfold msr
  rw [List.map_append, List.sum_append, List.map_reverse, List.sum_reverse, List.map_map, List.map_cons, List.sum_cons]
  have e : ((fun p : D × Nat => p.1.size) ∘ fun y => (y, k + 1)) = D.size := rfl
  rw [e]
  have := inner_size h
  show _ < d.size + _
  omega

/-! ### expressions -/
inductive E where
  | eps
  | sym (c : Nat)
  | maybe (e : E)
  | many (e : E)
  | join (es : List E)
  | alt (es : List E)
def E.toD : E → D
  | .eps => .str sNo
  | .sym c => .str ⟨#[c]⟩
  | .maybe e => .tup [.str sMaybe, e.toD]
  | .many e => .tup [.str sMany, e.toD]
  | .join es => .tup [.str sJoin, .tup (toDs es)]
  | .alt es => .tup [.str sOr, .tup (toDs es)]
where toDs : List E → List D
  | [] => []
  | e :: es => e.toD :: toDs es
theorem toDs_eq (es : List E) : E.toD.toDs es = es.map E.toD := by
  induction es with
  | nil => rfl
  | cons e es ih => rw [E.toD.toDs, ih, List.map_cons]
def isJoin : E → Bool | .join _ => true | _ => false
def isAlt : E → Bool | .alt _ => true | _ => false
def E.ok : E → Bool
  | .eps => true
  | .sym c => decide (97 ≤ c) && decide (c ≤ 100)
  | .maybe e => e.ok
  | .many e => e.ok
  | .join es => decide (2 ≤ es.length) && oks es && !(es.any isJoin)
  | .alt es => decide (2 ≤ es.length) && oks es && !(es.any isAlt)
where oks : List E → Bool
  | [] => true
  | e :: es => e.ok && oks es
theorem oks_eq (es : List E) : E.ok.oks es = es.all E.ok := by
  induction es with
  | nil => rfl
  | cons e es ih => rw [E.ok.oks, ih, List.all_cons]
def E.places : E → Nat
  | .eps => 0
  | .sym _ => 1
  | .maybe e => e.places
  | .many e => e.places
  | .join es => placess es
  | .alt es => placess es
where placess : List E → Nat
  | [] => 0
  | e :: es => e.places + placess es
def E.depth : E → Nat
  | .eps => 0
  | .sym _ => 0
  | .maybe e => e.depth + 1
  | .many e => e.depth + 1
  | .join es => depths es + 1
  | .alt es => depths es + 1
where depths : List E → Nat
  | [] => 0
  | e :: es => max e.depth (depths es)
def E.parts : E → Nat
  | .eps => 1
  | .sym _ => 1
  | .maybe e => e.parts + 1
  | .many e => e.parts + 1
  | .join es => partss es + 1
  | .alt es => partss es + 1
where partss : List E → Nat
  | [] => 0
  | e :: es => e.parts + partss es
theorem placess_eq (es : List E) : E.places.placess es = (es.map E.places).sum := by
  induction es with
  | nil => rfl
  | cons e es ih => rw [E.places.placess, ih, List.map_cons, List.sum_cons]
theorem partss_eq (es : List E) : E.parts.partss es = (es.map E.parts).sum := by
  induction es with
  | nil => rfl
  | cons e es ih => rw [E.parts.partss, ih, List.map_cons, List.sum_cons]
theorem depths_le {es : List E} {n : Nat} (h : ∀ e ∈ es, e.depth ≤ n) : E.depth.depths es ≤ n := by
  induction es with
  | nil => exact Nat.zero_le _
  | cons e es ih =>
    rw [E.depth.depths]
    exact Nat.max_le.mpr ⟨h e (List.mem_cons_self ..), ih fun x hx => h x (List.mem_cons_of_mem _ hx)⟩
/-- the expressions directly in one -/
def E.kids : E → List E
  | .eps => []
  | .sym _ => []
  | .maybe e => [e]
  | .many e => [e]
  | .join es => es
  | .alt es => es
def E.own : E → Nat
  | .sym _ => 1
  | _ => 0
theorem parts_kids (e : E) : e.parts = (e.kids.map E.parts).sum + 1 := by
  cases e <;> simp [E.parts, E.kids, partss_eq]
theorem places_kids (e : E) : e.places = e.own + (e.kids.map E.places).sum := by
  cases e <;> simp [E.places, E.kids, E.own, placess_eq]
theorem ok_kids {e : E} (h : e.ok = true) : ∀ k ∈ e.kids, k.ok = true := by
  intro k hk
  cases e with
  | eps => cases hk
  | sym c => cases hk
  | maybe e => rw [E.kids, List.mem_singleton] at hk; subst hk; rw [E.ok] at h; exact h
  | many e => rw [E.kids, List.mem_singleton] at hk; subst hk; rw [E.ok] at h; exact h
  | join es =>
    rw [E.ok, oks_eq] at h
    simp only [Bool.and_eq_true, List.all_eq_true] at h
    exact h.1.2 k hk
  | alt es =>
    rw [E.ok, oks_eq] at h
    simp only [Bool.and_eq_true, List.all_eq_true] at h
    exact h.1.2 k hk
theorem begins_tup (w x : Str) (ys : List D) : begins w (.tup (.str x :: ys)) = decide (x = w) := rfl
theorem begins_join (e : E) : begins sJoin e.toD = isJoin e := by
  cases e with
  | eps => rfl
  | sym c => rfl
  | maybe e => rw [E.toD, begins_tup]; exact decide_eq_false (fun h => jm h.symm)
  | many e => rw [E.toD, begins_tup]; exact decide_eq_false (fun h => jn h.symm)
  | join es => rw [E.toD, begins_tup]; exact decide_eq_true rfl
  | alt es => rw [E.toD, begins_tup]; exact decide_eq_false (fun h => jo h.symm)
theorem begins_or (e : E) : begins sOr e.toD = isAlt e := by
  cases e with
  | eps => rfl
  | sym c => rfl
  | maybe e => rw [E.toD, begins_tup]; exact decide_eq_false (fun h => om h.symm)
  | many e => rw [E.toD, begins_tup]; exact decide_eq_false (fun h => on h.symm)
  | join es => rw [E.toD, begins_tup]; exact decide_eq_false (fun h => jo h)
  | alt es => rw [E.toD, begins_tup]; exact decide_eq_true rfl
theorem rowOk_tup (w : Str) (ys : List D) : rowOk w (.tup ys) = (decide (2 ≤ ys.length) && !(ys.any (begins w))) := rfl
theorem inner_toD {e : E} (h : e.ok = true) : inner e.toD = some (e.kids.map E.toD) := by
  cases e with
  | eps => rw [E.toD, inner, if_pos (.inl rfl)]; rfl
  | sym c =>
    have q : isLet ⟨#[c]⟩ = true := by
      rw [E.ok] at h
      exact h
    rw [E.toD, inner, if_pos (.inr q)]; rfl
  | maybe e => rw [E.toD, inner_pair, innerPair, if_pos (.inl rfl)]; rfl
  | many e => rw [E.toD, inner_pair, innerPair, if_pos (.inr rfl)]; rfl
  | join es =>
    rw [E.ok, oks_eq] at h
    simp only [Bool.and_eq_true, decide_eq_true_eq] at h
    have r : rowOk sJoin (.tup (E.toD.toDs es)) = true := by
      rw [rowOk_tup, toDs_eq, List.length_map, List.any_map]
      have z : (begins sJoin ∘ E.toD) = isJoin := funext begins_join
      rw [z, h.2, Bool.and_true]
      exact decide_eq_true h.1.1
    rw [E.toD, inner_pair, innerPair, if_neg (fun z => z.elim jm jn), if_pos ⟨.inl rfl, r⟩, toDs_eq]; rfl
  | alt es =>
    rw [E.ok, oks_eq] at h
    simp only [Bool.and_eq_true, decide_eq_true_eq] at h
    have r : rowOk sOr (.tup (E.toD.toDs es)) = true := by
      rw [rowOk_tup, toDs_eq, List.length_map, List.any_map]
      have z : (begins sOr ∘ E.toD) = isAlt := funext begins_or
      rw [z, h.2, Bool.and_true]
      exact decide_eq_true h.1.1
    rw [E.toD, inner_pair, innerPair, if_neg (fun z => z.elim om on), if_pos ⟨.inr rfl, r⟩, toDs_eq]; rfl
theorem places1_toD (e : E) : places1 e.toD = e.own := by
  cases e <;> rw [E.toD] <;> first | rfl | exact lE
theorem depth_kids (e : E) : ∀ k ∈ e.kids, k.depth + 1 ≤ e.depth := by
  have a : ∀ (es : List E), ∀ k ∈ es, k.depth ≤ E.depth.depths es := by
    intro es
    induction es with
    | nil => intro k h; cases h
    | cons e es ih =>
      intro k h
      rw [E.depth.depths]
      rcases List.mem_cons.mp h with rfl | h
      · exact Nat.le_max_left _ _
      · exact Nat.le_trans (ih k h) (Nat.le_max_right _ _)
  intro k hk
  cases e with
  | eps => cases hk
  | sym c => cases hk
  | maybe e => rw [E.kids, List.mem_singleton] at hk; subst hk; rw [E.depth]; omega
  | many e => rw [E.kids, List.mem_singleton] at hk; subst hk; rw [E.depth]; omega
  | join es => have := a es k hk; rw [E.depth]; omega
  | alt es => have := a es k hk; rw [E.depth]; omega
theorem depth_by {e : E} {n : Nat} (h : ∀ k ∈ e.kids, k.depth + 1 ≤ n) : e.depth ≤ n ∨ (e.kids = [] ∧ e.depth = 0) ∨ e.depth = 1 := by
  cases e with
  | eps => exact .inr (.inl ⟨rfl, rfl⟩)
  | sym c => exact .inr (.inl ⟨rfl, rfl⟩)
  | maybe e => exact .inl (h e (List.mem_singleton.mpr rfl))
  | many e => exact .inl (h e (List.mem_singleton.mpr rfl))
  | join es =>
    cases es with
    | nil => exact .inr (.inr rfl)
    | cons x r =>
      refine .inl ?_
      rw [E.depth]
      cases n with
      | zero => have := h x (List.mem_cons_self ..); omega
      | succ n => exact Nat.succ_le_succ (depths_le fun k hk => Nat.le_of_succ_le_succ (h k hk))
  | alt es =>
    cases es with
    | nil => exact .inr (.inr rfl)
    | cons x r =>
      refine .inl ?_
      rw [E.depth]
      cases n with
      | zero => have := h x (List.mem_cons_self ..); omega
      | succ n => exact Nat.succ_le_succ (depths_le fun k hk => Nat.le_of_succ_le_succ (h k hk))
/-! ### what the look gives -/
abbrev Stk := List (E × Nat)
def sD (st : Stk) : List (D × Nat) := st.map fun p => (p.1.toD, p.2)
/-- the greatest depth on the stack, from m on -/
def deepE (st : Stk) (m : Nat) : Nat := st.foldr (fun p m => max (p.2 + p.1.depth) m) m
def totE (st : Stk) (a : Bnd) : Bnd := (a.1 + (st.map fun p => p.1.places).sum, deepE st a.2.1, a.2.2 + (st.map fun p => p.1.parts - 1).sum)
theorem deepE_app (s t : Stk) (m : Nat) : deepE (s ++ t) m = deepE s (deepE t m) := by
  unfold deepE
  rw [List.foldr_append]
theorem deepE_max (s : Stk) (m : Nat) : m ≤ deepE s m := by
  induction s with
  | nil => exact Nat.le_refl _
  | cons p s ih => exact Nat.le_trans ih (Nat.le_max_right _ _)
theorem deepE_le {s : Stk} {m n : Nat} : deepE s m ≤ n ↔ m ≤ n ∧ ∀ p ∈ s, p.2 + p.1.depth ≤ n := by
  induction s with
  | nil => exact ⟨fun h => ⟨h, fun p hp => by cases hp⟩, fun h => h.1⟩
  | cons p s ih =>
    show max (p.2 + p.1.depth) (deepE s m) ≤ n ↔ _
    rw [Nat.max_le, ih]
    constructor
    · rintro ⟨h1, h2, h3⟩
      refine ⟨h2, fun q hq => ?_⟩
      rcases List.mem_cons.mp hq with rfl | hq
      · exact h1
      · exact h3 q hq
    · rintro ⟨h1, h2⟩
      exact ⟨h2 p (List.mem_cons_self ..), h1, fun q hq => h2 q (List.mem_cons_of_mem _ hq)⟩
theorem within_iff {b a : Bnd} : within b a = true ↔ a.1 ≤ b.1 ∧ a.2.1 ≤ b.2.1 ∧ a.2.2 ≤ b.2.2 := by
  unfold within
  simp only [Bool.and_eq_true, decide_eq_true_eq, and_assoc]
theorem depth_parts (e : E) (k : Nat) (n : Nat) (h0 : k ≤ n) (h : ∀ q ∈ e.kids, k + 1 + q.depth ≤ n) (hk : e.kids = [] → e.depth = 0) : k + e.depth ≤ n := by
  rcases depth_by (e := e) (n := n - k) (fun q hq => by have := h q hq; omega) with a | ⟨_, a⟩ | a
  · omega
  · omega
  · cases e with
    | eps => have : E.depth E.eps = 0 := rfl; omega
    | sym c => have : E.depth (E.sym c) = 0 := rfl; omega
    | maybe e => have := h e (List.mem_singleton.mpr rfl); omega
    | many e => have := h e (List.mem_singleton.mpr rfl); omega
    | join es =>
      cases es with
      | nil => have := hk rfl; omega
      | cons x r => have := h x (List.mem_cons_self ..); omega
    | alt es =>
      cases es with
      | nil => have := hk rfl; omega
      | cons x r => have := h x (List.mem_cons_self ..); omega
theorem kids_nil {e : E} (h : e.ok = true) (k : e.kids = []) : e.depth = 0 := by
  cases e with
  | eps => rfl
  | sym c => rfl
  | maybe e => cases k
  | many e => cases k
  | join es =>
    rw [E.kids] at k
    subst k
    cases h
  | alt es =>
    rw [E.kids] at k
    subst k
    cases h
theorem parts_pos (e : E) : 1 ≤ e.parts := by
  rw [parts_kids]
  omega
theorem sum_pred (es : List E) : (es.map fun e => e.parts - 1).sum + es.length = (es.map E.parts).sum := by
  induction es with
  | nil => rfl
  | cons e es ih =>
    have := parts_pos e
    simp only [List.map_cons, List.sum_cons, List.length_cons]
    omega
/-- one look at an expression -/
theorem tot_step {b : Bnd} {e : E} {k : Nat} {st : Stk} {a : Bnd} (h : e.ok = true) :
    totE ((e.kids.map fun y => (y, k + 1)).reverse ++ st) (a.1 + e.own, max a.2.1 k, a.2.2 + e.kids.length) = totE ((e, k) :: st) a := by
  have hp := places_kids e
  have hq := parts_kids e
  have hs := sum_pred e.kids
  unfold totE
  refine Prod.ext ?_ (Prod.ext ?_ ?_)
  · show a.1 + e.own + _ = a.1 + _
    rw [List.map_append, List.sum_append, List.map_reverse, List.sum_reverse, List.map_map, List.map_cons, List.sum_cons]
    show a.1 + e.own + ((e.kids.map E.places).sum + _) = a.1 + (e.places + _)
    omega
  · show deepE _ (max a.2.1 k) = deepE ((e, k) :: st) a.2.1
    refine Nat.le_antisymm (deepE_le.mpr ⟨?_, ?_⟩) (deepE_le.mpr ⟨?_, ?_⟩)
    · refine Nat.max_le.mpr ⟨deepE_max _ _, ?_⟩
      exact Nat.le_trans (Nat.le_add_right _ _) ((deepE_le.mp (Nat.le_refl _)).2 (e, k) (List.mem_cons_self ..))
    · intro p hp
      rcases List.mem_append.mp hp with hp | hp
      · rw [List.mem_reverse, List.mem_map] at hp
        obtain ⟨y, hy, rfl⟩ := hp
        have := depth_kids e y hy
        have q := (deepE_le.mp (Nat.le_refl (deepE ((e, k) :: st) a.2.1))).2 (e, k) (List.mem_cons_self ..)
        show k + 1 + y.depth ≤ _
        have q' : k + e.depth ≤ deepE ((e, k) :: st) a.2.1 := q
        omega
      · exact (deepE_le.mp (Nat.le_refl (deepE ((e, k) :: st) a.2.1))).2 p (List.mem_cons_of_mem _ hp)
    · exact Nat.le_trans (Nat.le_max_left _ _) (deepE_max _ _)
    · intro p hp
      have L := (deepE_le.mp (Nat.le_refl (deepE ((e.kids.map fun y => (y, k + 1)).reverse ++ st) (max a.2.1 k))))
      rcases List.mem_cons.mp hp with rfl | hp
      · refine depth_parts e k _ (Nat.le_trans (Nat.le_max_right _ _) L.1) (fun q hq => ?_) (kids_nil h)
        exact L.2 (q, k + 1) (List.mem_append_left _ (List.mem_reverse.mpr (List.mem_map.mpr ⟨q, hq, rfl⟩)))
      · exact L.2 p (List.mem_append_right _ hp)
  · show a.2.2 + e.kids.length + _ = a.2.2 + _
    rw [List.map_append, List.sum_append, List.map_reverse, List.sum_reverse, List.map_map, List.map_cons, List.sum_cons]
    show a.2.2 + e.kids.length + ((e.kids.map fun e => e.parts - 1).sum + _) = a.2.2 + ((e.parts - 1) + _)
    omega
theorem tot_ge (st : Stk) (a : Bnd) : a.1 ≤ (totE st a).1 ∧ a.2.1 ≤ (totE st a).2.1 ∧ a.2.2 ≤ (totE st a).2.2 := ⟨Nat.le_add_right _ _, deepE_max _ _, Nat.le_add_right _ _⟩
theorem sD_step (e : E) (k : Nat) (st : Stk) : ((e.kids.map E.toD).map fun y => (y, k + 1)).reverse ++ sD st = sD ((e.kids.map fun y => (y, k + 1)).reverse ++ st) := by
  unfold sD
  rw [List.map_append, List.map_reverse, List.map_map, List.map_map]
  rfl
theorem look_ok {b : Bnd} : ∀ (n : Nat) (st : Stk) (a : Bnd), msr (sD st) < n → (∀ p ∈ st, p.1.ok = true) → within b a = true → look b n (sD st) a = if within b (totE st a) = true then some (totE st a) else none
  | 0, st, a, h, _, _ => absurd h (Nat.not_lt_zero _)
  | n + 1, [], a, _, _, hw => by
    have e : totE [] a = a := rfl
    rw [e, if_pos hw]
    rfl
  | n + 1, (e, k) :: st, a, hm, ho, hw => by
    have h := ho (e, k) (List.mem_cons_self ..)
    have hi := inner_toD h
    show (match inner e.toD with | none => none | some ys => if within b (a.1 + places1 e.toD, max a.2.1 k, a.2.2 + ys.length) = true then look b n ((ys.map fun y => (y, k + 1)).reverse ++ sD st) (a.1 + places1 e.toD, max a.2.1 k, a.2.2 + ys.length) else none) = _
    rw [hi]
    show (if within b (a.1 + places1 e.toD, max a.2.1 k, a.2.2 + (e.kids.map E.toD).length) = true then look b n (((e.kids.map E.toD).map fun y => (y, k + 1)).reverse ++ sD st) (a.1 + places1 e.toD, max a.2.1 k, a.2.2 + (e.kids.map E.toD).length) else none) = _
    rw [places1_toD, List.length_map, sD_step]
    have ts := tot_step (b := b) (k := k) (st := st) (a := a) h
    by_cases c : within b (a.1 + e.own, max a.2.1 k, a.2.2 + e.kids.length) = true
    · have m1 : msr (sD ((e.kids.map fun y => (y, k + 1)).reverse ++ st)) < n := by
        have := msr_step (k := k) (st := sD st) hi
        rw [sD_step] at this
        have hm' : msr ((e.toD, k) :: sD st) < n + 1 := hm
        exact Nat.lt_of_lt_of_le this (Nat.le_of_lt_succ hm')
      rw [if_pos c, look_ok n _ _ m1 (fun p hp => ?_) c, ts]
      rcases List.mem_append.mp hp with hp | hp
      · rw [List.mem_reverse, List.mem_map] at hp
        obtain ⟨y, hy, rfl⟩ := hp
        exact ok_kids h y hy
      · exact ho p (List.mem_cons_of_mem _ hp)
    · rw [if_neg c, if_neg]
      intro z
      rw [← ts] at z
      apply c
      have g := tot_ge ((e.kids.map fun y => (y, k + 1)).reverse ++ st) (a.1 + e.own, max a.2.1 k, a.2.2 + e.kids.length)
      rw [within_iff] at z ⊢
      exact ⟨Nat.le_trans g.1 z.1, Nat.le_trans g.2.1 z.2.1, Nat.le_trans g.2.2 z.2.2⟩
/-- something wrong within -/
inductive Bad : D → Prop where
  | here {d : D} (h : inner d = none) : Bad d
  | inn {d y : D} {ys : List D} (h : inner d = some ys) (m : y ∈ ys) (b : Bad y) : Bad d
theorem look_bad {b : Bnd} : ∀ (n : Nat) (st : List (D × Nat)) (a : Bnd), (∃ p ∈ st, Bad p.1) → look b n st a = none
  | 0, _, _, _ => rfl
  | n + 1, [], _, h => by
    obtain ⟨p, hp, _⟩ := h
    cases hp
  | n + 1, (d, k) :: st, a, h => by
    show (match inner d with | none => none | some ys => if within b (a.1 + places1 d, max a.2.1 k, a.2.2 + ys.length) = true then look b n ((ys.map fun y => (y, k + 1)).reverse ++ st) (a.1 + places1 d, max a.2.1 k, a.2.2 + ys.length) else none) = none
    cases hi : inner d with
    | none => rfl
    | some ys =>
      show (if within b (a.1 + places1 d, max a.2.1 k, a.2.2 + ys.length) = true then look b n ((ys.map fun y => (y, k + 1)).reverse ++ st) (a.1 + places1 d, max a.2.1 k, a.2.2 + ys.length) else none) = none
      split
      · refine look_bad n _ _ ?_
        obtain ⟨p, hp, hb⟩ := h
        rcases List.mem_cons.mp hp with rfl | hp
        · cases hb with
          | here z => rw [z] at hi; cases hi
          | inn z m hb =>
            rw [z] at hi
            cases hi
            exact ⟨(_, k + 1), List.mem_append_left _ (List.mem_reverse.mpr (List.mem_map.mpr ⟨_, m, rfl⟩)), hb⟩
        · exact ⟨p, List.mem_append_right _ hp, hb⟩
      · rfl
/-- what sizes_within gives of a datum -/
def sizesOf (b : Bnd) (d : D) : Option Bnd := look b (d.size + 1) [(d, 0)] (0, 0, 1)
theorem sizes_ok {b : Bnd} {e : E} (h : e.ok = true) (hb : 1 ≤ b.2.2) : sizesOf b e.toD = if within b (e.places, e.depth, e.parts) = true then some (e.places, e.depth, e.parts) else none := by
  have q := look_ok (b := b) (e.toD.size + 1) [(e, 0)] (0, 0, 1) (by show msr [(e.toD, 0)] < _; unfold msr; simp) (fun p hp => by rw [List.mem_singleton] at hp; subst hp; exact h) (within_iff.mpr ⟨Nat.zero_le _, Nat.zero_le _, hb⟩)
  have t : totE [(e, 0)] (0, 0, 1) = (e.places, e.depth, e.parts) := by
    have := parts_pos e
    refine Prod.ext ?_ (Prod.ext ?_ ?_)
    · show 0 + (e.places + 0) = e.places
      omega
    · show max (0 + e.depth) 0 = e.depth
      omega
    · show 1 + (e.parts - 1 + 0) = e.parts
      omega
  rw [t] at q
  exact q
theorem sizes_bad {b : Bnd} {d : D} (h : Bad d) : sizesOf b d = none := look_bad _ _ _ ⟨(d, 0), List.mem_singleton.mpr rfl, h⟩
theorem headFlat_toD (e : E) : headFlat e.toD = true := by
  cases e <;> rw [E.toD] <;> rfl
theorem rowFlat_toDs (es : List E) : rowFlat (.tup (E.toD.toDs es)) = true := by
  rw [toDs_eq]
  show (es.map E.toD).all headFlat = true
  rw [List.all_eq_true]
  intro d hd
  rw [List.mem_map] at hd
  obtain ⟨e, _, rfl⟩ := hd
  exact headFlat_toD e
theorem fl_pair {w : Str} {y : D} (h : w = sJoin ∨ w = sOr → rowFlat y = true) (k : Fl y) : Fl (.tup [.str w, y]) := by
  refine .tup (fun w' y' e => ?_) fun d hd => ?_
  · cases e
    exact h
  · rcases List.mem_cons.mp hd with rfl | hd
    · exact .str _
    · rw [List.mem_singleton] at hd
      subst hd
      exact k
theorem toD_str {e : E} {w : Str} (h : e.toD = .str w) : ¬ (w = sJoin ∨ w = sOr) := by
  cases e with
  | eps =>
    rw [E.toD] at h
    cases h
    rintro (h | h)
    · exact je h.symm
    · exact oe h.symm
  | sym c =>
    rw [E.toD] at h
    cases h
    rintro (h | h)
    · have := congrArg Str.length h
      rw [lJ] at this
      cases this
    · have := congrArg Str.length h
      rw [lO] at this
      cases this
  | maybe e => rw [E.toD] at h; cases h
  | many e => rw [E.toD] at h; cases h
  | join es => rw [E.toD] at h; cases h
  | alt es => rw [E.toD] at h; cases h
mutual
theorem fl_toD : ∀ e : E, Fl e.toD
  | .eps => .str _
  | .sym c => .str _
  | .maybe e => by
    rw [E.toD]
    exact fl_pair (fun h => (h.elim (fun h => jm h.symm) fun h => om h.symm).elim) (fl_toD e)
  | .many e => by
    rw [E.toD]
    exact fl_pair (fun h => (h.elim (fun h => jn h.symm) fun h => on h.symm).elim) (fl_toD e)
  | .join es => by
    rw [E.toD]
    exact fl_pair (fun _ => rowFlat_toDs es) (fl_toDs es)
  | .alt es => by
    rw [E.toD]
    exact fl_pair (fun _ => rowFlat_toDs es) (fl_toDs es)
theorem fl_toDs : ∀ es : List E, Fl (.tup (E.toD.toDs es))
  | [] => .tup (fun w y h => by cases h) fun d hd => by cases hd
  | e :: es => by
    have h := fl_toDs es
    have h0 := fl_toD e
    refine .tup (fun w y z hw => ?_) fun d hd => ?_
    · rw [E.toD.toDs] at z
      have z1 : e.toD = .str w := (List.cons.inj z).1
      exact absurd hw (toD_str z1)
    · rw [E.toD.toDs] at hd
      rcases List.mem_cons.mp hd with rfl | hd
      · exact h0
      · cases h with
        | tup _ k => exact k d hd
end
end My
namespace My
open PySem PySem.Spec PyProof.Rows L2
def topS (i : Nat) : Stmt := PySem.Challenge.pw_nodoubt_k01_forms_of_expressions.main.body.getD i (.Pass ⟨0, 0, 0, 0⟩)
abbrev s_is_expression : Stmt := topS 5
abbrev s_is_long : Stmt := topS 6
abbrev s_is_word : Stmt := topS 7
abbrev s_is_letter : Stmt := topS 8
abbrev s_is_text : Stmt := topS 9
abbrev s_sizes_within : Stmt := topS 10
abbrev s__parts_of : Stmt := topS 11
abbrev s__is_row : Stmt := topS 12
abbrev s__begins_with : Stmt := topS 13
abbrev s__law_stream : Stmt := topS 15
abbrev s__law_next : Stmt := topS 16
abbrev s__law_is_integer : Stmt := topS 17
abbrev s__law_equal : Stmt := topS 18
abbrev s__law_pick : Stmt := topS 19
abbrev s__law_grown : Stmt := topS 20
abbrev s__law_expression : Stmt := topS 21
abbrev s__law_inside : Stmt := topS 22
abbrev s__law_count : Stmt := topS 23
abbrev s__law_at : Stmt := topS 24
abbrev s__law_wrong : Stmt := topS 25
abbrev s__law_chain : Stmt := topS 26
abbrev s_law : Stmt := topS 27
theorem boot_isinstance : bootBuiltins "isinstance" = some (.builtin "isinstance") := by decide +kernel
theorem boot_all : bootBuiltins "all" = some (.builtin "all") := by decide +kernel
theorem boot_any : bootBuiltins "any" = some (.builtin "any") := by decide +kernel
theorem boot_sum : bootBuiltins "sum" = some (.builtin "sum") := by decide +kernel
theorem boot_len : bootBuiltins "len" = some (.builtin "len") := by decide +kernel
theorem boot_abs : bootBuiltins "abs" = some (.builtin "abs") := by decide +kernel
theorem boot_min : bootBuiltins "min" = some (.builtin "min") := by decide +kernel
theorem boot_max : bootBuiltins "max" = some (.builtin "max") := by decide +kernel
theorem boot_int : bootBuiltins "int" = some (.type "int") := by decide +kernel
theorem boot_str : bootBuiltins "str" = some (.type "str") := by decide +kernel
theorem boot_bool : bootBuiltins "bool" = some (.type "bool") := by decide +kernel
theorem boot_list : bootBuiltins "list" = some (.type "list") := by decide +kernel
theorem boot_tuple : bootBuiltins "tuple" = some (.type "tuple") := by decide +kernel
/-- the built-ins' names as the module leaves them, its constants -/
structure Bt (K : PySem.W.Frag) (mg : Str → Option Value) (a_BOUNDS a_LONG_BOUNDS : Addr) (tL tM : Tok) : Prop where
  b_abs : mg "abs" = none
  b_all : mg "all" = none
  b_any : mg "any" = none
  b_bool : mg "bool" = none
  b_int : mg "int" = none
  b_isinstance : mg "isinstance" = none
  b_len : mg "len" = none
  b_list : mg "list" = none
  b_max : mg "max" = none
  b_range : mg "range" = none
  b_str : mg "str" = none
  b_sum : mg "sum" = none
  b_tuple : mg "tuple" = none
  g_LETTERS : mg "LETTERS" = some (.str "abcd" tL)
  g_BOUNDS : mg "BOUNDS" = some (.ref a_BOUNDS)
  g_LONG_BOUNDS : mg "LONG_BOUNDS" = some (.ref a_LONG_BOUNDS)
  g_MOST_LETTERS : mg "MOST_LETTERS" = some (.int 24 tM)
  tE : ∀ H : Hp, SqT K H a_BOUNDS [.int 8, .int 6, .int 24]
  tG : ∀ H : Hp, SqT K H a_LONG_BOUNDS [.int 40, .int 40, .int 200]
section
variable {P : Program} {w : World} {K : PySem.W.Frag} {mg : Str → Option Value} {base : Heap} {a_BOUNDS a_LONG_BOUNDS : Addr} {tL tM : Tok}
abbrev N__law_stream : List Str := ["script"]
theorem sc__law_stream : FnScope ["script"] ["script"] (defScope s__law_stream) := ⟨rfl, rfl, rfl, by decide +kernel, rfl, by decide +kernel, by decide +kernel⟩
theorem ok_stream {f : Addr} {fd : FuncData} (B : Bt K mg a_BOUNDS a_LONG_BOUNDS tL tM) (D : Df K mg "_law_stream" s__law_stream ["script"] f fd) : FnOk P w K mg base CX0 1 f fd ["script"] (spStream K) := by
  refine D.F.ok sc__law_stream (fun vs H Q E h => ?_) (fun cdv A outer s H vs Q E hr h => ?_)
  · obtain ⟨a, ns, rfl, _⟩ := h
    rfl
  obtain ⟨a, ns, rfl, hS, h63, q⟩ := h
  refine ⟨_, (pss_one (ps_ret (pe_lst (pa_cons (pe_callTy call_list_of rfl B.b_list boot_list (pa_cons (pv 0) pa_nil)) (pa_cons pe_int (pa_cons pe_int pa_nil)))))), ?_⟩
  refine ⟨_, rfl, a, _, rfl, .inl hS, fun l hl => ⟨by show 3 ≤ sizeLine; decide, fun p hp => ?_⟩⟩
  have n : l ≠ p := fun e => by
    rw [← e, upd_same] at hp
    cases hp
  exact q p _ ((same_upd hl).trans (same_upd hp)) ((same_upd hl).free hp) ⟨l, 0, 0, ns, upd_same, by rw [upd_ne n]; exact upd_same, n, Int.le_refl 0⟩
abbrev N__law_next : List Str := ["stream", "many", "k", "cell", "digit"]
theorem sc__law_next : FnScope ["stream", "many", "k", "cell", "digit"] ["stream", "many"] (defScope s__law_next) := ⟨rfl, rfl, rfl, by decide +kernel, rfl, by decide +kernel, by decide +kernel⟩
theorem ok_next {f : Addr} {fd : FuncData} (B : Bt K mg a_BOUNDS a_LONG_BOUNDS tL tM) (D : Df K mg "_law_next" s__law_next ["stream", "many"] f fd) : FnOk P w K mg base CX0 1 f fd ["stream", "many"] spNext := by
  refine D.F.ok sc__law_next (fun vs H Q E h => ?_) (fun cdv A outer s H vs Q E hr h => ?_)
  · obtain ⟨a, m, rfl, _⟩ := h
    rfl
  obtain ⟨a, m, rfl, hS, hm0, hm1, q⟩ := h
  obtain ⟨l, c, k, ns, h1, h2, h3, h4⟩ := id hS
  refine ⟨_, (C8.pss_cut (ps_if (pt_cmpR op_eq (pe_ix (r := rIxL K) ix_list (pv 0) pe_int (fun _ _ => rfl)) pe_int (nomark _)) (pss_cons (ps_set (i := 2) sc__law_next.nd rfl (Or.inl rfl) (pe_ix (r := rIxL K) ix_list (pv 0) pe_int (fun _ _ => rfl)))
    (pss_cons (ps_set (i := 3) sc__law_next.nd rfl (Or.inl rfl) (pe_op op_add pe_int (pv 2)))
    (C8.pss_cut (ps_if (pt_cmpR op_lt (pv 2) (pe_callB call_len rfl B.b_len boot_len (pa_cons (pe_ix (r := rIxL K) ix_list (pv 0) pe_int (fun _ _ => rfl)) pa_nil)) (nomark _)) (pss_one (ps_set (i := 3) sc__law_next.nd rfl (Or.inl rfl) (pe_callB call_abs rfl B.b_abs boot_abs (pa_cons (pe_ix (r := rIxL K) ix_list (pe_ix (r := rIxL K) ix_list (pv 0) pe_int (fun _ _ => rfl)) (pv 2) (fun _ _ => rfl)) pa_nil)))) pss_nil)
    (C8.pss_cut (ps_if (pt_cmpR op_lt (pv 3) (pe_op op_pow pe_int pe_int) (nomark _)) (pss_cons (ps_set (i := 3) sc__law_next.nd rfl (Or.inl rfl) (pe_op op_mod (pe_callTy call_int1 rfl B.b_int boot_int (pa_cons (pe_op op_add (pe_op op_add (pe_op op_mul (pv 3) pe_int) (pe_op op_mul (pv 2) pe_int)) pe_int) pa_nil)) pe_int))
    (pss_one (ps_set (i := 3) sc__law_next.nd rfl (Or.inl rfl) (pe_op op_add (pe_op op_mul (pe_op op_mod (pe_callTy call_int1 rfl B.b_int boot_int (pa_cons (pe_op op_add (pe_op op_mul (pv 3) pe_int) pe_int) pa_nil)) pe_int) pe_int) (pv 3))))) pss_nil)
    (pss_cons (ps_asg (pv 3) (pg_sub (pv 0) pe_int set_list))
    (pss_one (ps_asg (pe_op op_add (pv 2) pe_int) (pg_sub (pv 0) pe_int set_list)))))))) pss_nil)
    (pss_cons (ps_set (i := 4) sc__law_next.nd rfl (Or.inl rfl) (pe_op op_mod (pe_callTy call_int1 rfl B.b_int boot_int (pa_cons (pe_ix (r := rIxL K) ix_list (pv 0) pe_int (fun _ _ => rfl)) pa_nil)) (pv 1)))
    (pss_cons (ps_asg (pe_op op_fdiv (pe_ix (r := rIxL K) ix_list (pv 0) pe_int (fun _ _ => rfl)) (pv 1)) (pg_sub (pv 0) pe_int set_list))
    (pss_one (ps_ret (pv 4)))))), ?_⟩
  have m0 : ¬ m = 0 := by omega
  have at0 : ∀ (x y z : V), atI [x, y, z] 0 = some x := fun x y z => rfl
  have at1 : ∀ (x y z : V), atI [x, y, z] 1 = some y := fun x y z => rfl
  have at2 : ∀ (x y z : V), atI [x, y, z] 2 = some z := fun x y z => rfl
  refine ⟨fun σ' H' => ∃ kk cc c k, σ' = [some (.ref a), some (.int m), kk, cc, none] ∧ StrmW H' a l c k ns ∧ Keep a H H', ?_, ?_⟩
  · refine ⟨_, rfl, a, _, _, _, rfl, rfl, SqL.of h1, at1 _ _ _, rfl, _, rfl, ite2 (fun e => ?_) (fun e => ?_)⟩
    · -- a new cell
      refine ⟨_, rfl, a, _, _, _, rfl, rfl, SqL.of h1, at2 _ _ _, ?_⟩
      refine ⟨_, rfl, _, _, rfl, rfl, ?_⟩
      refine ⟨fun σ' H' => ∃ cc : Int, σ' = [some (.ref a), some (.int m), some (.int k), some (.int cc), none] ∧ H' = H, ?_, ?_⟩
      · refine ⟨_, rfl, _, rfl, a, _, _, _, rfl, rfl, SqL.of h1, at0 _ _ _, _, _, rfl, .inl ⟨_, SqL.of h2, rfl⟩, _, _, rfl, rfl, _, rfl, ite2 (fun e2 => ?_) (fun e2 => ?_)⟩
        · have e3 : k < ((ns.map V.int).length : Int) := of_decide_eq_true e2
          rw [List.length_map] at e3
          have hk : k.toNat < ns.length := by omega
          refine ⟨_, rfl, a, _, _, _, rfl, rfl, SqL.of h1, at0 _ _ _, _, rfl, l, _, k, .int ns[k.toNat], rfl, rfl, SqL.of h2, at_of (j := k.toNat) (by omega) (by rw [List.getElem?_map, List.getElem?_eq_getElem hk] <;> rfl), _, rfl, ?_⟩
          exact ⟨_, rfl, rfl⟩
        · exact ⟨_, rfl, rfl⟩
      · rintro σ' H' ⟨cc, rfl, rfl⟩
        refine ⟨fun σ' H'' => ∃ cc : Int, σ' = [some (.ref a), some (.int m), some (.int k), some (.int cc), none] ∧ H'' = H', ?_, ?_⟩
        · refine ⟨_, rfl, _, _, rfl, rfl, ⟨by decide, by decide, by decide⟩, _, _, rfl, rfl, _, rfl, ite2 (fun e2 => ?_) (fun e2 => ?_)⟩
          · refine ⟨_, rfl, _, _, rfl, rfl, .inr ⟨by decide, by decide⟩, _, rfl, _, _, rfl, rfl, .inr ⟨by decide, by decide⟩, _, _, rfl, rfl, _, _, rfl, rfl, .inl ⟨_, rfl, _, _, rfl, rfl, (by show (0 : Int) < 2147483647; decide), ?_⟩⟩
            refine ⟨_, rfl, _, _, rfl, rfl, .inr ⟨by decide, by decide⟩, _, _, rfl, rfl, .inl ⟨_, rfl, _, _, rfl, rfl, (by show (0 : Int) < 2147483647; decide), _, _, rfl, rfl, .inr ⟨by decide, by decide⟩, _, rfl, _, _, rfl, rfl, ?_⟩⟩
            exact ⟨_, rfl, rfl⟩
          · exact ⟨_, rfl, rfl⟩
        · rintro σ' H'' ⟨cc, rfl, rfl⟩
          refine ⟨_, rfl, _, rfl, a, _, _, _, rfl, rfl, h1, rfl, ?_⟩
          have u1 : ([.ref l, .int c, .int k] : List V).set 1 (.int cc) = [.ref l, .int cc, .int k] := rfl
          refine ⟨_, rfl, _, _, rfl, rfl, _, rfl, a, _, _, _, rfl, rfl, upd_same, rfl, ?_⟩
          exact ⟨_, _, cc, k + 1, rfl, ⟨upd_same, by rw [upd_ne h3, upd_ne h3]; exact h2, h3, by omega⟩, Keep.store.trans Keep.store⟩
    · exact ⟨_, _, c, k, rfl, ⟨h1, h2, h3, h4⟩, Keep.refl a H⟩
  · rintro σ' H' ⟨kk, cc, c, k, rfl, ⟨g1, g2, g3, g4⟩, kp⟩
    refine ⟨_, rfl, a, _, _, _, rfl, rfl, SqL.of g1, at1 _ _ _, .inl ⟨_, rfl, _, rfl, _, _, rfl, rfl, hm0, ?_⟩⟩
    refine ⟨_, rfl, a, _, _, _, rfl, rfl, SqL.of g1, at1 _ _ _, _, rfl, _, _, rfl, rfl, ⟨hm0, by omega⟩, _, rfl, a, _, _, _, rfl, rfl, g1, rfl, ?_⟩
    exact ⟨_, rfl, q _ _ (Int.emod_nonneg _ m0) (Int.emod_lt_of_pos _ hm0) ⟨kp.trans Keep.store, hS, fun l' c' k' ns' h' => by
      have e := h1.symm.trans h'.1
      cases e
      exact ⟨_, _, ns, upd_same, by rw [upd_ne g3]; exact g2, g3, g4⟩⟩⟩
abbrev N__law_pick : List Str := ["stream", "rows"]
theorem sc__law_pick : FnScope ["stream", "rows"] ["stream", "rows"] (defScope s__law_pick) := ⟨rfl, rfl, rfl, by decide +kernel, rfl, by decide +kernel, by decide +kernel⟩
theorem ok_pick {f : Addr} {fd : FuncData} (B : Bt K mg a_BOUNDS a_LONG_BOUNDS tL tM) (D : Df K mg "_law_pick" s__law_pick ["stream", "rows"] f fd) (G_law_next : Cl P w K mg base 1 "_law_next" ["stream", "many"] spNext) : FnOk P w K mg base CX0 2 f fd ["stream", "rows"] (spPick K) := by
  refine D.F.ok sc__law_pick (fun vs H Q E h => ?_) (fun cdv A outer s H vs Q E hr h => ?_)
  · obtain ⟨a, r, xs, rfl, _⟩ := h
    rfl
  obtain ⟨a, r, xs, rfl, hS, hX, hra, h0, h1, q⟩ := h
  refine ⟨_, (pss_one (ps_ret (pe_ix (r := rIxL K) ix_list (pv 1) (pe_cl G_law_next (hr.mono (by omega)) rfl (pa_cons (pv 0) (pa_cons (pe_callB call_len rfl B.b_len boot_len (pa_cons (pv 1) pa_nil)) pa_nil))) (fun _ _ => rfl)))), ?_⟩
  refine ⟨_, rfl, _, rfl, _, rfl, _, _, rfl, .inl ⟨_, hX, rfl⟩, a, _, rfl, hS, by omega, by omega, fun d H' d0 d1 g => ?_⟩
  have hd : d.toNat < xs.length := by omega
  exact ⟨r, xs, d, xs[d.toNat], rfl, rfl, g.seq hra hX, at_of (j := d.toNat) (by omega) (List.getElem?_eq_getElem hd), q _ _ (List.getElem_mem hd) g⟩
end


/-! ### the looks at a datum -/
def spLetter : Sp := fun vs H Q _ => ∃ z : Str, vs = [.str z] ∧ z.length ≤ 1000 ∧ Q (.bl (isLet z)) H
def spBegins : Sp := fun vs H Q _ => ∃ v w d, vs = [v, .str w] ∧ Rep H v d ∧ headFlat d = true ∧ Q (.bl (begins w d)) H
def spIsRow : Sp := fun vs H Q _ => ∃ v w d, vs = [.str w, v] ∧ Rep H v d ∧ rowFlat d = true ∧ ∀ H', Same H H' → Q (.bl (rowOk w d)) H'
def PartsR (H : Hp) (r : V) : Option (List D) → Prop
  | none => r = .non
  | some ys => ∃ p vs, r = .ref p ∧ H p = some (.tup vs) ∧ Two (Rep H) vs ys
def spPartsOf : Sp := fun vs H Q _ => ∃ v d, vs = [v] ∧ Rep H v d ∧ Fl d ∧ ∀ r H', Same H H' → PartsR H' r (inner d) → Q r H'
def SizeR (H : Hp) (r : V) : Option Bnd → Prop
  | none => r = .non
  | some a => ∃ q, r = .ref q ∧ H q = some (.tup [.int a.1, .int a.2.1, .int a.2.2])
def spSizes (K : PySem.W.Frag) : Sp := fun vs H Q _ => ∃ (v : V) (d : D) (b : Addr) (B : Bnd), vs = [v, .ref b] ∧ Rep H v d ∧ Fl d ∧ d.size ≤ 1000000 ∧ SqT K H b [.int B.1, .int B.2.1, .int B.2.2] ∧ ∀ r H', Same H H' → SizeR H' r (sizesOf B d) → Q r H'
def spIs (B : Bnd) : Sp := fun vs H Q _ => ∃ (v : V) (d : D), vs = [v] ∧ Rep H v d ∧ Fl d ∧ d.size ≤ 1000000 ∧ ∀ H', Same H H' → Q (.bl (sizesOf B d).isSome) H'
section
variable {P : Program} {w : World} {K : PySem.W.Frag} {mg : Str → Option Value} {base : Heap} {a_BOUNDS a_LONG_BOUNDS : Addr} {tL tM : Tok}
theorem abcd_in (c : Nat) : (c ∈ (Str.ofString "abcd").cps.toList) ↔ 97 ≤ c ∧ c ≤ 100 := by
  have e : (Str.ofString "abcd").cps.toList = [97, 98, 99, 100] := by decide +kernel
  rw [e]
  simp
  omega
theorem isLet_one (c : Nat) : isLet ⟨#[c]⟩ = decide (c ∈ (Str.ofString "abcd").cps.toList) := by
  have e : isLet ⟨#[c]⟩ = (decide (97 ≤ c) && decide (c ≤ 100)) := rfl
  rw [e, ← Bool.decide_and]
  exact decide_eq_decide.mpr (abcd_in c).symm
abbrev N_is_letter : List Str := ["value"]
theorem sc_is_letter : FnScope ["value"] ["value"] (defScope s_is_letter) := ⟨rfl, rfl, rfl, by decide +kernel, rfl, by decide +kernel, by decide +kernel⟩
theorem ok_letter {f : Addr} {fd : FuncData} (B : Bt K mg a_BOUNDS a_LONG_BOUNDS tL tM) (D : Df K mg "is_letter" s_is_letter ["value"] f fd) : FnOk P w K mg base CX0 1 f fd ["value"] spLetter := by
  refine D.F.ok sc_is_letter (fun vs H Q E h => ?_) (fun cdv A outer s H vs Q E hr h => ?_)
  · obtain ⟨z, rfl, _⟩ := h
    rfl
  obtain ⟨z, rfl, hz, q⟩ := h
  refine ⟨_, (pss_one (ps_ret (pe_and (pe_callB call_isi rfl B.b_isinstance boot_isinstance (pa_cons (pv 0) (pa_cons (pe_bltn (v := .ty "str") rfl B.b_str boot_str rfl) pa_nil))) (pe_and (pe_cmpR op_eq (pe_callB call_len rfl B.b_len boot_len (pa_cons (pv 0) pa_nil)) pe_int (nomark _)) (pe_one (pe_cmpR op_in_sign (pv 0) (pe_glob (v := .str "abcd") rfl B.g_LETTERS ⟨_, rfl⟩) rfl)))))), ?_⟩
  have T1 : TyX K H (.str z) (.type "str") := .base (.str z)
  refine ⟨_, rfl, _, _, _, _, _, rfl, .ty _, T1, kit_ty (r := true) (by decide +kernel), _, rfl, iteT ?_⟩
  refine ⟨_, rfl, _, _, rfl, ⟨Nat.le_trans hz (by decide), rfl⟩, rfl, _, rfl, ite2 (fun e => ?_) (fun e => ?_)⟩
  · have e1 : V.int (z.length : Int) = V.int 1 := of_decide_eq_true e
    have e2 : z.cps.size = 1 := by
      have e3 : (z.length : Int) = 1 := V.int.inj e1
      have e4 : z.length = z.cps.size := rfl
      omega
    obtain ⟨⟨cs⟩⟩ := z
    match cs, e2 with
    | [c], _ =>
      refine ⟨_, rfl, _, _, rfl, rfl, ?_⟩
      rw [isLet_one] at q
      exact q
  · have e2 : isLet z = false := by
      unfold isLet
      split
      · rename_i c hc
        exfalso
        apply e
        refine decide_eq_true (congrArg V.int ?_)
        have : z.cps.size = 1 := by rw [← Array.length_toList, hc] <;> rfl
        show ((z.cps.size : Nat) : Int) = 1
        omega
      · rfl
    rw [e2] at q
    exact q
abbrev N__begins_with : List Str := ["value", "word"]
theorem sc__begins_with : FnScope ["value", "word"] ["value", "word"] (defScope s__begins_with) := ⟨rfl, rfl, rfl, by decide +kernel, rfl, by decide +kernel, by decide +kernel⟩
theorem ok_begins {f : Addr} {fd : FuncData} (B : Bt K mg a_BOUNDS a_LONG_BOUNDS tL tM) (D : Df K mg "_begins_with" s__begins_with ["value", "word"] f fd) : FnOk P w K mg base CX0 1 f fd ["value", "word"] spBegins := by
  refine D.F.ok sc__begins_with (fun vs H Q E h => ?_) (fun cdv A outer s H vs Q E hr h => ?_)
  · obtain ⟨v, w, d, rfl, _⟩ := h
    rfl
  obtain ⟨v, w, d, rfl, hR, hF, q⟩ := h
  refine ⟨_, (pss_one (ps_ret (pe_and (pe_callB call_isi rfl B.b_isinstance boot_isinstance (pa_cons (pv 0) (pa_cons (pe_bltn (v := .ty "tuple") rfl B.b_tuple boot_tuple rfl) pa_nil))) (pe_and (pe_cmpR op_gt (pe_callB call_len rfl B.b_len boot_len (pa_cons (pv 0) pa_nil)) pe_int (nomark _)) (pe_one (pe_cmpR op_eq (pe_ix (r := rIxT K) ix_tup (pv 0) pe_int (fun _ _ => rfl)) (pv 1) (nomark _))))))), ?_⟩
  obtain ⟨t, ht, _, k2⟩ := hR.ty (K := K)
  refine ⟨_, rfl, _, _, _, _, _, rfl, .ty _, ht, k2, _, rfl, ite2 (fun e => ?_) (fun e => ?_)⟩
  · cases d with
    | tup ds =>
      obtain ⟨p, xs, rfl, hp, hz, hX⟩ := hR.untup
      refine ⟨_, rfl, _, _, rfl, .inr ⟨_, SqT.of hp, rfl⟩, _, _, rfl, rfl, _, rfl, ite2 (fun e3 => ?_) (fun e3 => ?_)⟩
      · have e1 : (0 : Int) < ((xs.length : Nat) : Int) := of_decide_eq_true e3
        cases hX with
        | nil => exact absurd e1 (by decide)
        | @cons x y xs ys hxy ht =>
          refine ⟨_, rfl, p, _, 0, x, rfl, rfl, SqT.of hp, at_zero, _, rfl, ?_⟩
          cases hxy with
          | @str z hz =>
            refine ⟨rfl, ?_⟩
            have q1 : decide (V.str z = V.str w) = begins w (.tup (.str z :: ys)) := by
              rw [begins_tup]
              exact decide_eq_decide.mpr ⟨fun h => by cases h; rfl, fun h => by rw [h]⟩
            rw [q1]
            exact q
          | non => exact ⟨rfl, q⟩
          | bl b => exact ⟨rfl, q⟩
          | int i => exact ⟨rfl, q⟩
          | tup _ _ _ _ => exact absurd hF Bool.false_ne_true
          | lst _ => exact absurd hF Bool.false_ne_true
      · cases hX with
        | nil => exact q
        | @cons x y xs ys hxy ht =>
          exfalso
          apply e3
          refine decide_eq_true ?_
          show (0 : Int) < ((xs.length + 1 : Nat) : Int)
          omega
    | str z => cases e
    | lst => cases e
    | flat => cases e
  · cases d with
    | tup ds => exact absurd rfl e
    | str z => exact q
    | lst => exact q
    | flat => exact q
abbrev N__is_row : List Str := ["word", "value", "part"]
theorem sc__is_row : FnScope ["word", "value", "part"] ["word", "value"] (defScope s__is_row) := ⟨rfl, rfl, rfl, by decide +kernel, rfl, by decide +kernel, by decide +kernel⟩
theorem ok_isrow {f : Addr} {fd : FuncData} (B : Bt K mg a_BOUNDS a_LONG_BOUNDS tL tM) (D : Df K mg "_is_row" s__is_row ["word", "value"] f fd) (G_begins_with : Cl P w K mg base 1 "_begins_with" ["value", "word"] spBegins) : FnOk P w K mg base CX0 2 f fd ["word", "value"] spIsRow := by
  refine D.F.ok sc__is_row (fun vs H Q E h => ?_) (fun cdv A outer s H vs Q E hr h => ?_)
  · obtain ⟨v, w, d, rfl, _⟩ := h
    rfl
  obtain ⟨v, w, d, rfl, hR, hF, q⟩ := h
  refine ⟨_, (pss_cons (ps_if (PW.pt (pw_or (pt_not (pt_val (pe_callB call_isi rfl B.b_isinstance boot_isinstance (pa_cons (pv 1) (pa_cons (pe_bltn (v := .ty "tuple") rfl B.b_tuple boot_tuple rfl) pa_nil))))) (pw_or1 (pt_cmpR op_lt (pe_callB call_len rfl B.b_len boot_len (pa_cons (pv 1) pa_nil)) pe_int (nomark _))))) (pss_one (ps_ret pe_bl)) pss_nil)
    (pss_one (ps_ret (pe_not (pe_callB (cr_any rfl) rfl B.b_any boot_any (pa_cons (pe_lc (own := [("part", 2)]) (g := gName 2) (tt := tYes) rfl sc__is_row.nd (pi_tup (pv 1)) (blkOk_by (N := N__is_row) (sc := defScope s__is_row) (by decide +kernel)) (fun _ _ _ _ _ => pg_name (i := 2) sc__is_row.nd rfl (Or.inl rfl)) (fun _ _ _ _ _ => pts_nil) (fun _ _ _ _ _ => (pe_cl G_begins_with (hr.mono (by omega)) rfl (pa_cons (pv 2) (pa_cons (pv 0) pa_nil))))) pa_nil)))))), ?_⟩
  obtain ⟨t, ht, _, k2⟩ := hR.ty (K := K)
  cases d with
  | str z => exact ⟨_, rfl, _, _, _, _, _, rfl, .ty _, ht, k2, _, rfl, iteT (iteT (q _ (Same.refl _)))⟩
  | lst => exact ⟨_, rfl, _, _, _, _, _, rfl, .ty _, ht, k2, _, rfl, iteT (iteT (q _ (Same.refl _)))⟩
  | flat => exact ⟨_, rfl, _, _, _, _, _, rfl, .ty _, ht, k2, _, rfl, iteT (iteT (q _ (Same.refl _)))⟩
  | tup ds =>
    obtain ⟨p, xs, rfl, hp, hz, hX⟩ := hR.untup
    have hl := hX.len
    refine ⟨_, rfl, _, _, _, _, _, rfl, .ty _, ht, k2, _, rfl, iteF ?_⟩
    refine ⟨_, rfl, _, _, rfl, .inr ⟨_, SqT.of hp, rfl⟩, _, _, rfl, rfl, _, rfl, ite2 (fun e => ?_) (fun e => ?_)⟩
    · have e1 : ((xs.length : Nat) : Int) < 2 := of_decide_eq_true e
      have e2 : rowOk w (.tup ds) = false := by
        rw [rowOk_tup, decide_eq_false (by omega)]
        rfl
      rw [e2] at q
      exact q _ (Same.refl _)
    · have e1 : ¬ ((xs.length : Nat) : Int) < 2 := fun h => e (decide_eq_true h)
      have e2 : rowOk w (.tup ds) = !(ds.any (begins w)) := by
        rw [rowOk_tup, decide_eq_true (by omega)]
        rfl
      rw [e2] at q
      refine ⟨_, rfl, p, rfl, ⟨_, SqT.of hp⟩, fun L hL => ?_⟩
      refine lc_tup (K := K) (a := p) (xs := xs) (fun i H' => Same H H' ∧ H' L = some (.lst (((ds.take i).map (begins w)).map V.bl))) ⟨same_upd hL, upd_same⟩ (fun i H' _ h => SqT.of (h.1 _ _ hp)) (fun i x H' hx h => ?_) (fun H' h => ?_)
      · obtain ⟨d, hd, hxd⟩ := hX.get hx
        have hd' : headFlat d = true := by
          have : ds.all headFlat = true := hF
          exact List.all_eq_true.mp this d (List.mem_of_getElem? hd)
        refine ⟨rfl, tyes ?_⟩
        refine ⟨_, rfl, _, rfl, x, w, d, rfl, hxd.pers (Pers.same h.1), hd', _, h.2, ?_, ?_, ?_⟩
        · rw [List.length_map, List.length_map, List.length_take]
          have : i < ds.length := (List.getElem?_eq_some_iff.mp hd).1
          exact Nat.lt_of_le_of_lt (Nat.min_le_right _ _) (Nat.lt_of_le_of_lt (hl ▸ hz) (by decide))
        · exact fun b o e => by rw [upd_ne (ne_of_none e hL)]; exact h.1 b o e
        · rw [upd_same, List.take_add_one, hd, List.map_append, List.map_append]
          rfl
      · obtain ⟨h1, h2⟩ := h
        rw [hl, List.take_length] at h2
        refine ⟨L, _, rfl, SqL.of h2, _, rfl, ?_⟩
        have e3 : ((ds.map (begins w)).any id) = ds.any (begins w) := by
          rw [List.any_map]
          rfl
        rw [e3]
        exact q _ h1
abbrev N__parts_of : List Str := ["value", "word", "inner"]
theorem sc__parts_of : FnScope ["value", "word", "inner"] ["value"] (defScope s__parts_of) := ⟨rfl, rfl, rfl, by decide +kernel, rfl, by decide +kernel, by decide +kernel⟩
theorem ok_parts {f : Addr} {fd : FuncData} (B : Bt K mg a_BOUNDS a_LONG_BOUNDS tL tM) (D : Df K mg "_parts_of" s__parts_of ["value"] f fd) (Gis_letter : Cl P w K mg base 1 "is_letter" ["value"] spLetter) (G_is_row : Cl P w K mg base 2 "_is_row" ["word", "value"] spIsRow) : FnOk P w K mg base CX0 3 f fd ["value"] spPartsOf := by
  refine D.F.ok sc__parts_of (fun vs H Q E h => ?_) (fun cdv A outer s H vs Q E hr h => ?_)
  · obtain ⟨v, d, rfl, _⟩ := h
    rfl
  obtain ⟨v, d, rfl, hR, hF, q⟩ := h
  refine ⟨_, (pss_cons (ps_if (pt_val (pe_callB call_isi rfl B.b_isinstance boot_isinstance (pa_cons (pv 0) (pa_cons (pe_bltn (v := .ty "str") rfl B.b_str boot_str rfl) pa_nil)))) (pss_one (ps_ret (pe_ifExp (PW.pt (pw_or (pt_cmpR op_eq (pv 0) pe_str (nomark _)) (pw_or1 (pt_val (pe_cl Gis_letter (hr.mono (by omega)) rfl (pa_cons (pv 0) pa_nil)))))) (pe_tup pa_nil) pe_non))) pss_nil)
    (pss_cons (ps_if (PW.pt (pw_or (pt_not (pt_val (pe_callB call_isi rfl B.b_isinstance boot_isinstance (pa_cons (pv 0) (pa_cons (pe_bltn (v := .ty "tuple") rfl B.b_tuple boot_tuple rfl) pa_nil))))) (pw_or (pt_cmpR op_ne (pe_callB call_len rfl B.b_len boot_len (pa_cons (pv 0) pa_nil)) pe_int (nomark _)) (pw_or1 (pt_not (pt_val (pe_callB call_isi rfl B.b_isinstance boot_isinstance (pa_cons (pe_ix (r := rIxT K) ix_tup (pv 0) pe_int (fun _ _ => rfl)) (pa_cons (pe_bltn (v := .ty "str") rfl B.b_str boot_str rfl) pa_nil))))))))) (pss_one (ps_ret pe_non)) pss_nil)
    (pss_cons (ps_asg (pv 0) (pg_tup rfl (pgs_cons (pg_name (i := 1) sc__parts_of.nd rfl (Or.inl rfl)) (pgs_cons (pg_name (i := 2) sc__parts_of.nd rfl (Or.inl rfl)) pgs_nil))))
    (pss_cons (ps_if (PW.pt (pw_or (pt_cmpR op_eq (pv 1) pe_str (nomark _)) (pw_or1 (pt_cmpR op_eq (pv 1) pe_str (nomark _))))) (pss_one (ps_ret (pe_tup (pa_cons (pv 2) pa_nil)))) pss_nil)
    (pss_cons (ps_if (PW.pt (pw_and (PW.pt (pw_or (pt_cmpR op_eq (pv 1) pe_str (nomark _)) (pw_or1 (pt_cmpR op_eq (pv 1) pe_str (nomark _))))) (pw_and1 (pt_val (pe_cl G_is_row (hr.mono (by omega)) rfl (pa_cons (pv 1) (pa_cons (pv 2) pa_nil))))))) (pss_one (ps_ret (pv 2))) pss_nil)
    (pss_one (ps_ret pe_non))))))), ?_⟩
  obtain ⟨t, ht, k1, k2⟩ := hR.ty (K := K)
  refine ⟨_, rfl, _, _, _, _, _, rfl, .ty _, ht, k1, _, rfl, ite2 (fun e => ?_) (fun e => ?_)⟩
  · cases d with
    | tup ds => cases e
    | lst => cases e
    | flat => cases e
    | str z =>
      cases hR with
      | str hz =>
        have yes : (z = sNo ∨ isLet z = true) → ∀ p, H p = none → Q (.ref p) (upd H p (.tup [])) := fun c p hp => q _ _ (same_upd hp) (by
          rw [inner, if_pos c]
          exact ⟨p, [], rfl, upd_same, .nil⟩)
        refine ⟨_, rfl, rfl, _, rfl, ite2 (fun e1 => iteT ?_) (fun e1 => ?_)⟩
        · exact ⟨by decide, yes (.inl (vstr e1))⟩
        · refine ⟨_, rfl, z, rfl, hz, _, rfl, ite2 (fun e2 => ?_) (fun e2 => ?_)⟩
          · exact ⟨by decide, yes (.inr e2)⟩
          · refine q _ _ (Same.refl _) ?_
            rw [inner, if_neg fun c => c.elim (vstrN e1) e2]
            rfl
  · cases d with
    | str z => exact absurd rfl e
    | lst => exact ⟨_, rfl, _, _, _, _, _, rfl, .ty _, ht, k2, _, rfl, iteT (iteT (q _ _ (Same.refl _) rfl))⟩
    | flat => exact ⟨_, rfl, _, _, _, _, _, rfl, .ty _, ht, k2, _, rfl, iteT (iteT (q _ _ (Same.refl _) rfl))⟩
    | tup ds =>
      obtain ⟨p, xs, rfl, hp, hz, hX⟩ := hR.untup
      have hl := hX.len
      have none_ : inner (.tup ds) = none → Q .non H := fun c => q _ _ (Same.refl _) (by rw [c]; rfl)
      refine ⟨_, rfl, _, _, _, _, _, rfl, .ty _, ht, k2, _, rfl, iteF ?_⟩
      refine ⟨_, rfl, _, _, rfl, .inr ⟨_, SqT.of hp, rfl⟩, rfl, _, rfl, ite2 (fun e => ?_) (fun e => ?_)⟩
      · have e1 : ¬ xs.length = 2 := by
          intro c
          rw [c] at e
          exact absurd e (by decide)
        refine iteT (none_ ?_)
        unfold inner
        split
        · rename_i h; cases h
        · rename_i h
          cases h
          exact absurd hl e1
        · rfl
      · have e1 : xs.length = 2 := by
          have e2 : ¬ ¬ ((xs.length : Nat) : Int) = 2 := fun c => e (by
            show (!decide (V.int ((xs.length : Nat) : Int) = V.int 2)) = true
            rw [decide_eq_false (fun z => c (V.int.inj z))]
            rfl)
          omega
        match xs, ds, hX, e1 with
        | [x, y], [dx, dy], hX, _ =>
          cases hX with
          | cons hx hX =>
          cases hX with
          | cons hy _ =>
          obtain ⟨tx, htx, kx, _⟩ := hx.ty (K := K)
          refine ⟨_, rfl, p, _, 0, x, rfl, rfl, SqT.of hp, at_zero, _, _, _, _, _, rfl, .ty _, htx, kx, _, rfl, ite2 (fun e => ?_) (fun e => ?_)⟩
          · refine none_ ?_
            cases dx with
            | str z => cases e
            | tup _ => rfl
            | lst => rfl
            | flat => rfl
          · cases dx with
            | tup _ => exact absurd rfl e
            | lst => exact absurd rfl e
            | flat => exact absurd rfl e
            | str w =>
              cases hx with
              | str hw =>
              refine ⟨_, rfl, p, _, rfl, SqT.of hp, rfl, _, _, rfl, _, _, rfl, rfl, ?_⟩
              have yes : (w = sMaybe ∨ w = sMany) → ∀ p, H p = none → Q (.ref p) (upd H p (.tup [y])) := fun c p hp => q _ _ (same_upd hp) (by
                rw [inner_pair, innerPair, if_pos c]
                exact ⟨p, [y], rfl, upd_same, .cons (hy.pers (Pers.new hp)) .nil⟩)
              refine ⟨_, rfl, rfl, _, rfl, ite2 (fun e1 => iteT ?_) (fun e1 => ?_)⟩
              · exact ⟨_, rfl, by show 1 ≤ sizeLine; decide, yes (.inl (vstr e1))⟩
              refine ⟨_, rfl, rfl, _, rfl, ite2 (fun e2 => ?_) (fun e2 => ?_)⟩
              · exact ⟨_, rfl, by show 1 ≤ sizeLine; decide, yes (.inr (vstr e2))⟩
              have no1 : ¬ (w = sMaybe ∨ w = sMany) := fun c => c.elim (vstrN e1) (vstrN e2)
              have hfl : w = sJoin ∨ w = sOr → rowFlat dy = true := fun c => by
                cases hF with
                | tup h _ => exact h _ _ rfl c
              have row : (w = sJoin ∨ w = sOr) → ∀ H', Same H H' → (rowOk w dy = true → Q y H') ∧ (¬ rowOk w dy = true → Q .non H') := fun c H' hs => ⟨fun r => q _ _ hs (by
                rw [inner_pair, innerPair, if_neg no1, if_pos ⟨c, r⟩]
                cases dy with
                | tup ds =>
                  obtain ⟨p, xs, rfl, hp, hz, hX⟩ := hy.untup
                  exact ⟨p, xs, rfl, hs _ _ hp, Rep.pers2 (Pers.same hs) hX⟩
                | str z => cases r
                | lst => cases r
                | flat => cases r), fun r => q _ _ hs (by rw [inner_pair, innerPair, if_neg no1, if_neg fun z => r z.2] <;> rfl)⟩
              refine ⟨_, rfl, rfl, _, rfl, ite2 (fun e3 => iteT ?_) (fun e3 => ?_)⟩
              · have c : w = sJoin ∨ w = sOr := .inl (vstr e3)
                refine ⟨_, rfl, _, rfl, y, w, dy, rfl, hy, hfl c, fun H' hs => ⟨_, rfl, ite2 (fun e4 => ?_) (fun e4 => ?_)⟩⟩
                · exact ⟨_, rfl, (row c H' hs).1 e4⟩
                · exact (row c H' hs).2 e4
              refine ⟨_, rfl, rfl, _, rfl, ite2 (fun e4 => ?_) (fun e4 => ?_)⟩
              · have c : w = sJoin ∨ w = sOr := .inr (vstr e4)
                refine ⟨_, rfl, _, rfl, y, w, dy, rfl, hy, hfl c, fun H' hs => ⟨_, rfl, ite2 (fun e4 => ?_) (fun e4 => ?_)⟩⟩
                · exact ⟨_, rfl, (row c H' hs).1 e4⟩
                · exact (row c H' hs).2 e4
              · refine iteF (none_ ?_)
                rw [inner_pair, innerPair, if_neg no1, if_neg fun z => z.1.elim (vstrN e3) (vstrN e4)]
def StkRep (H : Hp) (x : V) (p : D × Nat) : Prop := ∃ t y, x = .ref t ∧ H t = some (.tup [y, .int p.2]) ∧ Rep H y p.1
theorem StkRep.pers {H H' : Hp} (k : Pers H H') {x : V} {p : D × Nat} (h : StkRep H x p) : StkRep H' x p := by
  obtain ⟨t, y, rfl, h1, h2⟩ := h
  exact ⟨t, y, rfl, k.tup _ _ h1, h2.pers k⟩
theorem fl_inner {d : D} {ys : List D} (h : Fl d) (hi : inner d = some ys) : ∀ y ∈ ys, Fl y := by
  intro y hy
  unfold inner at hi
  split at hi
  · split at hi
    · cases hi; cases hy
    · cases hi
  · rename_i w z
    have hz : Fl z := by
      cases h with
      | tup _ k => exact k z (by simp)
    unfold innerPair at hi
    split at hi
    · cases hi
      rw [List.mem_singleton] at hy
      subst hy
      exact hz
    · split at hi
      · cases hz with
        | tup _ k => cases hi; exact k y hy
        | str => cases hi
        | lst => cases hi
        | flat => cases hi
      · cases hi
  · cases hi
theorem len_msr (st : List (D × Nat)) : st.length ≤ msr st := by
  induction st with
  | nil => exact Nat.le_refl _
  | cons p st ih =>
    have := size_pos p.1
    unfold msr at ih ⊢
    rw [List.map_cons, List.sum_cons, List.length_cons]
    omega
structure Loop (H : Hp) (B : Bnd) (d : D) (v : V) (b wt : Addr) (n : Nat) (st : List (D × Nat)) (a : Bnd) (σ : L2.St) (H' : Hp) : Prop where
  sl : ∃ x9 x10 x11, σ = [some v, some (.ref b), some (.int B.1), some (.int B.2.1), some (.int B.2.2), some (.int a.1), some (.int a.2.1), some (.int a.2.2), some (.ref wt), x9, x10, x11, none]
  same : Same H H'
  new : H wt = none
  stk : ∃ xs, H' wt = some (.lst xs) ∧ Two (StkRep H') xs st.reverse
  fl : ∀ p ∈ st, Fl p.1
  ms : msr st < n
  le : msr st ≤ d.size
  eq : look B n st a = sizesOf B d
abbrev N_sizes_within : List Str := ["value", "bounds", "most_places", "most_deep", "most_parts", "many_places", "deepest", "many_parts", "waiting", "part", "deep", "inner", "each"]
theorem sc_sizes_within : FnScope ["value", "bounds", "most_places", "most_deep", "most_parts", "many_places", "deepest", "many_parts", "waiting", "part", "deep", "inner", "each"] ["value", "bounds"] (defScope s_sizes_within) := ⟨rfl, rfl, rfl, by decide +kernel, rfl, by decide +kernel, by decide +kernel⟩
theorem ok_sizes {f : Addr} {fd : FuncData} (Bt : Bt K mg a_BOUNDS a_LONG_BOUNDS tL tM) (D : Df K mg "sizes_within" s_sizes_within ["value", "bounds"] f fd) (G_parts_of : Cl P w K mg base 3 "_parts_of" ["value"] spPartsOf) : FnOk P w K mg base CX0 4 f fd ["value", "bounds"] (spSizes K) := by
  refine D.F.ok sc_sizes_within (fun vs H Q E h => ?_) (fun cdv A outer s H vs Q E hr h => ?_)
  · obtain ⟨v, d, b, B, rfl, _⟩ := h
    rfl
  obtain ⟨v, d, b, ⟨b1, b2, b3⟩, rfl, hR, hF, hZ, hB, q⟩ := h
  have B := Bt
  refine ⟨_, (pss_cons (ps_asg (pv 1) (pg_tup rfl (pgs_cons (pg_name (i := 2) sc_sizes_within.nd rfl (Or.inl rfl)) (pgs_cons (pg_name (i := 3) sc_sizes_within.nd rfl (Or.inl rfl)) (pgs_cons (pg_name (i := 4) sc_sizes_within.nd rfl (Or.inl rfl)) pgs_nil)))))
    (pss_cons (ps_asg (pe_tup (pa_cons pe_int (pa_cons pe_int (pa_cons pe_int pa_nil)))) (pg_tup rfl (pgs_cons (pg_name (i := 5) sc_sizes_within.nd rfl (Or.inl rfl)) (pgs_cons (pg_name (i := 6) sc_sizes_within.nd rfl (Or.inl rfl)) (pgs_cons (pg_name (i := 7) sc_sizes_within.nd rfl (Or.inl rfl)) pgs_nil)))))
    (pss_cons (ps_set (i := 8) sc_sizes_within.nd rfl (Or.inl rfl) (pe_lst (pa_cons (pe_tup (pa_cons (pv 0) (pa_cons pe_int pa_nil))) pa_nil)))
    (pss_cons (ps_while PassesOwn.never (pt_truth (pv 8) (by intro _; rfl)) (pss_cons (ps_asg (pe_bm0 PySem.F.plainAttrs_list PySem.F.slot_list_pop PySem.F.type_list_pop mt_pop (pv 8)) (pg_tup rfl (pgs_cons (pg_name (i := 9) sc_sizes_within.nd rfl (Or.inl rfl)) (pgs_cons (pg_name (i := 10) sc_sizes_within.nd rfl (Or.inr rfl)) pgs_nil))))
    (pss_cons (ps_set (i := 11) sc_sizes_within.nd rfl (Or.inl rfl) (pe_cl G_parts_of (hr.mono (by omega)) rfl (pa_cons (pv 9) pa_nil)))
    (pss_cons (ps_if (pt_cmpR op_isN (pv 11) pe_non (nomark _)) (pss_one (ps_ret pe_non)) pss_nil)
    (C8.pss_cut (ps_if (pt_val (pe_callB call_isi rfl B.b_isinstance boot_isinstance (pa_cons (pv 9) (pa_cons (pe_bltn (v := .ty "str") rfl B.b_str boot_str rfl) pa_nil)))) (pss_one (ps_aug (i := 5) sc_sizes_within.nd rfl (Or.inl rfl) (pe_callB call_len rfl B.b_len boot_len (pa_cons (pv 9) pa_nil)) ip_add)) pss_nil)
    (pss_cons (ps_set (i := 6) sc_sizes_within.nd rfl (Or.inl rfl) (pe_callB (call_max2 rfl) rfl B.b_max boot_max (pa_cons (pv 6) (pa_cons (pv 10) pa_nil))))
    (pss_cons (ps_aug (i := 7) sc_sizes_within.nd rfl (Or.inl rfl) (pe_callB call_len rfl B.b_len boot_len (pa_cons (pv 11) pa_nil)) ip_add)
    (pss_cons (ps_if (PW.pt (pw_or (pt_cmpR op_gt (pv 5) (pv 2) (nomark _)) (pw_or (pt_cmpR op_gt (pv 6) (pv 3) (nomark _)) (pw_or1 (pt_cmpR op_gt (pv 7) (pv 4) (nomark _)))))) (pss_one (ps_ret pe_non)) pss_nil)
    (pss_one (ps_expr (pe_bm PySem.F.plainAttrs_list PySem.F.slot_list_extend PySem.F.type_list_extend mt_extend (pv 8) (pa_cons (pe_lc (own := [("each", 12)]) (g := gName 12) (tt := tYes) rfl sc_sizes_within.nd (pi_tup (pv 11)) (blkOk_by (N := N_sizes_within) (sc := defScope s_sizes_within) (by decide +kernel)) (fun _ _ _ _ _ => pg_name (i := 12) sc_sizes_within.nd rfl (Or.inl rfl)) (fun _ _ _ _ _ => pts_nil) (fun _ _ _ _ _ => (pe_tup (pa_cons (pv 12) (pa_cons (pe_op op_add (pv 10) pe_int) pa_nil))))) pa_nil))))))))))))
    (pss_one (ps_ret (pe_tup (pa_cons (pv 5) (pa_cons (pv 6) (pa_cons (pv 7) pa_nil)))))))))), ?_⟩
  refine ⟨_, rfl, b, _, rfl, hB, rfl, _, _, rfl, _, _, rfl, _, _, rfl, rfl, (by show 3 ≤ sizeLine; decide), fun t0 ht0 => ⟨t0, _, rfl, SqT.of upd_same, rfl, _, _, rfl, _, _, rfl, _, _, rfl, rfl, ?_⟩⟩
  refine ⟨_, rfl, (by show 2 ≤ sizeLine; decide), fun t ht => ⟨(by show 1 ≤ sizeLine; decide), fun wt hwt => ?_⟩⟩
  have ntw : t ≠ wt := fun e => by
    rw [← e, upd_same] at hwt
    cases hwt
  have s1 : Same H (upd (upd (upd H t0 _) t (.tup [v, .int 0])) wt (.lst [.ref t])) := (same_upd ht0).trans ((same_upd ht).trans (same_upd hwt))
  refine ⟨fun n σ' H' => ∃ st a, Loop H (b1, b2, b3) d v b wt n st a σ' H', ⟨d.size + 1, [(d, 0)], (0, 0, 1), ⟨none, none, none, rfl⟩, s1, ((same_upd ht0).trans (same_upd ht)).free hwt, ⟨_, upd_same, ?_⟩, ?_, ?_, ?_, rfl⟩, ?_⟩
  · exact .cons ⟨t, v, rfl, by rw [upd_ne ntw, upd_same] <;> rfl, hR.pers (Pers.same s1)⟩ .nil
  · intro p hp
    rw [List.mem_singleton] at hp
    subst hp
    exact hF
  · show msr [(d, 0)] < d.size + 1
    unfold msr
    simp
  · show msr [(d, 0)] ≤ d.size
    unfold msr
    simp
  rintro n σ' H' ⟨st, a, ⟨x9, x10, x11, rfl⟩, sm, new, ⟨xs, hw, hX⟩, fl, ms, le, eq⟩
  have hlX := hX.len
  refine ⟨_, rfl, _, .inl ⟨_, SqL.of hw, rfl⟩, ite2 (fun e => ?_) (fun e => ?_)⟩
  · -- a turn
    cases st with
    | nil =>
      cases xs with
      | nil => cases e
      | cons x r => cases hX
    | cons p st =>
    obtain ⟨dp, k⟩ := p
    rw [List.reverse_cons] at hX
    obtain ⟨xs', x, rfl, hX', t1, y, rfl, ht1, hy⟩ := hX.unsnoc
    cases n with
    | zero => exact absurd ms (Nat.not_lt_zero _)
    | succ n =>
    have hFd : Fl dp := fl (dp, k) (List.mem_cons_self ..)
    have nt1 : t1 ≠ wt := fun e => by
      rw [e, hw] at ht1
      cases ht1
    refine ⟨fun σ2 H2 => ∃ st a, Loop H (b1, b2, b3) d v b wt n st a σ2 H2, fun σ2 H2 h => ⟨n, Nat.lt_succ_self n, h⟩, ?_⟩
    -- part, deep = waiting.pop()
    have hpop : (xs' ++ [V.ref t1])[(xs' ++ [V.ref t1]).length - 1]? = some (.ref t1) := by
      rw [List.length_append, List.length_singleton, Nat.add_sub_cancel, List.getElem?_append_right (Nat.le_refl _), Nat.sub_self]
      rfl
    have hdrop : (xs' ++ [V.ref t1]).dropLast = xs' := List.dropLast_concat ..
    refine ⟨_, rfl, .inl ⟨rfl, _, SqL.of hw⟩, wt, _, _, rfl, rfl, hw, hpop, t1, _, rfl, SqT.of (by rw [upd_ne nt1]; exact ht1), rfl, _, _, rfl, _, _, rfl, rfl, ?_⟩
    rw [hdrop]
    have P1 : Pers H' (upd H' wt (.lst xs')) := Pers.store hw
    -- inner = _parts_of(part)
    refine ⟨_, rfl, y, dp, rfl, hy.pers P1, hFd, fun r H2 s2 hr2 => ?_⟩
    have P2 : Pers H' H2 := P1.trans (Pers.same s2)
    have hw2 : H2 wt = some (.lst xs') := s2 _ _ upd_same
    have sm2 : Same H H2 := fun b o e => s2 _ _ (by rw [upd_ne (ne_of_none e new)]; exact sm b o e)
    have lk : look (b1, b2, b3) (n + 1) ((dp, k) :: st) a = (match inner dp with | none => none | some ys => if within (b1, b2, b3) (a.1 + places1 dp, max a.2.1 k, a.2.2 + ys.length) = true then look (b1, b2, b3) n ((ys.map fun y => (y, k + 1)).reverse ++ st) (a.1 + places1 dp, max a.2.1 k, a.2.2 + ys.length) else none) := rfl
    rw [eq] at lk
    cases hi : inner dp with
    | none =>
      rw [hi] at lk hr2
      have hr3 : r = .non := hr2
      subst hr3
      refine ⟨_, rfl, rfl, _, rfl, iteT (q _ _ sm2 ?_)⟩
      rw [lk]
      rfl
    | some ys =>
      rw [hi] at lk hr2
      obtain ⟨p, vs, rfl, hp, hV⟩ := hr2
      have hl := hV.len
      have hsz := inner_size hi
      have mst : msr ((dp, k) :: st) = dp.size + msr st := by
        unfold msr
        rw [List.map_cons, List.sum_cons]
      refine ⟨_, rfl, rfl, _, rfl, iteF ?_⟩
      -- if isinstance(part, str): many_places += len(part)
      obtain ⟨ty, hty, k1, _⟩ := (hy.pers P2).ty (K := K)
      refine ⟨fun σ3 H3 => σ3 = [some v, some (.ref b), some (.int b1), some (.int b2), some (.int b3), some (.int ((a.1 + places1 dp : Nat) : Int)), some (.int a.2.1), some (.int a.2.2), some (.ref wt), some y, some (.int k), some (.ref p), none] ∧ H3 = H2, ?_, ?_⟩
      · refine ⟨_, rfl, _, _, _, _, _, rfl, .ty _, hty, k1, _, rfl, ite2 (fun e => ?_) (fun e => ?_)⟩
        · cases dp with
          | str z =>
            cases hy with
            | str hz => exact ⟨_, rfl, _, rfl, _, _, rfl, ⟨Nat.le_trans hz (by decide), rfl⟩, _, _, rfl, rfl, rfl, rfl⟩
          | tup _ => cases e
          | lst => cases e
          | flat => cases e
        · cases dp with
          | str z => exact absurd rfl e
          | tup _ => exact ⟨rfl, rfl⟩
          | lst => exact ⟨rfl, rfl⟩
          | flat => exact ⟨rfl, rfl⟩
      rintro σ3 H3 ⟨rfl, rfl⟩
      -- deepest = max(deepest, deep); many_parts += len(inner)
      refine ⟨_, rfl, _, rfl, _, _, rfl, ?_⟩
      have emax : (if (k : Int) > (a.2.1 : Int) then (k : Int) else (a.2.1 : Int)) = ((max a.2.1 k : Nat) : Int) := by
        split <;> omega
      rw [emax]
      refine ⟨_, rfl, _, rfl, _, ys.length, rfl, .inr ⟨_, SqT.of hp, hl.symm⟩, _, _, rfl, rfl, ?_⟩
      have bad : ¬ within (b1, b2, b3) (a.1 + places1 dp, max a.2.1 k, a.2.2 + ys.length) = true → Q .non H3 := fun c => q _ _ sm2 (by
        rw [lk]
        show SizeR H3 .non (if within (b1, b2, b3) (a.1 + places1 dp, max a.2.1 k, a.2.2 + ys.length) = true then _ else none)
        rw [if_neg c]
        rfl)
      refine ⟨_, rfl, _, rfl, _, _, rfl, rfl, _, rfl, ite2 (fun e1 => ?_) (fun e1 => ?_)⟩
      · refine iteT (bad fun c => ?_)
        have := (within_iff.mp c).1
        have e2 : ((b1 : Nat) : Int) < ((a.1 + places1 dp : Nat) : Int) := of_decide_eq_true e1
        have e3 : a.1 + places1 dp ≤ b1 := this
        omega
      refine ⟨_, rfl, _, rfl, _, _, rfl, rfl, _, rfl, ite2 (fun e2 => ?_) (fun e2 => ?_)⟩
      · refine iteT (bad fun c => ?_)
        have e3 : max a.2.1 k ≤ b2 := (within_iff.mp c).2.1
        have e4 : ((b2 : Nat) : Int) < ((max a.2.1 k : Nat) : Int) := of_decide_eq_true e2
        omega
      refine ⟨_, rfl, _, rfl, _, _, rfl, rfl, _, rfl, ite2 (fun e3 => ?_) (fun e3 => ?_)⟩
      · refine bad fun c => ?_
        have e4 : a.2.2 + ys.length ≤ b3 := (within_iff.mp c).2.2
        have e5 : ((b3 : Nat) : Int) < ((a.2.2 + ys.length : Nat) : Int) := of_decide_eq_true e3
        omega
      have win : within (b1, b2, b3) (a.1 + places1 dp, max a.2.1 k, a.2.2 + ys.length) = true := by
        refine within_iff.mpr ⟨?_, ?_, ?_⟩
        · have e4 : ¬ ((b1 : Nat) : Int) < ((a.1 + places1 dp : Nat) : Int) := fun h => e1 (decide_eq_true h)
          show a.1 + places1 dp ≤ b1
          omega
        · have e4 : ¬ ((b2 : Nat) : Int) < ((max a.2.1 k : Nat) : Int) := fun h => e2 (decide_eq_true h)
          show max a.2.1 k ≤ b2
          omega
        · have e4 : ¬ ((b3 : Nat) : Int) < ((a.2.2 + ys.length : Nat) : Int) := fun h => e3 (decide_eq_true h)
          show a.2.2 + ys.length ≤ b3
          omega
      have lk2 : look (b1, b2, b3) n ((ys.map fun y => (y, k + 1)).reverse ++ st) (a.1 + places1 dp, max a.2.1 k, a.2.2 + ys.length) = sizesOf (b1, b2, b3) d := by
        have lk3 : sizesOf (b1, b2, b3) d = (if within (b1, b2, b3) (a.1 + places1 dp, max a.2.1 k, a.2.2 + ys.length) = true then look (b1, b2, b3) n ((ys.map fun y => (y, k + 1)).reverse ++ st) (a.1 + places1 dp, max a.2.1 k, a.2.2 + ys.length) else none) := lk
        rw [if_pos win] at lk3
        exact lk3.symm
      have ms2 := msr_step (k := k) (st := st) hi
      have lsz : ys.length ≤ (ys.map My.D.size).sum := by
        have := len_msr (ys.map fun y => (y, k + 1))
        unfold msr at this
        rw [List.length_map, List.map_map] at this
        exact this
      -- waiting.extend([(each, deep + 1) for each in inner])
      refine ⟨_, rfl, .inl ⟨rfl, _, SqL.of hw2⟩, _, rfl, p, rfl, ⟨_, SqT.of hp⟩, fun L hL => ?_⟩
      have nL : wt ≠ L := ne_of_none hw2 hL
      refine lc_tup (K := K) (a := p) (xs := vs) (fun i H4 => Same H3 H4 ∧ ∃ zs, H4 L = some (.lst zs) ∧ Two (StkRep H4) zs ((ys.take i).map fun y => (y, k + 1))) ⟨same_upd hL, [], upd_same, .nil⟩ (fun i H4 _ h => SqT.of (h.1 _ _ hp)) (fun i x H4 hx h => ?_) (fun H4 h => ?_)
      · obtain ⟨h1, zs, h2, h3⟩ := h
        obtain ⟨dy, hd, hxd⟩ := hV.get hx
        have hlz := h3.len
        rw [List.length_map, List.length_take] at hlz
        refine ⟨rfl, tyes ⟨_, rfl, _, rfl, _, _, rfl, rfl, (by show 2 ≤ sizeLine; decide), fun t ht => ⟨zs, ?_, ?_, ?_, ?_⟩⟩⟩
        · rw [upd_ne (ne_of_none h2 ht)]
          exact h2
        · have : zs.length ≤ 1000000 := by omega
          exact Nat.lt_of_le_of_lt this (by decide)
        · intro b o e
          rw [upd_ne (ne_of_none e hL), upd_ne (ne_of_none (h1 _ _ e) ht)]
          exact h1 _ _ e
        · refine ⟨_, upd_same, ?_⟩
          have P4 : Pers H4 (upd (upd H4 t (.tup [x, .int ((k : Int) + 1)])) L (.lst (zs ++ [.ref t]))) := (Pers.new ht).trans (Pers.store (by rw [upd_ne (ne_of_none h2 ht)]; exact h2))
          rw [List.take_add_one, hd, List.map_append]
          refine (h3.mono fun _ _ => StkRep.pers P4).app (.cons ⟨t, x, rfl, ?_, hxd.pers ((Pers.same h1).trans P4)⟩ .nil)
          have nt : t ≠ L := fun e => by
            rw [e] at ht
            rw [h2] at ht
            cases ht
          rw [upd_ne nt, upd_same]
          rfl
      · obtain ⟨h1, zs, h2, h3⟩ := h
        rw [hl, List.take_length] at h3
        have hlz := h3.len
        rw [List.length_map] at hlz
        have hw4 := h1 _ _ hw2
        have hlx := hX'.len
        have lst := len_msr st
        rw [List.length_reverse] at hlx
        refine ⟨wt, L, _, _, rfl, rfl, hw4, h2, ?_, ?_⟩
        · have : xs'.length + zs.length ≤ 1000000 := by omega
          exact Nat.le_trans this (by decide)
        · have P4 : Pers H4 (upd H4 wt (.lst (xs' ++ zs))) := Pers.store hw4
          refine ⟨_, _, ⟨_, _, _, rfl⟩, fun b o e => by rw [upd_ne (ne_of_none e new)]; exact h1 _ _ (sm2 b o e), new, ⟨_, upd_same, ?_⟩, ?_, ?_, ?_, lk2⟩
          · rw [List.reverse_append, List.reverse_reverse]
            exact (hX'.mono fun _ _ => StkRep.pers (P2.trans ((Pers.same h1).trans P4))).app (h3.mono fun _ _ => StkRep.pers P4)
          · intro q hq
            rcases List.mem_append.mp hq with hq | hq
            · rw [List.mem_reverse, List.mem_map] at hq
              obtain ⟨y, hy, rfl⟩ := hq
              exact fl_inner hFd hi y hy
            · exact fl q (List.mem_cons_of_mem _ hq)
          · omega
          · omega
  · -- the end
    have e1 : st = [] := by
      cases xs with
      | nil =>
        have : st.reverse.length = 0 := hlX.symm
        rw [List.length_reverse] at this
        exact List.eq_nil_of_length_eq_zero this
      | cons x r => exact absurd rfl e
    subst e1
    have e2 : sizesOf (b1, b2, b3) d = some a := by
      cases n with
      | zero => exact absurd ms (Nat.not_lt_zero _)
      | succ n => exact eq.symm
    refine ⟨_, rfl, _, rfl, _, rfl, (by show 3 ≤ sizeLine; decide), fun p hp => q _ _ (sm.trans (same_upd hp)) ?_⟩
    rw [e2]
    exact ⟨p, rfl, upd_same⟩
abbrev N_is_expression : List Str := ["value"]
theorem sc_is_expression : FnScope ["value"] ["value"] (defScope s_is_expression) := ⟨rfl, rfl, rfl, by decide +kernel, rfl, by decide +kernel, by decide +kernel⟩
theorem ok_isexpr {f : Addr} {fd : FuncData} (B : Bt K mg a_BOUNDS a_LONG_BOUNDS tL tM) (D : Df K mg "is_expression" s_is_expression ["value"] f fd) (Gsizes_within : Cl P w K mg base 4 "sizes_within" ["value", "bounds"] (spSizes K)) : FnOk P w K mg base CX0 5 f fd ["value"] (spIs (8, 6, 24)) := by
  refine D.F.ok sc_is_expression (fun vs H Q E h => ?_) (fun cdv A outer s H vs Q E hr h => ?_)
  · obtain ⟨v, d, rfl, _⟩ := h
    rfl
  obtain ⟨v, d, rfl, hR, hF, hZ, q⟩ := h
  refine ⟨_, (pss_one (ps_ret (pe_cmpR op_notN (pe_cl Gsizes_within (hr.mono (by omega)) rfl (pa_cons (pv 0) (pa_cons (pe_glob (v := .ref a_BOUNDS) rfl B.g_BOUNDS rfl) pa_nil))) pe_non (nomark _)))), ?_⟩
  refine ⟨_, rfl, v, d, a_BOUNDS, (8, 6, 24), rfl, hR, hF, hZ, B.tE _, fun r H' hs hr2 => ⟨rfl, ?_⟩⟩
  have e : (!decide (r = V.non)) = (sizesOf (8, 6, 24) d).isSome := by
    cases h : sizesOf (8, 6, 24) d with
    | none =>
      rw [h] at hr2
      have : r = .non := hr2
      subst this
      rfl
    | some a =>
      rw [h] at hr2
      obtain ⟨p, rfl, _⟩ := hr2
      rfl
  rw [e]
  exact q _ hs
abbrev N_is_long : List Str := ["value"]
theorem sc_is_long : FnScope ["value"] ["value"] (defScope s_is_long) := ⟨rfl, rfl, rfl, by decide +kernel, rfl, by decide +kernel, by decide +kernel⟩
theorem ok_islong {f : Addr} {fd : FuncData} (B : Bt K mg a_BOUNDS a_LONG_BOUNDS tL tM) (D : Df K mg "is_long" s_is_long ["value"] f fd) (Gsizes_within : Cl P w K mg base 4 "sizes_within" ["value", "bounds"] (spSizes K)) : FnOk P w K mg base CX0 5 f fd ["value"] (spIs (40, 40, 200)) := by
  refine D.F.ok sc_is_long (fun vs H Q E h => ?_) (fun cdv A outer s H vs Q E hr h => ?_)
  · obtain ⟨v, d, rfl, _⟩ := h
    rfl
  obtain ⟨v, d, rfl, hR, hF, hZ, q⟩ := h
  refine ⟨_, (pss_one (ps_ret (pe_cmpR op_notN (pe_cl Gsizes_within (hr.mono (by omega)) rfl (pa_cons (pv 0) (pa_cons (pe_glob (v := .ref a_LONG_BOUNDS) rfl B.g_LONG_BOUNDS rfl) pa_nil))) pe_non (nomark _)))), ?_⟩
  refine ⟨_, rfl, v, d, a_LONG_BOUNDS, (40, 40, 200), rfl, hR, hF, hZ, B.tG _, fun r H' hs hr2 => ⟨rfl, ?_⟩⟩
  have e : (!decide (r = V.non)) = (sizesOf (40, 40, 200) d).isSome := by
    cases h : sizesOf (40, 40, 200) d with
    | none =>
      rw [h] at hr2
      have : r = .non := hr2
      subst this
      rfl
    | some a =>
      rw [h] at hr2
      obtain ⟨p, rfl, _⟩ := hr2
      rfl
  rw [e]
  exact q _ hs
def isTextD (m : Nat) : My.D → Bool
  | .str z => decide (z.length ≤ m) && z.cps.toList.all (fun c => decide (c ∈ (Str.ofString "abcd").cps.toList))
  | _ => false
def isWord (d : My.D) : Bool := isTextD 24 d
def spIsText : Sp := fun vs H Q _ => ∃ (v : V) (d : My.D) (m : Nat), vs = [v, .int m] ∧ Rep H v d ∧ ∀ H', Same H H' → Q (.bl (isTextD m d)) H'
def spIsWord : Sp := fun vs H Q _ => ∃ (v : V) (d : My.D), vs = [v] ∧ Rep H v d ∧ ∀ H', Same H H' → Q (.bl (isWord d)) H'
abbrev N_is_text : List Str := ["value", "most", "letter"]
theorem sc_is_text : FnScope ["value", "most", "letter"] ["value", "most"] (defScope s_is_text) := ⟨rfl, rfl, rfl, by decide +kernel, rfl, by decide +kernel, by decide +kernel⟩
theorem ok_istext {f : Addr} {fd : FuncData} (B : Bt K mg a_BOUNDS a_LONG_BOUNDS tL tM) (D : Df K mg "is_text" s_is_text ["value", "most"] f fd) : FnOk P w K mg base CX0 1 f fd ["value", "most"] spIsText := by
  refine D.F.ok sc_is_text (fun vs H Q E h => ?_) (fun cdv A outer s H vs Q E hr h => ?_)
  · obtain ⟨v, d, m, rfl, _⟩ := h
    rfl
  obtain ⟨v, d, m, rfl, hR, q⟩ := h
  refine ⟨_, (pss_cons (ps_if (PW.pt (pw_or (pt_not (pt_val (pe_callB call_isi rfl B.b_isinstance boot_isinstance (pa_cons (pv 0) (pa_cons (pe_bltn (v := .ty "str") rfl B.b_str boot_str rfl) pa_nil))))) (pw_or1 (PW.pt (pw_and (pt_cmpR op_notN (pv 1) pe_non (nomark _)) (pw_and1 (pt_cmpR op_gt (pe_callB call_len rfl B.b_len boot_len (pa_cons (pv 0) pa_nil)) (pv 1) (nomark _)))))))) (pss_one (ps_ret pe_bl)) pss_nil)
    (pss_one (ps_ret (pe_callB (cr_all rfl) rfl B.b_all boot_all (pa_cons (pe_lc (own := [("letter", 2)]) (g := gName 2) (tt := tYes) rfl sc_is_text.nd (pi_str (pv 0)) (blkOk_by (N := N_is_text) (sc := defScope s_is_text) (by decide +kernel)) (fun _ _ _ _ _ => pg_name (i := 2) sc_is_text.nd rfl (Or.inl rfl)) (fun _ _ _ _ _ => pts_nil) (fun _ _ _ _ _ => (pe_cmpR op_in_sign (pv 2) (pe_glob (v := .str "abcd") rfl B.g_LETTERS ⟨_, rfl⟩) rfl))) pa_nil))))), ?_⟩
  obtain ⟨t, ht, k1, _⟩ := hR.ty (K := K)
  refine ⟨_, rfl, _, _, _, _, _, rfl, .ty _, ht, k1, _, rfl, ite2 (fun e => iteT ?_) (fun e => ?_)⟩
  · cases d with
    | str z => cases e
    | tup _ => exact q _ (Same.refl _)
    | lst => exact q _ (Same.refl _)
    | flat => exact q _ (Same.refl _)
  · cases d with
    | tup _ => exact absurd rfl e
    | lst => exact absurd rfl e
    | flat => exact absurd rfl e
    | str z =>
      cases hR with
      | str hz =>
      refine ⟨_, rfl, rfl, _, rfl, iteT ?_⟩
      refine ⟨_, rfl, _, _, rfl, ⟨Nat.le_trans hz (by decide), rfl⟩, _, rfl, _, _, rfl, rfl, _, rfl, ite2 (fun e => ?_) (fun e => ?_)⟩
      · have e1 : ((m : Nat) : Int) < (z.length : Int) := of_decide_eq_true e
        have e2 : isTextD m (.str z) = false := by
          show (decide (z.length ≤ m) && _) = false
          rw [decide_eq_false (by omega)]
          rfl
        rw [e2] at q
        exact q _ (Same.refl _)
      · have e1 : ¬ ((m : Nat) : Int) < (z.length : Int) := fun h => e (decide_eq_true h)
        have e2 : isTextD m (.str z) = z.cps.toList.all (fun c => decide (c ∈ (Str.ofString "abcd").cps.toList)) := by
          show (decide (z.length ≤ m) && z.cps.toList.all (fun c => decide (c ∈ (Str.ofString "abcd").cps.toList))) = _
          rw [decide_eq_true (by omega)]
          rfl
        rw [e2] at q
        refine ⟨_, rfl, z, rfl, fun L hL => ?_⟩
        refine lc_str (z := z) (fun i H' => Same H H' ∧ H' L = some (.lst (((z.cps.toList.take i).map fun c => decide (c ∈ (Str.ofString "abcd").cps.toList)).map V.bl))) ⟨same_upd hL, upd_same⟩ (fun i c H' hc h => ?_) (fun H' h => ?_)
        · have hc' : z.cps.toList[i]? = some c := by simpa using hc
          refine ⟨rfl, tyes ⟨_, rfl, c, _, rfl, rfl, _, h.2, ?_, ?_, ?_⟩⟩
          · rw [List.length_map, List.length_map, List.length_take, Array.length_toList]
            have : z.cps.size ≤ 1000 := hz
            exact Nat.lt_of_le_of_lt (Nat.min_le_right _ _) (Nat.lt_of_le_of_lt this (by decide))
          · exact fun b o e => by rw [upd_ne (ne_of_none e hL)]; exact h.1 b o e
          · rw [upd_same, List.take_add_one, hc', List.map_append, List.map_append]
            rfl
        · obtain ⟨h1, h2⟩ := h
          rw [← Array.length_toList, List.take_length] at h2
          refine ⟨L, _, rfl, SqL.of h2, ?_⟩
          have e3 : ((z.cps.toList.map fun c => decide (c ∈ (Str.ofString "abcd").cps.toList)).any id) = (z.cps.toList.any fun c => decide (c ∈ (Str.ofString "abcd").cps.toList)) := by
            rw [List.any_map]
            rfl
          have e4 : ((z.cps.toList.map fun c => decide (c ∈ (Str.ofString "abcd").cps.toList)).all id) = (z.cps.toList.all fun c => decide (c ∈ (Str.ofString "abcd").cps.toList)) := by
            rw [List.all_map]
            rfl
          rw [e4]
          exact q _ h1
abbrev N_is_word : List Str := ["value"]
theorem sc_is_word : FnScope ["value"] ["value"] (defScope s_is_word) := ⟨rfl, rfl, rfl, by decide +kernel, rfl, by decide +kernel, by decide +kernel⟩
theorem ok_isword {f : Addr} {fd : FuncData} (B : Bt K mg a_BOUNDS a_LONG_BOUNDS tL tM) (D : Df K mg "is_word" s_is_word ["value"] f fd) (Gis_text : Cl P w K mg base 1 "is_text" ["value", "most"] spIsText) : FnOk P w K mg base CX0 2 f fd ["value"] spIsWord := by
  refine D.F.ok sc_is_word (fun vs H Q E h => ?_) (fun cdv A outer s H vs Q E hr h => ?_)
  · obtain ⟨v, d, rfl, _⟩ := h
    rfl
  obtain ⟨v, d, rfl, hR, q⟩ := h
  refine ⟨_, (pss_one (ps_ret (pe_cl Gis_text (hr.mono (by omega)) rfl (pa_cons (pv 0) (pa_cons (pe_glob (v := .int 24) rfl B.g_MOST_LETTERS ⟨_, rfl⟩) pa_nil))))), ?_⟩
  exact ⟨_, rfl, v, d, 24, rfl, hR, q⟩
end
end My
namespace My
open PySem PySem.Spec PyProof.Rows L2
/-! ### drawn expressions -/
def outS : Option Bool → Str
  | none => sNo
  | some false => sJoin
  | some true => sOr
def rowOf : E → Option Bool
  | .join _ => some false
  | .alt _ => some true
  | _ => none
/-- the parts that a drawn expression of such a depth has at most -/
def pb : Nat → Nat
  | 0 => 1
  | n + 1 => 1 + 3 * pb n
theorem pb_mono {m n : Nat} (h : m ≤ n) : pb m ≤ pb n := by
  induction h with
  | refl => exact Nat.le_refl _
  | step _ ih =>
    refine Nat.le_trans ih ?_
    rw [pb]
    omega
structure Drawn (e : E) (room deep : Nat) (outer : Option Bool) : Prop where
  ok : e.ok = true
  pl : e.places ≤ room
  dp : e.depth ≤ deep
  pt : e.parts ≤ pb deep
  hd : rowOf e = none ∨ rowOf e ≠ outer
def Lets (z : Str) : Prop := 0 < z.length ∧ z.length ≤ 100 ∧ ∀ c ∈ z.cps.toList, 97 ≤ c ∧ c ≤ 100
def spGrown (n : Nat) : Sp := fun vs H Q _ => ∃ (a : Addr) (z : Str) (room deep : Nat) (outer : Option Bool), vs = [.ref a, .str z, .int room, .int deep, .str (outS outer)] ∧ Strm H a ∧ Lets z ∧ room ≤ 100 ∧ deep < n ∧
  ∀ v H' e, Go a H H' → Rep H' v e.toD → Drawn e room deep outer → Q v H'
section
variable {P : Program} {w : World} {K : PySem.W.Frag} {mg : Str → Option Value} {base : Heap} {a_BOUNDS a_LONG_BOUNDS : Addr} {tL tM : Tok}
theorem none_left {f : Addr} {fd : FuncData} {k : Nat} {ps : List Str} {sp : Sp} (no : ∀ vs H Q E, ¬ sp vs H Q E) : FnOk P w K mg base CX0 k f fd ps sp :=
  ⟨fun vs H Q E h => absurd h (no vs H Q E), fun A outer s H args us vs Q E _ _ _ _ h => absurd h (no vs H Q E)⟩
theorem mem_signs {v : V} {z : Str} (h : v ∈ signsV z) : ∃ c ∈ z.cps.toList, v = .str ⟨#[c]⟩ := by
  unfold signsV at h
  rw [List.mem_map] at h
  obtain ⟨c, hc, rfl⟩ := h
  exact ⟨c, hc, rfl⟩
theorem rep_sym {H : Hp} (c : Nat) : Rep H (.str ⟨#[c]⟩) (E.sym c).toD := by
  rw [E.toD]
  exact .str (by show 1 ≤ 1000; decide)
theorem rep_eps {H : Hp} : Rep H (.str sNo) E.eps.toD := by
  rw [E.toD]
  exact .str (by rw [lE]; decide)
theorem drawn_sym {c room deep : Nat} {outer : Option Bool} (h : 97 ≤ c ∧ c ≤ 100) (hr : 0 < room) : Drawn (.sym c) room deep outer where
  ok := by
    rw [E.ok, decide_eq_true h.1, decide_eq_true h.2]
    rfl
  pl := by rw [E.places]; omega
  dp := by rw [E.depth]; omega
  pt := by rw [E.parts]; exact Nat.le_trans (by decide) (pb_mono (Nat.zero_le deep))
  hd := .inl rfl
theorem drawn_eps {room deep : Nat} {outer : Option Bool} : Drawn .eps room deep outer where
  ok := rfl
  pl := by rw [E.places]; omega
  dp := by rw [E.depth]; omega
  pt := by rw [E.parts]; exact Nat.le_trans (by decide) (pb_mono (Nat.zero_le deep))
  hd := .inl rfl
theorem signs_len (z : Str) : (signsV z).length = z.length := by
  unfold signsV
  rw [List.length_map, Array.length_toList]
  rfl
theorem outS_inj {x y : Option Bool} (h : outS x = outS y) : x = y := by
  match x, y, h with
  | none, none, _ => rfl
  | none, some false, h => exact absurd h.symm je
  | none, some true, h => exact absurd h.symm oe
  | some false, none, h => exact absurd h je
  | some true, none, h => exact absurd h oe
  | some false, some false, _ => rfl
  | some true, some true, _ => rfl
  | some false, some true, h => exact absurd h jo
  | some true, some false, h => exact absurd h.symm jo
theorem any_no {α : Type} {p : α → Bool} {xs : List α} (h : ∀ x ∈ xs, p x = false) : xs.any p = false := by
  rw [List.any_eq_false]
  intro x hx c
  rw [h x hx] at c
  cases c
theorem sum_le_mul {es : List E} {f : E → Nat} {n : Nat} (h : ∀ e ∈ es, f e ≤ n) : (es.map f).sum ≤ es.length * n := by
  induction es with
  | nil => exact Nat.zero_le _
  | cons e es ih =>
    have h1 := h e (List.mem_cons_self ..)
    have h2 := ih fun x hx => h x (List.mem_cons_of_mem _ hx)
    rw [List.map_cons, List.sum_cons, List.length_cons, Nat.succ_mul]
    omega
abbrev N__law_grown : List Str := ["stream", "letters", "room", "deep", "outer", "pick", "word", "many", "left", "parts", "k", "share"]
theorem sc__law_grown : FnScope ["stream", "letters", "room", "deep", "outer", "pick", "word", "many", "left", "parts", "k", "share"] ["stream", "letters", "room", "deep", "outer"] (defScope s__law_grown) := ⟨rfl, rfl, rfl, by decide +kernel, rfl, by decide +kernel, by decide +kernel⟩
theorem ok_grown_step {f : Addr} {fd : FuncData} (B : Bt K mg a_BOUNDS a_LONG_BOUNDS tL tM) (Dd : Df K mg "_law_grown" s__law_grown ["stream", "letters", "room", "deep", "outer"] f fd) (G_law_next : Cl P w K mg base 1 "_law_next" ["stream", "many"] spNext) (G_law_pick : Cl P w K mg base 2 "_law_pick" ["stream", "rows"] (spPick K)) (n : Nat)
    (G_law_grown : Cl P w K mg base (n + 2) "_law_grown" ["stream", "letters", "room", "deep", "outer"] (spGrown n)) : FnOk P w K mg base CX0 (n + 3) f fd ["stream", "letters", "room", "deep", "outer"] (spGrown (n + 1)) := by
  refine Dd.F.ok sc__law_grown (fun vs H Q Ex h => ?_) (fun cdv A outer s H vs Q Ex hr h => ?_)
  · obtain ⟨a, z, room, deep, outer, rfl, _⟩ := h
    rfl
  obtain ⟨a, z, room, deep, outer, rfl, hS, hz, hroom, hdeep, q⟩ := h
  refine ⟨_, (pss_cons (ps_set (i := 5) sc__law_grown.nd rfl (Or.inl rfl) (pe_cl G_law_next (hr.mono (by omega)) rfl (pa_cons (pv 0) (pa_cons pe_int pa_nil))))
    (pss_cons (ps_if (PW.pt (pw_or (pt_cmpR op_eq (pv 3) pe_int (nomark _)) (pw_or (pt_cmpR op_eq (pv 2) pe_int (nomark _)) (pw_or1 (pt_cmpR op_eq (pv 5) pe_int (nomark _)))))) (pss_one (ps_ret (pe_ifExp (PW.pt (pw_and (pt_cmpR op_gt (pv 2) pe_int (nomark _)) (pw_and1 (pt_cmpR op_gt (pe_cl G_law_next (hr.mono (by omega)) rfl (pa_cons (pv 0) (pa_cons pe_int pa_nil))) pe_int (nomark _))))) (pe_cl G_law_pick (hr.mono (by omega)) rfl (pa_cons (pv 0) (pa_cons (pe_callTy (call_list_text rfl) rfl B.b_list boot_list (pa_cons (pv 1) pa_nil)) pa_nil))) pe_str))) pss_nil)
    (pss_cons (ps_if (pt_cmpR op_lt (pv 5) pe_int (nomark _)) (pss_one (ps_ret (pe_tup (pa_cons (pe_cl G_law_pick (hr.mono (by omega)) rfl (pa_cons (pv 0) (pa_cons (pe_lst (pa_cons pe_str (pa_cons pe_str pa_nil))) pa_nil))) (pa_cons (pe_cl G_law_grown (hr.mono (by omega)) rfl (pa_cons (pv 0) (pa_cons (pv 1) (pa_cons (pv 2) (pa_cons (pe_op op_sub (pv 3) pe_int) (pa_cons pe_str pa_nil)))))) pa_nil))))) pss_nil)
    (pss_cons (ps_set (i := 6) sc__law_grown.nd rfl (Or.inl rfl) (pe_cl G_law_pick (hr.mono (by omega)) rfl (pa_cons (pv 0) (pa_cons (pe_lst (pa_cons pe_str (pa_cons pe_str pa_nil))) pa_nil))))
    (C8.pss_cut (ps_if (pt_cmpR op_eq (pv 6) (pv 4) (nomark _)) (pss_one (ps_set (i := 6) sc__law_grown.nd rfl (Or.inl rfl) (pe_ifExp (pt_cmpR op_eq (pv 4) pe_str (nomark _)) pe_str pe_str))) pss_nil)
    (pss_cons (ps_set (i := 7) sc__law_grown.nd rfl (Or.inl rfl) (pe_op op_add pe_int (pe_cl G_law_next (hr.mono (by omega)) rfl (pa_cons (pv 0) (pa_cons pe_int pa_nil)))))
    (pss_cons (ps_set (i := 8) sc__law_grown.nd rfl (Or.inl rfl) (pv 2))
    (pss_cons (ps_set (i := 9) sc__law_grown.nd rfl (Or.inl rfl) (pe_lst pa_nil))
    (pss_cons (ps_for PassesOwn.never rfl (pi_range1 rfl B.b_range (pa_cons (pv 7) pa_nil)) (pg_name (i := 10) sc__law_grown.nd rfl (Or.inl rfl)) (C8.pss_cut (ps_set (i := 11) sc__law_grown.nd rfl (Or.inl rfl) (pe_ifExp (pt_cmpR op_eq (pe_op op_add (pv 10) pe_int) (pv 7) (nomark _)) (pv 8) (pe_cl G_law_next (hr.mono (by omega)) rfl (pa_cons (pv 0) (pa_cons (pe_op op_add (pv 8) pe_int) pa_nil)))))
    (pss_cons (ps_set (i := 8) sc__law_grown.nd rfl (Or.inl rfl) (pe_op op_sub (pv 8) (pv 11)))
    (pss_one (ps_expr (pe_bm PySem.F.plainAttrs_list PySem.F.slot_list_append PySem.F.type_list_append mt_append (pv 9) (pa_cons (pe_cl G_law_grown (hr.mono (by omega)) rfl (pa_cons (pv 0) (pa_cons (pv 1) (pa_cons (pv 11) (pa_cons (pe_op op_sub (pv 3) pe_int) (pa_cons (pv 6) pa_nil)))))) pa_nil)))))))
    (pss_one (ps_ret (pe_tup (pa_cons (pv 6) (pa_cons (pe_callTy call_tuple_of rfl B.b_tuple boot_tuple (pa_cons (pv 9) pa_nil)) pa_nil)))))))))))))), ?_⟩
  -- pick
  refine ⟨_, rfl, a, 8, rfl, hS, by decide, by decide, fun d H1 d0 d1 g1 => ?_⟩
  refine ⟨_, rfl, rfl, _, rfl, ite2 (fun e1 => iteT ?_) (fun e1 => ⟨_, rfl, rfl, _, rfl, ite2 (fun e2 => iteT ?_) (fun e2 => ⟨_, rfl, rfl, _, rfl, ite2 (fun e3 => ?_) (fun e3 => ?rest)⟩)⟩)⟩
  case rest =>
    have hd1 : ¬ (deep : Int) = 0 := fun c => e1 (decide_eq_true (congrArg V.int c))
    obtain ⟨m, rfl⟩ : ∃ m, deep = m + 1 := ⟨deep - 1, by omega⟩
    have em : ((m + 1 : Nat) : Int) - 1 = (m : Int) := by omega
    refine ⟨_, rfl, _, _, rfl, rfl, _, rfl, ite2 (fun e4 => ?_) (fun e4 => ?_)⟩
    · -- a maybe, a many
      refine ⟨_, rfl, (by show 2 ≤ sizeLine; decide), fun l hl => ⟨a, l, _, rfl, g1.st.same (same_upd hl), SqL.of upd_same, (g1.st.ne hl).symm, by decide, by decide, fun v H2 hv g2 => ?_⟩⟩
      refine ⟨_, rfl, _, rfl, _, rfl, _, rfl, _, _, rfl, rfl, a, z, room, m, none, congrArg (fun i => [V.ref a, V.str z, V.int room, V.int i, V.str sNo]) em, g2.st, hz, hroom, by omega, fun v' H3 e' g3 r3 d3 => ⟨(by show 2 ≤ sizeLine; decide), fun p hp => ?_⟩⟩
      have G : Go a H (upd H3 p (.tup [v, v'])) := g1.trans ((Go.new g1.st hl).trans (g2.trans (g3.trans (Go.new g3.st hp))))
      have hP : v = .str sMaybe ∨ v = .str sMany := by simpa using hv
      have pbm : pb m + 1 ≤ pb (m + 1) := by rw [pb]; omega
      have R : Rep (upd H3 p (.tup [v, v'])) v' e'.toD := r3.pers (Pers.new hp)
      rcases hP with rfl | rfl
      · refine q _ _ (.maybe e') G ?_ ⟨by rw [E.ok]; exact d3.ok, by rw [E.places]; exact d3.pl, by rw [E.depth]; exact Nat.succ_le_succ d3.dp, by rw [E.parts]; exact Nat.le_trans (Nat.succ_le_succ d3.pt) pbm, .inl rfl⟩
        rw [E.toD]
        exact Rep.tup2 upd_same (by show 2 ≤ 100000; decide) (.cons (.str (by rw [lM]; decide)) (.cons R .nil))
      · refine q _ _ (.many e') G ?_ ⟨by rw [E.ok]; exact d3.ok, by rw [E.places]; exact d3.pl, by rw [E.depth]; exact Nat.succ_le_succ d3.dp, by rw [E.parts]; exact Nat.le_trans (Nat.succ_le_succ d3.pt) pbm, .inl rfl⟩
        rw [E.toD]
        exact Rep.tup2 upd_same (by show 2 ≤ 100000; decide) (.cons (.str (by rw [lN]; decide)) (.cons R .nil))
    · -- a row
      refine ⟨_, rfl, (by show 2 ≤ sizeLine; decide), fun l hl => ⟨a, l, _, rfl, g1.st.same (same_upd hl), SqL.of upd_same, (g1.st.ne hl).symm, by decide, by decide, fun v H2 hv g2 => ?_⟩⟩
      have G2 : Go a H H2 := g1.trans ((Go.new g1.st hl).trans g2)
      obtain ⟨wb, rfl⟩ : ∃ wb : Bool, v = .str (outS (some wb)) := by
        have hP : v = .str sJoin ∨ v = .str sOr := by simpa using hv
        rcases hP with rfl | rfl
        · exact ⟨false, rfl⟩
        · exact ⟨true, rfl⟩
      refine ⟨fun σ' H' => ∃ wb : Bool, some wb ≠ outer ∧ σ' = [some (.ref a), some (.str z), some (.int room), some (.int ((m + 1 : Nat) : Int)), some (.str (outS outer)), some (.int d), some (.str (outS (some wb))), none, none, none, none, none] ∧ H' = H2, ?_, ?_⟩
      · refine ⟨_, rfl, _, rfl, rfl, _, rfl, ite2 (fun e5 => ?_) (fun e5 => ?_)⟩
        · have e6 := outS_inj (vstr e5)
          subst e6
          refine ⟨_, rfl, rfl, _, rfl, ite2 (fun e7 => ?_) (fun e7 => ?_)⟩
          · have e8 : outS (some wb) = outS (some false) := vstr e7
            have e9 := outS_inj e8
            refine ⟨true, fun c => ?_, rfl, rfl⟩
            rw [← c] at e9
            cases e9
          · have e8 : ¬ outS (some wb) = outS (some false) := vstrN e7
            refine ⟨false, fun c => ?_, rfl, rfl⟩
            rw [c] at e8
            exact e8 rfl
        · exact ⟨wb, fun c => vstrN e5 (congrArg outS c), rfl, rfl⟩
      · clear wb hv
        rintro σ' H' ⟨wb, hwo, rfl, rfl⟩
        refine ⟨_, rfl, a, 2, rfl, G2.st, by decide, by decide, fun d2 H3 d20 d21 g3 => ⟨_, _, rfl, rfl, _, rfl, (by show 0 ≤ sizeLine; decide), fun pl hpl => ?_⟩⟩
        have hpa : pl ≠ a := (g3.st.ne hpl).symm
        have G3 : Go a H (upd H3 pl (.lst [])) := G2.trans (g3.trans (Go.new g3.st hpl))
        have nH : H pl = none := by
          cases c : H pl with
          | none => rfl
          | some o =>
            have := (G2.trans g3).keep _ _ c hpa
            rw [hpl] at this
            cases this
        refine ⟨_, rfl, _, rfl, by omega, by omega, for_range (lo := 0) (n := (2 + d2).toNat) (fun i σ' H' => ∃ (left : Int) (xs : List V) (es : List E) (kk sh : Option V), σ' = [some (.ref a), some (.str z), some (.int room), some (.int ((m + 1 : Nat) : Int)), some (.str (outS outer)), some (.int d), some (.str (outS (some wb))), some (.int (2 + d2)), some (.int left), some (.ref pl), kk, sh] ∧ Go a H H' ∧ H' pl = some (.lst xs) ∧ Two (Rep H') xs (es.map E.toD) ∧ es.length = i ∧ 0 ≤ left ∧ left + ((es.map E.places).sum : Nat) ≤ room ∧ ∀ e ∈ es, Drawn e room m (some wb)) ?_ ?_ ?_⟩
        · exact ⟨room, [], [], none, none, rfl, G3, upd_same, .nil, rfl, by omega, by show (room : Int) + ((0 : Nat) : Int) ≤ room; omega, fun e he => by cases he⟩
        · rintro i σ' H4 hi ⟨left, xs, es, kk, sh, rfl, G4, h4, hX, hle, hl0, hls, hdr⟩
          refine ⟨fun σ' H' => ∃ share : Int, 0 ≤ share ∧ share ≤ left ∧ σ' = [some (.ref a), some (.str z), some (.int room), some (.int ((m + 1 : Nat) : Int)), some (.str (outS outer)), some (.int d), some (.str (outS (some wb))), some (.int (2 + d2)), some (.int left), some (.ref pl), some (.int (0 + i)), some (.int share)] ∧ Go a H4 H', ?_, ?_⟩
          · refine ⟨_, rfl, _, _, rfl, rfl, _, rfl, rfl, _, rfl, ite2 (fun e5 => ?_) (fun e5 => ?_)⟩
            · exact ⟨_, rfl, left, hl0, Int.le_refl _, rfl, Go.refl G4.st⟩
            · exact ⟨_, rfl, _, rfl, _, _, rfl, rfl, a, left + 1, rfl, G4.st, by omega, by omega, fun d5 H5 d50 d51 g5 => ⟨d5, d50, by omega, rfl, g5⟩⟩
          · rintro σ' H5 ⟨share, hs0, hs1, rfl, g5⟩
            have h5 := g5.keep _ _ h4 hpa
            refine ⟨_, rfl, _, rfl, _, _, rfl, rfl, _, rfl, .inl ⟨rfl, _, SqL.of h5⟩, _, rfl, _, rfl, _, rfl, _, rfl, _, _, rfl, rfl, _, rfl, a, z, share.toNat, m, some wb, ?_, g5.st, hz, by omega, by omega, fun v6 H6 e6 g6 r6 dr6 => ?_⟩
            · have e1 : share = ((share.toNat : Nat) : Int) := by omega
              have e2 : ∀ i j i' j' : Int, i = i' → j = j' → ([V.ref a, V.str z, V.int i, V.int j, V.str (outS (some wb))] : List V) = [V.ref a, V.str z, V.int i', V.int j', V.str (outS (some wb))] := fun i j i' j' h h' => by rw [h, h']
              exact e2 _ _ _ _ e1 em
            · have h6 := g6.keep _ _ h5 hpa
              have hlx := hX.len
              rw [List.length_map] at hlx
              have P6 : Pers H4 (upd H6 pl (.lst (xs ++ [v6]))) := (g5.pers.trans g6.pers).trans (Pers.store h6)
              refine ⟨pl, xs, v6, rfl, rfl, h6, Nat.lt_of_le_of_lt (m := 100) (by omega) (by decide), ?_⟩
              refine ⟨left - share, _, es ++ [e6], _, _, rfl, ?_, upd_same, ?_, ?_, by omega, ?_, ?_⟩
              · exact (G4.trans (g5.trans g6)).loc nH
              · rw [List.map_append]
                exact (Rep.pers2 P6 hX).app (.cons (r6.pers (Pers.store h6)) .nil)
              · rw [List.length_append, hle]
                rfl
              · rw [List.map_append, List.sum_append]
                have := dr6.pl
                show left - share + (((es.map E.places).sum + (e6.places + 0) : Nat) : Int) ≤ room
                omega
              · intro e he
                rcases List.mem_append.mp he with he | he
                · exact hdr e he
                · rw [List.mem_singleton] at he
                  subst he
                  exact ⟨dr6.ok, by have := dr6.pl; omega, dr6.dp, dr6.pt, dr6.hd⟩
        · rintro σ' H4 ⟨left, xs, es, kk, sh, rfl, G4, h4, hX, hle, hl0, hls, hdr⟩
          refine ⟨_, rfl, _, rfl, pl, xs, rfl, .inl ⟨SqL.of h4, fun l hl => ⟨(by show 2 ≤ sizeLine; decide), fun p hp => ?_⟩⟩⟩
          have G : Go a H (upd (upd H4 l (.tup xs)) p (.tup [.str (outS (some wb)), .ref l])) := G4.trans ((Go.new G4.st hl).trans (Go.new (G4.st.same (same_upd hl)) hp))
          have hln : l ≠ p := fun c => by
            rw [← c, upd_same] at hp
            cases hp
          have hlx := hX.len
          rw [List.length_map] at hlx
          have R : Rep (upd (upd H4 l (.tup xs)) p (.tup [.str (outS (some wb)), .ref l])) (.ref l) (.tup (es.map E.toD)) := Rep.tup2 (by rw [upd_ne hln]; exact upd_same) (by omega) (Rep.pers2 ((Pers.new hl).trans (Pers.new hp)) hX)
          have hsum : (es.map E.places).sum ≤ room := by omega
          have hdep : E.depth.depths es ≤ m := depths_le fun e he => (hdr e he).dp
          have hpar : (es.map E.parts).sum + 1 ≤ pb (m + 1) := by
            have := sum_le_mul (es := es) (f := E.parts) (n := pb m) fun e he => (hdr e he).pt
            have l3 : es.length ≤ 3 := by omega
            have := Nat.mul_le_mul_right (pb m) l3
            rw [pb]
            omega
          have hok : es.all E.ok = true := List.all_eq_true.mpr fun e he => (hdr e he).ok
          have h2 : decide (2 ≤ es.length) = true := decide_eq_true (by omega)
          cases wb with
          | false =>
            refine q _ _ (.join es) G ?_ ⟨?_, by rw [E.places, placess_eq]; exact hsum, by rw [E.depth]; exact Nat.succ_le_succ hdep, by rw [E.parts, partss_eq]; exact hpar, .inr hwo⟩
            · rw [E.toD, toDs_eq]
              exact Rep.tup2 upd_same (by show 2 ≤ 100000; decide) (.cons (.str (by show sJoin.length ≤ 1000; rw [lJ]; decide)) (.cons R .nil))
            · have : es.any isJoin = false := any_no fun e he => by
                have := (hdr e he).hd
                cases e <;> first | rfl | exact absurd (this.resolve_left (by intro c; cases c)) (fun c => c rfl)
              rw [E.ok, oks_eq, h2, hok, this]
              rfl
          | true =>
            refine q _ _ (.alt es) G ?_ ⟨?_, by rw [E.places, placess_eq]; exact hsum, by rw [E.depth]; exact Nat.succ_le_succ hdep, by rw [E.parts, partss_eq]; exact hpar, .inr hwo⟩
            · rw [E.toD, toDs_eq]
              exact Rep.tup2 upd_same (by show 2 ≤ 100000; decide) (.cons (.str (by show sOr.length ≤ 1000; rw [lO]; decide)) (.cons R .nil))
            · have : es.any isAlt = false := any_no fun e he => by
                have := (hdr e he).hd
                cases e <;> first | rfl | exact absurd (this.resolve_left (by intro c; cases c)) (fun c => c rfl)
              rw [E.ok, oks_eq, h2, hok, this]
              rfl
  all_goals
    refine ⟨_, rfl, _, _, rfl, rfl, _, rfl, ite2 (fun e5 => ?_) (fun e5 => ?_)⟩
    · have hr0 : 0 < room := by
        have : (0 : Int) < (room : Int) := of_decide_eq_true e5
        omega
      refine ⟨_, rfl, a, 8, rfl, g1.st, by decide, by decide, fun d2 H2 d20 d21 g2 => ⟨_, _, rfl, rfl, _, rfl, ite2 (fun e6 => ?_) (fun e6 => ?_)⟩⟩
      · refine ⟨_, rfl, _, rfl, z, rfl, Nat.le_trans hz.2.1 (by decide), fun l hl => ⟨a, l, signsV z, rfl, g2.st.same (same_upd hl), SqL.of upd_same, (g2.st.ne hl).symm, ?_, ?_, fun v H3 hv g3 => ?_⟩⟩
        · rw [signs_len]
          exact hz.1
        · rw [signs_len]
          exact Nat.lt_of_le_of_lt hz.2.1 (by decide)
        · obtain ⟨c, hc, rfl⟩ := mem_signs hv
          exact q _ _ (.sym c) (g1.trans (g2.trans ((Go.new g2.st hl).trans g3))) (rep_sym c) (drawn_sym (hz.2.2 c hc) hr0)
      · exact q _ _ .eps (g1.trans g2) rep_eps drawn_eps
    · exact iteF (q _ _ .eps g1 rep_eps drawn_eps)
end
end My
namespace My
open PySem PySem.Spec PyProof.Rows L2
def spExpr : Sp := fun vs H Q _ => ∃ (a : Addr) (most : Nat), vs = [.ref a, .int most] ∧ Strm H a ∧ 1 ≤ most ∧ most ≤ 50 ∧ ∀ v H' e, Go a H H' → Rep H' v e.toD → Drawn e most 4 none → Q v H'
def spEqual (n : Nat) : Sp := fun vs H Q _ => ∃ (x y : V) (j : J) (k : Nat), vs = [x, y] ∧ k < n ∧ RepJ H x j k ∧ RepJ H y j k ∧ ∀ H', Same H H' → Q (.bl true) H'
def spInside : Sp := fun vs H Q _ => ∃ (v : V) (e : E), vs = [v] ∧ e.ok = true ∧ Rep H v e.toD ∧ ∀ p xs H', Same H H' → H' p = some (.tup xs) → xs.length ≤ 100000 → Two (Rep H') xs (e.kids.map E.toD) → Q (.ref p) H'
def spCount (n : Nat) : Sp := fun vs H Q _ => ∃ (v : V) (e : E), vs = [v] ∧ e.ok = true ∧ e.depth < n ∧ Rep H v e.toD ∧ ∀ H', Same H H' → Q (.int e.parts) H'
section
variable {P : Program} {w : World} {K : PySem.W.Frag} {mg : Str → Option Value} {base : Heap} {a_BOUNDS a_LONG_BOUNDS : Addr} {tL tM : Tok}
theorem Drawn.mono {e : E} {r r' d d' : Nat} {o : Option Bool} (h : Drawn e r d o) (hr : r ≤ r') (hd : d ≤ d') : Drawn e r' d' none where
  ok := h.ok
  pl := Nat.le_trans h.pl hr
  dp := Nat.le_trans h.dp hd
  pt := Nat.le_trans h.pt (pb_mono hd)
  hd := by
    cases e with
    | join es => exact .inr fun c => by cases c
    | alt es => exact .inr fun c => by cases c
    | _ => exact .inl rfl
theorem lets_by {z : Str} (h : (decide (0 < z.length) && decide (z.length ≤ 100) && z.cps.toList.all fun c => decide (97 ≤ c) && decide (c ≤ 100)) = true) : Lets z := by
  simp only [Bool.and_eq_true, decide_eq_true_eq, List.all_eq_true] at h
  exact ⟨h.1.1, h.1.2, h.2⟩
abbrev N__law_expression : List Str := ["stream", "most", "letters"]
theorem sc__law_expression : FnScope ["stream", "most", "letters"] ["stream", "most"] (defScope s__law_expression) := ⟨rfl, rfl, rfl, by decide +kernel, rfl, by decide +kernel, by decide +kernel⟩
theorem ok_expr {f : Addr} {fd : FuncData} (B : Bt K mg a_BOUNDS a_LONG_BOUNDS tL tM) (Dd : Df K mg "_law_expression" s__law_expression ["stream", "most"] f fd) (G_law_next : Cl P w K mg base 1 "_law_next" ["stream", "many"] spNext) (G_law_pick : Cl P w K mg base 2 "_law_pick" ["stream", "rows"] (spPick K))
    (G_law_grown : Cl P w K mg base 7 "_law_grown" ["stream", "letters", "room", "deep", "outer"] (spGrown 5)) : FnOk P w K mg base CX0 8 f fd ["stream", "most"] spExpr := by
  refine Dd.F.ok sc__law_expression (fun vs H Q Ex h => ?_) (fun cdv A outer s H vs Q Ex hr h => ?_)
  · obtain ⟨a, most, rfl, _⟩ := h
    rfl
  obtain ⟨a, most, rfl, hS, hm1, hm2, q⟩ := h
  refine ⟨_, (pss_cons (ps_set (i := 2) sc__law_expression.nd rfl (Or.inl rfl) (pe_cl G_law_pick (hr.mono (by omega)) rfl (pa_cons (pv 0) (pa_cons (pe_lst (pa_cons pe_str (pa_cons pe_str (pa_cons pe_str (pa_cons pe_str (pa_cons pe_str (pa_cons pe_str pa_nil))))))) pa_nil))))
    (pss_one (ps_ret (pe_cl G_law_grown (hr.mono (by omega)) rfl (pa_cons (pv 0) (pa_cons (pv 2) (pa_cons (pe_op op_add pe_int (pe_cl G_law_next (hr.mono (by omega)) rfl (pa_cons (pv 0) (pa_cons (pv 1) pa_nil)))) (pa_cons (pe_op op_add pe_int (pe_cl G_law_next (hr.mono (by omega)) rfl (pa_cons (pv 0) (pa_cons pe_int pa_nil)))) (pa_cons pe_str pa_nil))))))))), ?_⟩
  refine ⟨_, rfl, (by show 6 ≤ sizeLine; decide), fun l hl => ⟨a, l, _, rfl, hS.same (same_upd hl), SqL.of upd_same, (hS.ne hl).symm, by decide, by decide, fun v H1 hv g1 => ?_⟩⟩
  have G1 : Go a H H1 := (Go.new hS hl).trans g1
  obtain ⟨z, rfl, hz⟩ : ∃ z, v = .str z ∧ Lets z := by
    simp only [List.mem_cons, List.not_mem_nil, or_false] at hv
    rcases hv with rfl | rfl | rfl | rfl | rfl | rfl <;> exact ⟨_, rfl, lets_by (by decide +kernel)⟩
  refine ⟨_, rfl, _, rfl, _, rfl, _, rfl, a, most, rfl, G1.st, by omega, by omega, fun d H2 d0 d1 g2 => ⟨_, _, rfl, rfl, _, rfl, a, 4, rfl, g2.st, by decide, by decide, fun d' H3 d0' d1' g3 => ⟨_, _, rfl, rfl, a, z, (1 + d).toNat, (1 + d').toNat, none, ?_, g3.st, hz, by omega, by omega, fun v' H4 e g4 r4 dr => ?_⟩⟩⟩
  · have e1 : 1 + d = (((1 + d).toNat : Nat) : Int) := by omega
    have e2 : 1 + d' = (((1 + d').toNat : Nat) : Int) := by omega
    have e3 : ∀ i j i' j' : Int, i = i' → j = j' → ([V.ref a, V.str z, V.int i, V.int j, V.str sNo] : List V) = [V.ref a, V.str z, V.int i', V.int j', V.str sNo] := fun i j i' j' h h' => by rw [h, h']
    exact e3 _ _ _ _ e1 e2
  · exact q v' H4 e (G1.trans (g2.trans (g3.trans g4))) r4 (dr.mono (by omega) (by omega))
theorem sum_cast (es : List E) (f : E → Nat) : (es.map fun k => ((f k : Nat) : Int)).sum = (((es.map f).sum : Nat) : Int) := by
  induction es with
  | nil => rfl
  | cons e es ih =>
    rw [List.map_cons, List.sum_cons, List.map_cons, List.sum_cons, ih]
    omega
abbrev N__law_inside : List Str := ["expression"]
theorem sc__law_inside : FnScope ["expression"] ["expression"] (defScope s__law_inside) := ⟨rfl, rfl, rfl, by decide +kernel, rfl, by decide +kernel, by decide +kernel⟩
theorem ok_inside {f : Addr} {fd : FuncData} (B : Bt K mg a_BOUNDS a_LONG_BOUNDS tL tM) (Dd : Df K mg "_law_inside" s__law_inside ["expression"] f fd) : FnOk P w K mg base CX0 1 f fd ["expression"] spInside := by
  refine Dd.F.ok sc__law_inside (fun vs H Q Ex h => ?_) (fun cdv A outer s H vs Q Ex hr h => ?_)
  · obtain ⟨v, e, rfl, _⟩ := h
    rfl
  obtain ⟨v, e, rfl, hok, hR, q⟩ := h
  refine ⟨_, (pss_cons (ps_if (pt_val (pe_callB call_isi rfl B.b_isinstance boot_isinstance (pa_cons (pv 0) (pa_cons (pe_bltn (v := .ty "str") rfl B.b_str boot_str rfl) pa_nil)))) (pss_one (ps_ret (pe_tup pa_nil))) pss_nil)
    (pss_one (ps_ret (pe_ifExp (pt_cmpR op_in_seq (pe_ix (r := rIxT K) ix_tup (pv 0) pe_int (fun _ _ => rfl)) (pe_lst (pa_cons pe_str (pa_cons pe_str pa_nil))) rfl) (pe_tup (pa_cons (pe_ix (r := rIxT K) ix_tup (pv 0) pe_int (fun _ _ => rfl)) pa_nil)) (pe_ix (r := rIxT K) ix_tup (pv 0) pe_int (fun _ _ => rfl)))))), ?_⟩
  obtain ⟨t, ht, k1, _⟩ := hR.ty (K := K)
  refine ⟨_, rfl, _, _, _, _, _, rfl, .ty _, ht, k1, _, rfl, ite2 (fun e1 => ?_) (fun e1 => ?_)⟩
  · refine ⟨(by decide), fun p hp => ?_⟩
    have : e.kids = [] := by
      cases e <;> first | rfl | (rw [E.toD] at e1; exact absurd e1 (by intro c; cases c))
    refine q p [] _ (same_upd hp) upd_same (by decide) ?_
    rw [this]
    exact .nil
  · obtain ⟨w, y, hc, hk⟩ : ∃ w y, e.toD = .tup [.str w, y] ∧ ((inV (V.str w) [V.str sMaybe, V.str sMany] = true ∧ e.kids.map E.toD = [y]) ∨ (inV (V.str w) [V.str sMaybe, V.str sMany] = false ∧ y = .tup (e.kids.map E.toD))) := by
      cases e with
      | eps => exact absurd (by rw [E.toD]; rfl) e1
      | sym c => exact absurd (by rw [E.toD]; rfl) e1
      | maybe k => exact ⟨sMaybe, k.toD, by rw [E.toD], .inl ⟨by decide +kernel, rfl⟩⟩
      | many k => exact ⟨sMany, k.toD, by rw [E.toD], .inl ⟨by decide +kernel, rfl⟩⟩
      | join es => exact ⟨sJoin, .tup (es.map E.toD), by rw [E.toD, toDs_eq], .inr ⟨by decide +kernel, rfl⟩⟩
      | alt es => exact ⟨sOr, .tup (es.map E.toD), by rw [E.toD, toDs_eq], .inr ⟨by decide +kernel, rfl⟩⟩
    rw [hc] at hR
    obtain ⟨p, xs, rfl, hp, hz, hX⟩ := hR.untup
    match xs, hX with
    | [_, x], .cons (.str _) (.cons hx .nil) =>
    refine ⟨_, rfl, p, _, 0, _, rfl, rfl, SqT.of hp, at_zero, (by show 2 ≤ sizeLine; decide), fun l hl => ⟨l, _, rfl, .inl (SqL.of upd_same), rfl, rfl, _, rfl, ?_⟩⟩
    have hp2 : (upd H l (.lst [V.str sMaybe, V.str sMany])) p = some (.tup [.str w, x]) := by rw [upd_ne (ne_of_none hp hl)]; exact hp
    refine ite2 (fun e2 => ?_) (fun e2 => ?_)
    · have h1 := hk.resolve_right fun c => by
        have e3 : inV (V.str w) [V.str sMaybe, V.str sMany] = true := e2
        rw [c.1] at e3
        cases e3
      refine ⟨_, rfl, p, _, 1, x, rfl, rfl, SqT.of hp2, at_one, (by show 1 ≤ sizeLine; decide), fun p3 hp3 => ?_⟩
      refine q p3 [x] _ ((same_upd hl).trans (same_upd hp3)) upd_same (by show 1 ≤ 100000; decide) ?_
      rw [h1.2]
      exact .cons (hx.pers ((Pers.new hl).trans (Pers.new hp3))) .nil
    · have h1 := hk.resolve_left fun c => e2 c.1
      refine ⟨_, rfl, p, _, 1, x, rfl, rfl, SqT.of hp2, at_one, ?_⟩
      rw [h1.2] at hx
      obtain ⟨p2, xs, rfl, h2, hz, hX⟩ := hx.untup
      exact q p2 xs _ (same_upd hl) (by rw [upd_ne (ne_of_none h2 hl)]; exact h2) hz (Rep.pers2 (Pers.new hl) hX)
abbrev N__law_count : List Str := ["expression", "part"]
theorem sc__law_count : FnScope ["expression", "part"] ["expression"] (defScope s__law_count) := ⟨rfl, rfl, rfl, by decide +kernel, rfl, by decide +kernel, by decide +kernel⟩
theorem ok_count_step {f : Addr} {fd : FuncData} (B : Bt K mg a_BOUNDS a_LONG_BOUNDS tL tM) (Dd : Df K mg "_law_count" s__law_count ["expression"] f fd) (G_law_inside : Cl P w K mg base 1 "_law_inside" ["expression"] spInside) (n : Nat)
    (G_law_count : Cl P w K mg base (n + 1) "_law_count" ["expression"] (spCount n)) : FnOk P w K mg base CX0 (n + 2) f fd ["expression"] (spCount (n + 1)) := by
  refine Dd.F.ok sc__law_count (fun vs H Q Ex h => ?_) (fun cdv A outer s H vs Q Ex hr h => ?_)
  · obtain ⟨v, e, rfl, _⟩ := h
    rfl
  obtain ⟨v, e, rfl, hok, hd, hR, q⟩ := h
  refine ⟨_, (pss_one (ps_ret (pe_op op_add pe_int (pe_callB (cr_sum rfl) rfl B.b_sum boot_sum (pa_cons (pe_lc (own := [("part", 1)]) (g := gName 1) (tt := tYes) rfl sc__law_count.nd (pi_tup (pe_cl G_law_inside (hr.mono (by omega)) rfl (pa_cons (pv 0) pa_nil))) (blkOk_by (N := N__law_count) (sc := defScope s__law_count) (by decide +kernel)) (fun _ _ _ _ _ => pg_name (i := 1) sc__law_count.nd rfl (Or.inl rfl)) (fun _ _ _ _ _ => pts_nil) (fun _ _ _ _ _ => (pe_cl G_law_count (hr.mono (by omega)) rfl (pa_cons (pv 1) pa_nil)))) pa_nil))))), ?_⟩
  refine ⟨_, rfl, v, e, rfl, hok, hR, fun p xs H1 s1 hp hz hX => ⟨p, rfl, ⟨_, SqT.of hp⟩, fun L hL => ?_⟩⟩
  have hl := hX.len
  rw [List.length_map] at hl
  refine lc_tup (K := K) (a := p) (xs := xs) (fun i H2 => Same H1 H2 ∧ H2 L = some (.lst (((e.kids.take i).map fun k => (k.parts : Int)).map V.int))) ⟨same_upd hL, upd_same⟩ (fun i H2 _ h => SqT.of (h.1 _ _ hp)) (fun i x H2 hx h => ?_) (fun H2 h => ?_)
  · obtain ⟨d, hd1, hxd⟩ := hX.get hx
    rw [List.getElem?_map] at hd1
    obtain ⟨k, hk, rfl⟩ := Option.map_eq_some_iff.mp hd1
    have hmem := List.mem_of_getElem? hk
    refine ⟨rfl, tyes ⟨_, rfl, x, k, rfl, ok_kids hok k hmem, ?_, hxd.pers (Pers.same h.1), fun H3 s3 => ⟨_, s3 _ _ h.2, ?_, ?_, ?_⟩⟩⟩
    · have := depth_kids e k hmem
      omega
    · have : i < xs.length := (List.getElem?_eq_some_iff.mp hx).1
      rw [List.length_map, List.length_map, List.length_take]
      exact Nat.lt_of_le_of_lt (m := 100000) (by omega) (by decide)
    · exact fun b o e => by rw [upd_ne (ne_of_none e hL)]; exact s3 _ _ (h.1 b o e)
    · rw [upd_same, List.take_add_one, hk, List.map_append, List.map_append]
      rfl
  · obtain ⟨h1, h2⟩ := h
    rw [hl, List.take_length] at h2
    refine ⟨L, _, rfl, SqL.of h2, _, _, rfl, rfl, ?_⟩
    have e1 : (1 : Int) + (e.kids.map fun k => (k.parts : Int)).sum = (e.parts : Int) := by
      rw [parts_kids, sum_cast]
      omega
    have r := q _ (s1.trans h1)
    rw [← e1] at r
    exact r
/-! ### the law's own comparison, of equal data -/
def SeqV (K : PySem.W.Frag) (H : Hp) (p : Addr) (xs : List V) : Prop := SqL K H p xs ∨ SqT K H p xs
theorem SeqV.len {K : PySem.W.Frag} {H : Hp} {p : Addr} {xs : List V} (h : SeqV K H p xs) {n : Nat} (e : n = xs.length) : LenV K (.ref p) H n := by
  rcases h with h | h
  · exact .inl ⟨xs, h, e⟩
  · exact .inr ⟨xs, h, e⟩
theorem SeqV.ix {K : PySem.W.Frag} {H : Hp} {p : Addr} {xs : List V} (h : SeqV K H p xs) {i : Int} {v : V} {Q : VK} (hi : atI xs i = some v) (q : Q v H) : rIx K (.ref p) (.int i) H Q := by
  rcases h with h | h
  · exact .inl ⟨p, xs, i, v, rfl, rfl, h, hi, q⟩
  · exact .inr (.inl ⟨p, xs, i, v, rfl, rfl, h, hi, q⟩)
theorem SeqV.same {K : PySem.W.Frag} {H H' : Hp} {p : Addr} {xs : List V} (s : Same H H') (h : SeqV K H p xs) : SeqV K H' p xs := by
  rcases h with h | h
  · exact .inl (s.seq h)
  · rcases h with (h | ⟨o, h⟩) | h
    · exact .inr (.inl (.inl (s _ _ h)))
    · exact .inr (.inl (.inr ⟨o, s _ _ h⟩))
    · exact .inr (.inr h)
theorem RepJ.both {K : PySem.W.Frag} {H : Hp} {x y : V} {j : J} {k : Nat} (hx : RepJ H x j k) (hy : RepJ H y j k) : (x = .non ∧ y = .non) ∨ (∃ b, x = .bl b ∧ y = .bl b) ∨ (∃ i, x = .int i ∧ y = .int i) ∨ (∃ z, x = .str z ∧ y = .str z) ∨
    ∃ (isT : Bool) (p q : Addr) (xs ys : List V) (js : List J) (k' : Nat), k = k' + 1 ∧ x = .ref p ∧ y = .ref q ∧ TyX K H x (.type (if isT then "tuple" else "list")) ∧ TyX K H y (.type (if isT then "tuple" else "list")) ∧ SeqV K H p xs ∧ SeqV K H q ys ∧ xs.length ≤ 100000 ∧ xs.length = js.length ∧ ys.length = js.length ∧
      (∀ (i : Nat) (x : V) (j : J), xs[i]? = some x → js[i]? = some j → RepJ H x j k') ∧ (∀ (i : Nat) (x : V) (j : J), ys[i]? = some x → js[i]? = some j → RepJ H x j k') := by
  cases hx with
  | non => cases hy; exact .inl ⟨rfl, rfl⟩
  | bl b => cases hy; exact .inr (.inl ⟨b, rfl, rfl⟩)
  | int i => cases hy; exact .inr (.inr (.inl ⟨i, rfl, rfl⟩))
  | str z => cases hy; exact .inr (.inr (.inr (.inl ⟨z, rfl, rfl⟩)))
  | @tup n p xs js h z l r =>
    cases hy with
    | @tup _ q ys _ h' z' l' r' => exact .inr (.inr (.inr (.inr ⟨true, p, q, xs, ys, js, n, rfl, rfl, rfl, .base (.tup h), .base (.tup h'), .inr (SqT.of h), .inr (SqT.of h'), z, l, l', r, r'⟩)))
  | @lst n p xs js h z l r =>
    cases hy with
    | @lst _ q ys _ h' z' l' r' => exact .inr (.inr (.inr (.inr ⟨false, p, q, xs, ys, js, n, rfl, rfl, rfl, .base (.lst h), .base (.lst h'), .inl (SqL.of h), .inl (SqL.of h'), z, l, l', r, r'⟩)))
def spIsInt : Sp := fun vs H Q _ => ∃ i : Int, vs = [.int i] ∧ Q (.bl true) H
abbrev N__law_is_integer : List Str := ["actual"]
theorem sc__law_is_integer : FnScope ["actual"] ["actual"] (defScope s__law_is_integer) := ⟨rfl, rfl, rfl, by decide +kernel, rfl, by decide +kernel, by decide +kernel⟩
theorem ok_isint {f : Addr} {fd : FuncData} (B : Bt K mg a_BOUNDS a_LONG_BOUNDS tL tM) (Dd : Df K mg "_law_is_integer" s__law_is_integer ["actual"] f fd) : FnOk P w K mg base CX0 1 f fd ["actual"] spIsInt := by
  refine Dd.F.ok sc__law_is_integer (fun vs H Q Ex h => ?_) (fun cdv A outer s H vs Q Ex hr h => ?_)
  · obtain ⟨i, rfl, _⟩ := h
    rfl
  obtain ⟨i, rfl, q⟩ := h
  refine ⟨_, (pss_one (ps_ret (pe_and (pe_callB call_isi rfl B.b_isinstance boot_isinstance (pa_cons (pv 0) (pa_cons (pe_bltn (v := .ty "int") rfl B.b_int boot_int rfl) pa_nil))) (pe_one (pe_not (pe_callB call_isi rfl B.b_isinstance boot_isinstance (pa_cons (pv 0) (pa_cons (pe_bltn (v := .ty "bool") rfl B.b_bool boot_bool rfl) pa_nil)))))))), ?_⟩
  have T : TyX K H (.int i) (.type "int") := .base (.int i)
  exact ⟨_, rfl, _, _, _, _, _, rfl, .ty _, T, kit_ty (r := true) (by decide +kernel), _, rfl, iteT ⟨_, rfl, _, _, _, _, _, rfl, .ty _, T, kit_ty (r := false) (by decide +kernel), _, rfl, q⟩⟩
abbrev N__law_equal : List Str := ["actual", "due", "at"]
theorem sc__law_equal : FnScope ["actual", "due", "at"] ["actual", "due"] (defScope s__law_equal) := ⟨rfl, rfl, rfl, by decide +kernel, rfl, by decide +kernel, by decide +kernel⟩
theorem ok_equal_step {f : Addr} {fd : FuncData} (B : Bt K mg a_BOUNDS a_LONG_BOUNDS tL tM) (Dd : Df K mg "_law_equal" s__law_equal ["actual", "due"] f fd) (G_law_is_integer : Cl P w K mg base 1 "_law_is_integer" ["actual"] spIsInt) (n : Nat)
    (G_law_equal : Cl P w K mg base (n + 1) "_law_equal" ["actual", "due"] (spEqual n)) : FnOk P w K mg base CX0 (n + 2) f fd ["actual", "due"] (spEqual (n + 1)) := by
  refine Dd.F.ok sc__law_equal (fun vs H Q Ex h => ?_) (fun cdv A outer s H vs Q Ex hr h => ?_)
  · obtain ⟨x, y, j, k, rfl, _⟩ := h
    rfl
  obtain ⟨x, y, j, k, rfl, hk, hx, hy, q⟩ := h
  refine ⟨_, (pss_cons (ps_if (pt_cmpR op_isN (pv 1) pe_non (nomark _)) (pss_one (ps_ret (pe_cmpR op_isN (pv 0) pe_non (nomark _)))) pss_nil)
    (pss_cons (ps_if (pt_val (pe_callB call_isi rfl B.b_isinstance boot_isinstance (pa_cons (pv 1) (pa_cons (pe_bltn (v := .ty "bool") rfl B.b_bool boot_bool rfl) pa_nil)))) (pss_one (ps_ret (pe_and (pe_callB call_isi rfl B.b_isinstance boot_isinstance (pa_cons (pv 0) (pa_cons (pe_bltn (v := .ty "bool") rfl B.b_bool boot_bool rfl) pa_nil))) (pe_one (pe_cmpR op_eq (pv 0) (pv 1) (nomark _)))))) pss_nil)
    (pss_cons (ps_if (pt_val (pe_callB call_isi rfl B.b_isinstance boot_isinstance (pa_cons (pv 1) (pa_cons (pe_bltn (v := .ty "int") rfl B.b_int boot_int rfl) pa_nil)))) (pss_one (ps_ret (pe_and (pe_cl G_law_is_integer (hr.mono (by omega)) rfl (pa_cons (pv 0) pa_nil)) (pe_one (pe_cmpR op_eq (pv 0) (pv 1) (nomark _)))))) pss_nil)
    (pss_cons (ps_if (pt_val (pe_callB call_isi rfl B.b_isinstance boot_isinstance (pa_cons (pv 1) (pa_cons (pe_bltn (v := .ty "str") rfl B.b_str boot_str rfl) pa_nil)))) (pss_one (ps_ret (pe_and (pe_callB call_isi rfl B.b_isinstance boot_isinstance (pa_cons (pv 0) (pa_cons (pe_bltn (v := .ty "str") rfl B.b_str boot_str rfl) pa_nil))) (pe_one (pe_cmpR op_eq (pv 0) (pv 1) (nomark _)))))) pss_nil)
    (C8.pss_cut (ps_if (PW.pt (pw_and (pt_val (pe_callB call_isi rfl B.b_isinstance boot_isinstance (pa_cons (pv 1) (pa_cons (pe_bltn (v := .ty "tuple") rfl B.b_tuple boot_tuple rfl) pa_nil)))) (pw_and1 (pt_not (pt_val (pe_callB call_isi rfl B.b_isinstance boot_isinstance (pa_cons (pv 0) (pa_cons (pe_bltn (v := .ty "tuple") rfl B.b_tuple boot_tuple rfl) pa_nil)))))))) (pss_one (ps_ret pe_bl)) pss_nil)
    (C8.pss_cut (ps_if (PW.pt (pw_and (pt_val (pe_callB call_isi rfl B.b_isinstance boot_isinstance (pa_cons (pv 1) (pa_cons (pe_bltn (v := .ty "list") rfl B.b_list boot_list rfl) pa_nil)))) (pw_and1 (pt_not (pt_val (pe_callB call_isi rfl B.b_isinstance boot_isinstance (pa_cons (pv 0) (pa_cons (pe_bltn (v := .ty "list") rfl B.b_list boot_list rfl) pa_nil)))))))) (pss_one (ps_ret pe_bl)) pss_nil)
    (pss_cons (ps_if (pt_cmpR op_ne (pe_callB call_len rfl B.b_len boot_len (pa_cons (pv 0) pa_nil)) (pe_callB call_len rfl B.b_len boot_len (pa_cons (pv 1) pa_nil)) (nomark _)) (pss_one (ps_ret pe_bl)) pss_nil)
    (pss_one (ps_ret (pe_callB (cr_all rfl) rfl B.b_all boot_all (pa_cons (pe_lc (own := [("at", 2)]) (g := gName 2) (tt := tYes) rfl sc__law_equal.nd (pi_range1 rfl B.b_range (pa_cons (pe_callB call_len rfl B.b_len boot_len (pa_cons (pv 1) pa_nil)) pa_nil)) (blkOk_by (N := N__law_equal) (sc := defScope s__law_equal) (by decide +kernel)) (fun _ _ _ _ _ => pg_name (i := 2) sc__law_equal.nd rfl (Or.inl rfl)) (fun _ _ _ _ _ => pts_nil) (fun _ _ _ _ _ => (pe_cl G_law_equal (hr.mono (by omega)) rfl (pa_cons (pe_ix (r := rIx K) ix_seq (pv 0) (pv 2) (fun _ _ => rfl)) (pa_cons (pe_ix (r := rIx K) ix_seq (pv 1) (pv 2) (fun _ _ => rfl)) pa_nil))))) pa_nil))))))))))), ?_⟩
  rcases hx.both (K := K) hy with ⟨rfl, rfl⟩ | ⟨b, rfl, rfl⟩ | ⟨i, rfl, rfl⟩ | ⟨z, rfl, rfl⟩ | ⟨isT, p, p', xs, ys, js, k', rfl, rfl, rfl, T, T', S, S', hz, l, l', r, r'⟩
  · exact ⟨_, rfl, rfl, _, rfl, iteT ⟨_, rfl, rfl, q _ (Same.refl _)⟩⟩
  · have T : TyX K H (.bl b) (.type "bool") := .base (.bl b)
    refine ⟨_, rfl, rfl, _, rfl, iteF ⟨_, rfl, _, _, _, _, _, rfl, .ty _, T, kit_ty (r := true) (by decide +kernel), _, rfl, iteT ⟨_, rfl, _, _, _, _, _, rfl, .ty _, T, kit_ty (r := true) (by decide +kernel), _, rfl, iteT ⟨_, rfl, _, rfl, rfl, ?_⟩⟩⟩⟩
    rw [decide_eq_true rfl]
    exact q _ (Same.refl _)
  · have T : TyX K H (.int i) (.type "int") := .base (.int i)
    refine ⟨_, rfl, rfl, _, rfl, iteF ⟨_, rfl, _, _, _, _, _, rfl, .ty _, T, kit_ty (r := false) (by decide +kernel), _, rfl, iteF ⟨_, rfl, _, _, _, _, _, rfl, .ty _, T, kit_ty (r := true) (by decide +kernel), _, rfl, iteT ⟨_, rfl, i, rfl, _, rfl, iteT ⟨_, rfl, _, rfl, rfl, ?_⟩⟩⟩⟩⟩
    rw [decide_eq_true rfl]
    exact q _ (Same.refl _)
  · have T : TyX K H (.str z) (.type "str") := .base (.str z)
    refine ⟨_, rfl, rfl, _, rfl, iteF ⟨_, rfl, _, _, _, _, _, rfl, .ty _, T, kit_ty (r := false) (by decide +kernel), _, rfl, iteF ⟨_, rfl, _, _, _, _, _, rfl, .ty _, T, kit_ty (r := false) (by decide +kernel), _, rfl, iteF ⟨_, rfl, _, _, _, _, _, rfl, .ty _, T, kit_ty (r := true) (by decide +kernel), _, rfl,
      iteT ⟨_, rfl, _, _, _, _, _, rfl, .ty _, T, kit_ty (r := true) (by decide +kernel), _, rfl, iteT ⟨_, rfl, _, rfl, rfl, ?_⟩⟩⟩⟩⟩⟩
    rw [decide_eq_true rfl]
    exact q _ (Same.refl _)
  · have kb : PySem.W.kitOne K (.type (if isT then "tuple" else "list")) (.type "bool") = some false := by cases isT <;> exact kit_ty (r := false) (by decide +kernel)
    have ki : PySem.W.kitOne K (.type (if isT then "tuple" else "list")) (.type "int") = some false := by cases isT <;> exact kit_ty (r := false) (by decide +kernel)
    have ks : PySem.W.kitOne K (.type (if isT then "tuple" else "list")) (.type "str") = some false := by cases isT <;> exact kit_ty (r := false) (by decide +kernel)
    have kt : PySem.W.kitOne K (.type (if isT then "tuple" else "list")) (.type "tuple") = some isT := by
      cases isT
      · exact kit_ty (r := false) (by decide +kernel)
      · exact kit_ty (r := true) (by decide +kernel)
    have kl : PySem.W.kitOne K (.type (if isT then "tuple" else "list")) (.type "list") = some (!isT) := by
      cases isT
      · exact kit_ty (r := true) (by decide +kernel)
      · exact kit_ty (r := false) (by decide +kernel)
    refine ⟨_, rfl, rfl, _, rfl, iteF ⟨_, rfl, _, _, _, _, _, rfl, .ty _, T', kb, _, rfl, iteF ⟨_, rfl, _, _, _, _, _, rfl, .ty _, T', ki, _, rfl, iteF ⟨_, rfl, _, _, _, _, _, rfl, .ty _, T', ks, _, rfl, iteF ?_⟩⟩⟩⟩
    refine ⟨fun σ' H' => σ' = [some (.ref p), some (.ref p'), none] ∧ H = H', ?_, ?_⟩
    · refine ⟨_, rfl, _, _, _, _, _, rfl, .ty _, T', kt, _, rfl, ite2 (fun e => ?_) (fun e => iteF ⟨rfl, rfl⟩)⟩
      refine ⟨_, rfl, _, _, _, _, _, rfl, .ty _, T, kt, _, rfl, ?_⟩
      rw [e]
      exact iteF ⟨rfl, rfl⟩
    rintro σ' H' ⟨rfl, rfl⟩
    refine ⟨fun σ' H' => σ' = [some (.ref p), some (.ref p'), none] ∧ H = H', ?_, ?_⟩
    · refine ⟨_, rfl, _, _, _, _, _, rfl, .ty _, T', kl, _, rfl, ite2 (fun e => ?_) (fun e => iteF ⟨rfl, rfl⟩)⟩
      refine ⟨_, rfl, _, _, _, _, _, rfl, .ty _, T, kl, _, rfl, ?_⟩
      rw [e]
      exact iteF ⟨rfl, rfl⟩
    rintro σ' H' ⟨rfl, rfl⟩
    refine ⟨_, rfl, _, js.length, rfl, S.len l.symm, _, rfl, _, js.length, rfl, S'.len l'.symm, rfl, _, rfl, ?_⟩
    have e0 : (!decide (V.int ((js.length : Nat) : Int) = V.int ((js.length : Nat) : Int))) = false := by
      rw [decide_eq_true rfl]
      rfl
    refine ite2 (fun e => ?_) (fun _ => ?_)
    · have e1 : (!decide (V.int ((js.length : Nat) : Int) = V.int ((js.length : Nat) : Int))) = true := e
      rw [e0] at e1
      cases e1
    refine ⟨_, rfl, _, js.length, rfl, S'.len l'.symm, _, rfl, by omega, by omega, fun L hL => ?_⟩
    refine lc_range (lo := 0) (n := js.length) (fun i H2 => Same H H2 ∧ H2 L = some (.lst ((List.replicate i true).map V.bl))) ⟨same_upd hL, upd_same⟩ (fun i H2 hi h => ?_) (fun H2 h => ?_)
    · have ix : xs[i]? = some xs[i] := List.getElem?_eq_getElem (by omega)
      have iy : ys[i]? = some ys[i] := List.getElem?_eq_getElem (by omega)
      have ij : js[i]? = some js[i] := List.getElem?_eq_getElem hi
      refine ⟨rfl, tyes ⟨_, rfl, _, rfl, (S.same h.1).ix (at_of (j := i) (by omega) ix) ⟨_, rfl, _, rfl, (S'.same h.1).ix (at_of (j := i) (by omega) iy) ⟨_, _, _, _, rfl, by omega, (r i _ _ ix ij).same h.1, (r' i _ _ iy ij).same h.1, fun H3 s3 => ⟨_, s3 _ _ h.2, ?_, ?_, ?_⟩⟩⟩⟩⟩
      · rw [List.length_map, List.length_replicate]
        exact Nat.lt_of_le_of_lt (m := 100000) (by omega) (by decide)
      · exact fun b o e => by rw [upd_ne (ne_of_none e hL)]; exact s3 _ _ (h.1 b o e)
      · rw [upd_same, List.replicate_succ', List.map_append]
        rfl
    · obtain ⟨h1, h2⟩ := h
      refine ⟨L, _, rfl, SqL.of h2, ?_⟩
      have e1 : (List.replicate js.length true).all id = true := by
        rw [List.all_eq_true]
        intro x hx
        rw [(List.mem_replicate.mp hx).2]
        rfl
      rw [e1]
      exact q _ h1
/-! ### rows of "maybe" and "many" -/
def spChain : Sp := fun vs H Q _ => ∃ n : Nat, vs = [.int n] ∧ n ≤ 5000 ∧ ∀ (v : V) (H' : Hp) (e : E), Same H H' → Rep H' v e.toD → e.ok = true → e.places = 1 → e.depth = n → e.parts = n + 1 → Q v H'
abbrev N__law_chain : List Str := ["many", "found", "k"]
theorem sc__law_chain : FnScope ["many", "found", "k"] ["many"] (defScope s__law_chain) := ⟨rfl, rfl, rfl, by decide +kernel, rfl, by decide +kernel, by decide +kernel⟩
theorem ok_chain {f : Addr} {fd : FuncData} (B : Bt K mg a_BOUNDS a_LONG_BOUNDS tL tM) (Dd : Df K mg "_law_chain" s__law_chain ["many"] f fd) : FnOk P w K mg base CX0 1 f fd ["many"] spChain := by
  refine Dd.F.ok sc__law_chain (fun vs H Q Ex h => ?_) (fun cdv A outer s H vs Q Ex hr h => ?_)
  · obtain ⟨n, rfl, _⟩ := h
    rfl
  obtain ⟨n, rfl, hn, q⟩ := h
  refine ⟨_, (pss_cons (ps_set (i := 1) sc__law_chain.nd rfl (Or.inl rfl) pe_str)
    (pss_cons (ps_for PassesOwn.never rfl (pi_range1 rfl B.b_range (pa_cons (pv 0) pa_nil)) (pg_name (i := 2) sc__law_chain.nd rfl (Or.inl rfl)) (pss_one (ps_set (i := 1) sc__law_chain.nd rfl (Or.inl rfl) (pe_tup (pa_cons (pe_ifExp (pt_cmpR op_eq (pe_op op_sub (pv 2) (pe_op op_mul pe_int (pe_op op_fdiv (pv 2) pe_int))) pe_int (nomark _)) pe_str pe_str) (pa_cons (pv 1) pa_nil))))))
    (pss_one (ps_ret (pv 1))))), ?_⟩
  refine ⟨_, rfl, _, rfl, by omega, by omega, for_range (lo := 0) (n := n) (fun i σ' H' => ∃ (v : V) (e : E) (kk : Option V), σ' = [some (.int n), some v, kk] ∧ Same H H' ∧ Rep H' v e.toD ∧ e.ok = true ∧ e.places = 1 ∧ e.depth = i ∧ e.parts = i + 1) ?_ ?_ ?_⟩
  · refine ⟨_, .sym 97, none, rfl, Same.refl _, ?_, by decide, rfl, rfl, rfl⟩
    have e : (Str.ofString "a") = ⟨#[97]⟩ := by decide +kernel
    rw [e]
    exact rep_sym 97
  · rintro i σ' H1 hi ⟨v, e, kk, rfl, s1, hR, h1, h2, h3, h4⟩
    refine ⟨_, rfl, _, rfl, _, _, rfl, rfl, ⟨by decide, by decide⟩, _, _, rfl, rfl, .inl ⟨by decide, by decide⟩, _, _, rfl, rfl, rfl, _, rfl, ite2 (fun e5 => ?_) (fun e5 => ?_)⟩
    · refine ⟨_, rfl, (by show 2 ≤ sizeLine; decide), fun p hp => ⟨_, .maybe e, _, rfl, s1.trans (same_upd hp), ?_, by rw [E.ok]; exact h1, by rw [E.places]; exact h2, by rw [E.depth, h3], by rw [E.parts, h4]⟩⟩
      rw [E.toD]
      exact Rep.tup2 upd_same (by show 2 ≤ 100000; decide) (.cons (.str (by show sMaybe.length ≤ 1000; rw [lM]; decide)) (.cons (hR.pers (Pers.new hp)) .nil))
    · refine ⟨_, rfl, (by show 2 ≤ sizeLine; decide), fun p hp => ⟨_, .many e, _, rfl, s1.trans (same_upd hp), ?_, by rw [E.ok]; exact h1, by rw [E.places]; exact h2, by rw [E.depth, h3], by rw [E.parts, h4]⟩⟩
      rw [E.toD]
      exact Rep.tup2 upd_same (by show 2 ≤ 100000; decide) (.cons (.str (by show sMany.length ≤ 1000; rw [lN]; decide)) (.cons (hR.pers (Pers.new hp)) .nil))
  · rintro σ' H1 ⟨v, e, kk, rfl, s1, hR, h1, h2, h3, h4⟩
    exact ⟨_, rfl, q v H1 e s1 hR h1 h2 h3 h4⟩
end
end My
namespace My
open PySem PySem.Spec PyProof.Rows L2
/-! ### written data -/
def GD (σ : L2.St) (ta : TE) (d : My.D) : Prop := ∀ (H : Hp) (Q : VK), (∀ v H', Same H H' → Rep H' v d → Q v H') → ta σ H Q
def GDs (σ : L2.St) (t : TA) (ds : List My.D) : Prop := ∀ (H : Hp) (Q : List V → Hp → Prop), (∀ vs H', Same H H' → Two (Rep H') vs ds → Q vs H') → t σ H Q
theorem gd_str {σ : L2.St} {z : Str} (h : z.length ≤ 1000) : GD σ (tC (.str z)) (.str z) := fun H Q q => q _ H (Same.refl H) (.str h)
theorem gd_non {σ : L2.St} : GD σ (tC .non) .flat := fun H Q q => q _ H (Same.refl H) .non
theorem gd_bl {σ : L2.St} {b : Bool} : GD σ (tC (.bl b)) .flat := fun H Q q => q _ H (Same.refl H) (.bl b)
theorem gd_int {σ : L2.St} {i : Int} : GD σ (tC (.int i)) .flat := fun H Q q => q _ H (Same.refl H) (.int i)
theorem gds_nil {σ : L2.St} : GDs σ tNil [] := fun H Q q => q _ H (Same.refl H) .nil
theorem gds_cons {σ : L2.St} {ta : TE} {t : TA} {d : My.D} {ds : List My.D} (h : GD σ ta d) (k : GDs σ t ds) : GDs σ (tCons ta t) (d :: ds) := fun H Q q =>
  h H _ fun v H1 s1 r1 => k H1 _ fun vs H2 s2 r2 => q _ H2 (s1.trans s2) (.cons (r1.pers (Pers.same s2)) r2)
theorem gd_tup {σ : L2.St} {t : TA} {ds : List My.D} (h : GDs σ t ds) (z : ds.length ≤ 100000) : GD σ (tTup t) (.tup ds) := fun H Q q =>
  h H _ fun vs H1 s1 r1 => ⟨Nat.le_trans (Nat.le_of_eq r1.len) (Nat.le_trans z (by decide)), fun p hp => q _ _ (s1.trans (same_upd hp)) (Rep.tup2 upd_same (Nat.le_trans (Nat.le_of_eq r1.len) z) (Rep.pers2 (Pers.new hp) r1))⟩
theorem gd_lst {σ : L2.St} {t : TA} {ds : List My.D} (h : GDs σ t ds) (z : ds.length ≤ 100000) : GD σ (tLst t) .lst := fun H Q q =>
  h H _ fun vs H1 s1 r1 => ⟨Nat.le_trans (Nat.le_of_eq r1.len) (Nat.le_trans z (by decide)), fun p hp => q _ _ (s1.trans (same_upd hp)) (.lst upd_same)⟩
/-- a written list as the last argument -/
theorem gds_arg {σ : L2.St} {t : TA} {ds : List My.D} {H : Hp} {Q : List V → Hp → Prop} (h : GDs σ t ds) (z : ds.length ≤ 100000) (k : ∀ vs H', Same H H' → Two (Rep H') vs ds → ∀ l, H' l = none → Q [.ref l] (upd H' l (.lst vs))) : tCons (tLst t) tNil σ H Q :=
  h H _ fun vs H1 s1 r1 => ⟨Nat.le_trans (Nat.le_of_eq r1.len) (Nat.le_trans z (by decide)), fun p hp => k vs H1 s1 r1 p hp⟩
/-! ### what is wrong -/
structure Wrong (d : My.D) (n : Nat) : Prop where
  bad : Bad d
  fl : Fl d
  hf : headFlat d = true
  ns : ∀ w, d = .str w → ¬ (w = sJoin ∨ w = sOr)
  sz : d.size ≤ n
def badB : Nat → My.D → Bool
  | 0, _ => false
  | n + 1, d => match inner d with
    | none => true
    | some ys => ys.any (badB n)
theorem badB_ok : ∀ {n : Nat} {d : My.D}, badB n d = true → Bad d
  | 0, d, h => by cases h
  | n + 1, d, h => by
    unfold badB at h
    cases c : inner d with
    | none => exact .here c
    | some ys =>
      rw [c] at h
      obtain ⟨y, hy, hb⟩ := List.any_eq_true.mp h
      exact .inn c hy (badB_ok hb)
def pairOk : List My.D → Bool
  | [.str w, y] => !(decide (w = sJoin) || decide (w = sOr)) || rowFlat y
  | _ => true
def flB : Nat → My.D → Bool
  | 0, _ => false
  | _ + 1, .str _ => true
  | _ + 1, .lst => true
  | _ + 1, .flat => true
  | n + 1, .tup ds => pairOk ds && ds.all (flB n)
theorem flB_ok : ∀ {n : Nat} {d : My.D}, flB n d = true → Fl d
  | 0, d, h => by cases h
  | _ + 1, .str _, _ => .str _
  | _ + 1, .lst, _ => .lst
  | _ + 1, .flat, _ => .flat
  | n + 1, .tup ds, h => by
    have h' : (pairOk ds && ds.all (flB n)) = true := h
    rw [Bool.and_eq_true, List.all_eq_true] at h'
    refine .tup (fun w y e c => ?_) fun d hd => flB_ok (h'.2 d hd)
    have h1 := h'.1
    rw [e] at h1
    have h2 : (!(decide (w = sJoin) || decide (w = sOr)) || rowFlat y) = true := h1
    rcases c with c | c
    · rw [decide_eq_true c] at h2
      exact h2
    · rw [decide_eq_true c, Bool.or_true] at h2
      exact h2
def notRowWord : My.D → Bool
  | .str w => !(decide (w = sJoin) || decide (w = sOr))
  | _ => true
def wrongB (d : My.D) : Bool := badB 5 d && flB 5 d && headFlat d && notRowWord d && decide (d.size ≤ 50)
theorem wrongB_ok {d : My.D} (h : wrongB d = true) : Wrong d 50 := by
  unfold wrongB at h
  simp only [Bool.and_eq_true, decide_eq_true_eq] at h
  obtain ⟨⟨⟨⟨h1, h2⟩, h3⟩, h4⟩, h5⟩ := h
  refine ⟨badB_ok h1, flB_ok h2, h3, fun w e c => ?_, h5⟩
  rw [e] at h4
  have h6 : (!(decide (w = sJoin) || decide (w = sOr))) = true := h4
  rcases c with c | c
  · rw [decide_eq_true c] at h6
    cases h6
  · rw [decide_eq_true c, Bool.or_true] at h6
    cases h6
def wrongs : List My.D := [.flat,
  .flat,
  .flat,
  .str "e",
  .str "A",
  .str "ab",
  .str " ",
  .lst,
  .tup [.str "join", .lst],
  .tup [.str "join", .tup [.str "a"]],
  .tup [.str "or", .tup []],
  .tup [.str "or", .tup [.str "a"]],
  .tup [.str "join", .tup [.str "a", .str "b"], .flat],
  .tup [.str "join"],
  .tup [.str "maybe"],
  .tup [.str "maybe", .str "a", .str "b"],
  .tup [.str "many", .tup [.str "a"]],
  .tup [.str "all", .tup [.str "a", .str "b"]],
  .tup [.str "join", .tup [.tup [.str "join", .tup [.str "a", .str "b"]], .str "c"]],
  .tup [.str "join", .tup [.str "c", .tup [.str "join", .tup [.str "a", .str "b"]]]],
  .tup [.str "or", .tup [.str "a", .tup [.str "or", .tup [.str "b", .str "c"]]]],
  .tup [.str "or", .tup [.tup [.str "or", .tup [.str "a", .str "b"]], .str "c", .str "d"]],
  .tup [.str "maybe", .flat],
  .tup [.str "many", .str "e"],
  .tup [.flat, .str "a"],
  .tup [.str "join", .tup [.str "a", .flat]],
  .tup [.str "or", .tup [.flat, .str "a"]],
  .tup [.str "join", .str "ab"],
  .tup []]
theorem wrongs_ok : wrongs.all wrongB = true := by decide +kernel
theorem wrongs_len : wrongs.length = 29 := by decide +kernel
def spWrong : Sp := fun vs H Q _ => ∃ (a : Addr), vs = [.ref a] ∧ Strm H a ∧ ∀ v H' d, Go a H H' → Rep H' v d → Wrong d 50 → Q v H'
theorem Two.take {α β : Type} {R : α → β → Prop} {as : List α} {bs : List β} (h : Two R as bs) : ∀ i, Two R (as.take i) (bs.take i) := by
  induction h with
  | nil => intro i; rw [List.take_nil, List.take_nil]; exact .nil
  | cons h t ih =>
    intro i
    cases i with
    | zero => exact .nil
    | succ i => exact .cons h (ih i)
theorem Two.drop {α β : Type} {R : α → β → Prop} {as : List α} {bs : List β} (h : Two R as bs) : ∀ i, Two R (as.drop i) (bs.drop i) := by
  induction h with
  | nil => intro i; rw [List.drop_nil, List.drop_nil]; exact .nil
  | cons h t ih =>
    intro i
    cases i with
    | zero => exact .cons h t
    | succ i => exact ih i
theorem Two.mem {α β : Type} {R : α → β → Prop} {as : List α} {bs : List β} (h : Two R as bs) {a : α} (ha : a ∈ as) : ∃ b ∈ bs, R a b := by
  induction h with
  | nil => cases ha
  | cons h t ih =>
    rcases List.mem_cons.mp ha with rfl | ha
    · exact ⟨_, List.mem_cons_self .., h⟩
    · obtain ⟨b, hb, r⟩ := ih ha
      exact ⟨b, List.mem_cons_of_mem _ hb, r⟩
section
variable {P : Program} {w : World} {K : PySem.W.Frag} {mg : Str → Option Value} {base : Heap} {a_BOUNDS a_LONG_BOUNDS : Addr} {tL tM : Tok}
abbrev N__law_wrong : List Str := ["stream"]
theorem sc__law_wrong : FnScope ["stream"] ["stream"] (defScope s__law_wrong) := ⟨rfl, rfl, rfl, by decide +kernel, rfl, by decide +kernel, by decide +kernel⟩
set_option maxHeartbeats 4000000 in
theorem ok_wrong {f : Addr} {fd : FuncData} (B : Bt K mg a_BOUNDS a_LONG_BOUNDS tL tM) (Dd : Df K mg "_law_wrong" s__law_wrong ["stream"] f fd) (G_law_pick : Cl P w K mg base 2 "_law_pick" ["stream", "rows"] (spPick K)) : FnOk P w K mg base CX0 3 f fd ["stream"] spWrong := by
  refine Dd.F.ok sc__law_wrong (fun vs H Q Ex h => ?_) (fun cdv A outer s H vs Q Ex hr h => ?_)
  · obtain ⟨a, rfl, _⟩ := h
    rfl
  obtain ⟨a, rfl, hS, q⟩ := h
  refine ⟨_, (pss_one (ps_ret (pe_cl G_law_pick (hr.mono (by omega)) rfl (pa_cons (pv 0) (pa_cons (pe_lst (pa_cons pe_non (pa_cons pe_bl (pa_cons pe_int (pa_cons pe_str (pa_cons pe_str (pa_cons pe_str (pa_cons pe_str (pa_cons (pe_lst (pa_cons pe_str (pa_cons (pe_tup (pa_cons pe_str (pa_cons pe_str pa_nil))) pa_nil))) (pa_cons (pe_tup (pa_cons pe_str (pa_cons (pe_lst (pa_cons pe_str (pa_cons pe_str pa_nil))) pa_nil))) (pa_cons (pe_tup (pa_cons pe_str (pa_cons (pe_tup (pa_cons pe_str pa_nil)) pa_nil))) (pa_cons (pe_tup (pa_cons pe_str (pa_cons (pe_tup pa_nil) pa_nil))) (pa_cons (pe_tup (pa_cons pe_str (pa_cons (pe_tup (pa_cons pe_str pa_nil)) pa_nil))) (pa_cons (pe_tup (pa_cons pe_str (pa_cons (pe_tup (pa_cons pe_str (pa_cons pe_str pa_nil))) (pa_cons pe_int pa_nil)))) (pa_cons (pe_tup (pa_cons pe_str pa_nil)) (pa_cons (pe_tup (pa_cons pe_str pa_nil)) (pa_cons (pe_tup (pa_cons pe_str (pa_cons pe_str (pa_cons pe_str pa_nil)))) (pa_cons (pe_tup (pa_cons pe_str (pa_cons (pe_tup (pa_cons pe_str pa_nil)) pa_nil))) (pa_cons (pe_tup (pa_cons pe_str (pa_cons (pe_tup (pa_cons pe_str (pa_cons pe_str pa_nil))) pa_nil))) (pa_cons (pe_tup (pa_cons pe_str (pa_cons (pe_tup (pa_cons (pe_tup (pa_cons pe_str (pa_cons (pe_tup (pa_cons pe_str (pa_cons pe_str pa_nil))) pa_nil))) (pa_cons pe_str pa_nil))) pa_nil))) (pa_cons (pe_tup (pa_cons pe_str (pa_cons (pe_tup (pa_cons pe_str (pa_cons (pe_tup (pa_cons pe_str (pa_cons (pe_tup (pa_cons pe_str (pa_cons pe_str pa_nil))) pa_nil))) pa_nil))) pa_nil))) (pa_cons (pe_tup (pa_cons pe_str (pa_cons (pe_tup (pa_cons pe_str (pa_cons (pe_tup (pa_cons pe_str (pa_cons (pe_tup (pa_cons pe_str (pa_cons pe_str pa_nil))) pa_nil))) pa_nil))) pa_nil))) (pa_cons (pe_tup (pa_cons pe_str (pa_cons (pe_tup (pa_cons (pe_tup (pa_cons pe_str (pa_cons (pe_tup (pa_cons pe_str (pa_cons pe_str pa_nil))) pa_nil))) (pa_cons pe_str (pa_cons pe_str pa_nil)))) pa_nil))) (pa_cons (pe_tup (pa_cons pe_str (pa_cons pe_non pa_nil))) (pa_cons (pe_tup (pa_cons pe_str (pa_cons pe_str pa_nil))) (pa_cons (pe_tup (pa_cons pe_non (pa_cons pe_str pa_nil))) (pa_cons (pe_tup (pa_cons pe_str (pa_cons (pe_tup (pa_cons pe_str (pa_cons pe_non pa_nil))) pa_nil))) (pa_cons (pe_tup (pa_cons pe_str (pa_cons (pe_tup (pa_cons pe_int (pa_cons pe_str pa_nil))) pa_nil))) (pa_cons (pe_tup (pa_cons pe_str (pa_cons pe_str pa_nil))) (pa_cons (pe_tup pa_nil) pa_nil)))))))))))))))))))))))))))))) pa_nil))))), ?_⟩
  have G := ((gds_cons gd_non (gds_cons (gd_bl (b := true)) (gds_cons (gd_int (i := 7)) (gds_cons (gd_str (z := "e") (by decide +kernel)) (gds_cons (gd_str (z := "A") (by decide +kernel)) (gds_cons (gd_str (z := "ab") (by decide +kernel)) (gds_cons (gd_str (z := " ") (by decide +kernel)) (gds_cons (gd_lst (gds_cons (gd_str (z := "join") (by decide +kernel)) (gds_cons (gd_tup (gds_cons (gd_str (z := "a") (by decide +kernel)) (gds_cons (gd_str (z := "b") (by decide +kernel)) gds_nil)) (by decide)) gds_nil)) (by decide)) (gds_cons (gd_tup (gds_cons (gd_str (z := "join") (by decide +kernel)) (gds_cons (gd_lst (gds_cons (gd_str (z := "a") (by decide +kernel)) (gds_cons (gd_str (z := "b") (by decide +kernel)) gds_nil)) (by decide)) gds_nil)) (by decide)) (gds_cons (gd_tup (gds_cons (gd_str (z := "join") (by decide +kernel)) (gds_cons (gd_tup (gds_cons (gd_str (z := "a") (by decide +kernel)) gds_nil) (by decide)) gds_nil)) (by decide)) (gds_cons (gd_tup (gds_cons (gd_str (z := "or") (by decide +kernel)) (gds_cons (gd_tup gds_nil (by decide)) gds_nil)) (by decide)) (gds_cons (gd_tup (gds_cons (gd_str (z := "or") (by decide +kernel)) (gds_cons (gd_tup (gds_cons (gd_str (z := "a") (by decide +kernel)) gds_nil) (by decide)) gds_nil)) (by decide)) (gds_cons (gd_tup (gds_cons (gd_str (z := "join") (by decide +kernel)) (gds_cons (gd_tup (gds_cons (gd_str (z := "a") (by decide +kernel)) (gds_cons (gd_str (z := "b") (by decide +kernel)) gds_nil)) (by decide)) (gds_cons (gd_int (i := 0)) gds_nil))) (by decide)) (gds_cons (gd_tup (gds_cons (gd_str (z := "join") (by decide +kernel)) gds_nil) (by decide)) (gds_cons (gd_tup (gds_cons (gd_str (z := "maybe") (by decide +kernel)) gds_nil) (by decide)) (gds_cons (gd_tup (gds_cons (gd_str (z := "maybe") (by decide +kernel)) (gds_cons (gd_str (z := "a") (by decide +kernel)) (gds_cons (gd_str (z := "b") (by decide +kernel)) gds_nil))) (by decide)) (gds_cons (gd_tup (gds_cons (gd_str (z := "many") (by decide +kernel)) (gds_cons (gd_tup (gds_cons (gd_str (z := "a") (by decide +kernel)) gds_nil) (by decide)) gds_nil)) (by decide)) (gds_cons (gd_tup (gds_cons (gd_str (z := "all") (by decide +kernel)) (gds_cons (gd_tup (gds_cons (gd_str (z := "a") (by decide +kernel)) (gds_cons (gd_str (z := "b") (by decide +kernel)) gds_nil)) (by decide)) gds_nil)) (by decide)) (gds_cons (gd_tup (gds_cons (gd_str (z := "join") (by decide +kernel)) (gds_cons (gd_tup (gds_cons (gd_tup (gds_cons (gd_str (z := "join") (by decide +kernel)) (gds_cons (gd_tup (gds_cons (gd_str (z := "a") (by decide +kernel)) (gds_cons (gd_str (z := "b") (by decide +kernel)) gds_nil)) (by decide)) gds_nil)) (by decide)) (gds_cons (gd_str (z := "c") (by decide +kernel)) gds_nil)) (by decide)) gds_nil)) (by decide)) (gds_cons (gd_tup (gds_cons (gd_str (z := "join") (by decide +kernel)) (gds_cons (gd_tup (gds_cons (gd_str (z := "c") (by decide +kernel)) (gds_cons (gd_tup (gds_cons (gd_str (z := "join") (by decide +kernel)) (gds_cons (gd_tup (gds_cons (gd_str (z := "a") (by decide +kernel)) (gds_cons (gd_str (z := "b") (by decide +kernel)) gds_nil)) (by decide)) gds_nil)) (by decide)) gds_nil)) (by decide)) gds_nil)) (by decide)) (gds_cons (gd_tup (gds_cons (gd_str (z := "or") (by decide +kernel)) (gds_cons (gd_tup (gds_cons (gd_str (z := "a") (by decide +kernel)) (gds_cons (gd_tup (gds_cons (gd_str (z := "or") (by decide +kernel)) (gds_cons (gd_tup (gds_cons (gd_str (z := "b") (by decide +kernel)) (gds_cons (gd_str (z := "c") (by decide +kernel)) gds_nil)) (by decide)) gds_nil)) (by decide)) gds_nil)) (by decide)) gds_nil)) (by decide)) (gds_cons (gd_tup (gds_cons (gd_str (z := "or") (by decide +kernel)) (gds_cons (gd_tup (gds_cons (gd_tup (gds_cons (gd_str (z := "or") (by decide +kernel)) (gds_cons (gd_tup (gds_cons (gd_str (z := "a") (by decide +kernel)) (gds_cons (gd_str (z := "b") (by decide +kernel)) gds_nil)) (by decide)) gds_nil)) (by decide)) (gds_cons (gd_str (z := "c") (by decide +kernel)) (gds_cons (gd_str (z := "d") (by decide +kernel)) gds_nil))) (by decide)) gds_nil)) (by decide)) (gds_cons (gd_tup (gds_cons (gd_str (z := "maybe") (by decide +kernel)) (gds_cons gd_non gds_nil)) (by decide)) (gds_cons (gd_tup (gds_cons (gd_str (z := "many") (by decide +kernel)) (gds_cons (gd_str (z := "e") (by decide +kernel)) gds_nil)) (by decide)) (gds_cons (gd_tup (gds_cons gd_non (gds_cons (gd_str (z := "a") (by decide +kernel)) gds_nil)) (by decide)) (gds_cons (gd_tup (gds_cons (gd_str (z := "join") (by decide +kernel)) (gds_cons (gd_tup (gds_cons (gd_str (z := "a") (by decide +kernel)) (gds_cons gd_non gds_nil)) (by decide)) gds_nil)) (by decide)) (gds_cons (gd_tup (gds_cons (gd_str (z := "or") (by decide +kernel)) (gds_cons (gd_tup (gds_cons (gd_int (i := 1)) (gds_cons (gd_str (z := "a") (by decide +kernel)) gds_nil)) (by decide)) gds_nil)) (by decide)) (gds_cons (gd_tup (gds_cons (gd_str (z := "join") (by decide +kernel)) (gds_cons (gd_str (z := "ab") (by decide +kernel)) gds_nil)) (by decide)) (gds_cons (gd_tup gds_nil (by decide)) gds_nil))))))))))))))))))))))))))))) : GDs (L2.start N__law_wrong [.ref a]) _ wrongs)
  refine ⟨_, rfl, ?_⟩
  show tCons _ _ _ _ _
  refine gds_arg (ds := wrongs) G (by rw [wrongs_len]; decide) fun vs H1 s1 r1 l hl => ⟨a, l, vs, rfl, (hS.same s1).same (same_upd hl), SqL.of upd_same, ((hS.same s1).ne hl).symm, ?_, ?_, fun v H2 hv g2 => ?_⟩
  · rw [r1.len, wrongs_len]
    decide
  · rw [r1.len, wrongs_len]
    decide
  · obtain ⟨d, hd, r⟩ := r1.mem hv
    have hw := List.all_eq_true.mp wrongs_ok d hd
    exact q v H2 d ((Go.same hS s1).trans ((Go.new (hS.same s1) hl).trans g2)) (r.pers ((Pers.new hl).trans g2.pers)) (wrongB_ok hw)
/-! ### a wrong part somewhere -/
theorem catA_all {a b : Addr} {xs ys : List V} {H : Hp} {Q : VK} (ha : H a = some (.tup xs)) (hb : H b = some (.tup ys)) (hz : xs.length + ys.length ≤ sizeLine) (q : ∀ t H', Same H H' → H' t = some (.tup (xs ++ ys)) → Q (.ref t) H') : rCatA K (.ref a) (.ref b) H Q := by
  refine ⟨a, b, xs, ys, rfl, rfl, SqT.of ha, SqT.of hb, hz, fun e => ?_, fun _ e => ?_, fun _ _ p hp => ?_⟩
  · subst e
    exact q b H (Same.refl H) hb
  · subst e
    refine q a H (Same.refl H) ?_
    rw [List.append_nil]
    exact ha
  · exact q p _ (same_upd hp) upd_same
theorem slA_take {a : Addr} {xs : List V} {H : Hp} {Q : VK} {i : Nat} (h : H a = some (.tup xs)) (hi : i < xs.length) (q : ∀ p, H p = none → Q (.ref p) (upd H p (.tup (xs.take i)))) : rSlA K (.ref a) none (some (i : Int)) H Q := by
  have e1 : HT.sIx xs.length xs.length (some (i : Int)) = i := by
    rw [HT.sIx_nat]
    omega
  refine ⟨a, xs, rfl, SqT.of h, fun c => ?_, fun _ p hp => ?_⟩
  · rw [e1] at c
    omega
  · have e2 : cutV xs none (some (i : Int)) = xs.take i := by
      unfold cutV
      rw [e1, HT.sIx_none, List.drop_zero, Nat.sub_zero]
    rw [e2]
    exact q p hp
theorem slA_drop {a : Addr} {xs : List V} {H : Hp} {Q : VK} {i : Nat} (h : H a = some (.tup xs)) (hi : i < xs.length) (q : ∀ p, H p = none → Q (.ref p) (upd H p (.tup (xs.drop (i + 1))))) : rSlA K (.ref a) (some ((i : Int) + 1)) none H Q := by
  have e0 : ((i : Int) + 1) = ((i + 1 : Nat) : Int) := by omega
  have e1 : HT.sIx xs.length 0 (some ((i : Int) + 1)) = i + 1 := by
    rw [e0, HT.sIx_nat]
    omega
  refine ⟨a, xs, rfl, SqT.of h, fun c => ?_, fun _ p hp => ?_⟩
  · rw [e1] at c
    omega
  · have e2 : cutV xs (some ((i : Int) + 1)) none = xs.drop (i + 1) := by
      unfold cutV
      rw [e1, HT.sIx_none, ← List.length_drop, List.take_length]
    rw [e2]
    exact q p hp
theorem cut1 (xs : List V) : cutV xs (some 1) none = xs.drop 1 := by
  unfold cutV
  rw [HT.sIx_none, show HT.sIx xs.length 0 (some 1) = min 1 xs.length from HT.sIx_nat xs.length 0 1]
  cases xs with
  | nil => rfl
  | cons x r =>
    rw [show min 1 (x :: r).length = 1 by rw [List.length_cons]; omega]
    exact List.take_of_length_le (by rw [List.length_drop]; omega)
theorem wrong_one {w : Str} {d : My.D} {n m : Nat} (hw : w = sMaybe ∨ w = sMany) (h : Wrong d n) (hm : n + 2 ≤ m) : Wrong (.tup [.str w, d]) m where
  bad := .inn (ys := [d]) (by rw [inner_pair, innerPair, if_pos hw]) (List.mem_singleton.mpr rfl) h.bad
  fl := fl_pair (fun c => by
    rcases hw with rfl | rfl
    · exact (c.elim (fun h => jm h.symm) fun h => om h.symm).elim
    · exact (c.elim (fun h => jn h.symm) fun h => on h.symm).elim) h.fl
  hf := rfl
  ns := fun w e => by cases e
  sz := by
    have := h.sz
    simp only [My.D.size, My.D.size.sizes]
    omega
theorem wrong_row {w : Str} {es : List E} {i : Nat} {d : My.D} {k : E} {n : Nat} (hw : w = sJoin ∨ w = sOr) (h : Wrong d (k.toD.size + n)) (hi : i < es.length) (hk : es[i]? = some k) : Wrong (.tup [.str w, .tup ((es.map E.toD).take i ++ [d] ++ (es.map E.toD).drop (i + 1))]) ((My.D.tup [.str w, .tup (es.map E.toD)]).size + n) := by
  have hmem : d ∈ (es.map E.toD).take i ++ [d] ++ (es.map E.toD).drop (i + 1) := by simp
  have hall : ∀ x ∈ (es.map E.toD).take i ++ [d] ++ (es.map E.toD).drop (i + 1), (∃ e : E, x = e.toD) ∨ x = d := by
    intro x hx
    rcases List.mem_append.mp hx with hx | hx
    · rcases List.mem_append.mp hx with hx | hx
      · obtain ⟨e, _, rfl⟩ := List.mem_map.mp (List.mem_of_mem_take hx)
        exact .inl ⟨e, rfl⟩
      · exact .inr (List.mem_singleton.mp hx)
    · obtain ⟨e, _, rfl⟩ := List.mem_map.mp (List.mem_of_mem_drop hx)
      exact .inl ⟨e, rfl⟩
  refine ⟨?_, fl_pair (fun _ => ?_) (.tup (fun w' y e c => ?_) fun x hx => ?_), rfl, (fun w e => by cases e), ?_⟩
  · by_cases c : rowOk w (.tup ((es.map E.toD).take i ++ [d] ++ (es.map E.toD).drop (i + 1))) = true
    · refine .inn (ys := (es.map E.toD).take i ++ [d] ++ (es.map E.toD).drop (i + 1)) ?_ hmem h.bad
      rw [inner_pair, innerPair, if_neg, if_pos ⟨hw, c⟩]
      · rfl
      · rcases hw with rfl | rfl
        · exact fun z => z.elim jm jn
        · exact fun z => z.elim om on
    · refine .here ?_
      rw [inner_pair, innerPair, if_neg, if_neg fun z => c z.2]
      rcases hw with rfl | rfl
      · exact fun z => z.elim jm jn
      · exact fun z => z.elim om on
  · show List.all _ headFlat = true
    rw [List.all_eq_true]
    intro x hx
    rcases hall x hx with ⟨e, rfl⟩ | rfl
    · exact headFlat_toD e
    · exact h.hf
  · have hx : My.D.str w' ∈ (es.map E.toD).take i ++ [d] ++ (es.map E.toD).drop (i + 1) := by
      rw [e]
      exact List.mem_cons_self ..
    rcases hall _ hx with ⟨e, h1⟩ | h1
    · exact absurd c (toD_str h1.symm)
    · exact absurd c (h.ns w' h1.symm)
  · rcases hall x hx with ⟨e, rfl⟩ | rfl
    · exact fl_toD e
    · exact h.fl
  · have h1 := h.sz
    have h2 : (((es.map E.toD).take i).map My.D.size).sum + k.toD.size + (((es.map E.toD).drop (i + 1)).map My.D.size).sum ≤ ((es.map E.toD).map My.D.size).sum := by
      have e1 : (es.map E.toD) = (es.map E.toD).take i ++ (es.map E.toD).drop i := (List.take_append_drop i _).symm
      have e2 : (es.map E.toD).drop i = (es.map E.toD)[i]'(by rw [List.length_map]; exact hi) :: (es.map E.toD).drop (i + 1) := List.drop_eq_getElem_cons (by rw [List.length_map]; exact hi)
      have e4 : (es.map E.toD)[i]'(by rw [List.length_map]; exact hi) = k.toD := by
        rw [List.getElem_map]
        rw [List.getElem?_eq_getElem hi] at hk
        rw [Option.some.inj hk]
      have e3 : ((es.map E.toD).map My.D.size).sum = (((es.map E.toD).take i).map My.D.size).sum + (((es.map E.toD).drop i).map My.D.size).sum := by
        rw [← List.sum_append, ← List.map_append, ← e1]
      rw [e3, e2, e4, List.map_cons, List.sum_cons]
      omega
    simp only [My.D.size, My.D.size.sizes, sizes_eq, List.map_append, List.sum_append, List.map_cons, List.map_nil, List.sum_cons, List.sum_nil]
    omega
end
end My
namespace My
open PySem PySem.Spec PyProof.Rows L2
def spAt (K : PySem.W.Frag) (n : Nat) : Sp := fun vs H Q _ => ∃ (v : V) (e : E) (pa : Addr) (is : List Int) (u : V) (d : My.D) (m : Nat), vs = [v, .ref pa, u] ∧ e.ok = true ∧ e.depth < n ∧ Rep H v e.toD ∧ SqL K H pa (is.map V.int) ∧ Rep H u d ∧ Wrong d m ∧
  ∀ r H' d', Same H H' → Rep H' r d' → Wrong d' (e.toD.size + m) → Q r H'
theorem Wrong.mono {d : My.D} {n m : Nat} (h : Wrong d n) (l : n ≤ m) : Wrong d m := ⟨h.bad, h.fl, h.hf, h.ns, Nat.le_trans h.sz l⟩
section
variable {P : Program} {w : World} {K : PySem.W.Frag} {mg : Str → Option Value} {base : Heap} {a_BOUNDS a_LONG_BOUNDS : Addr} {tL tM : Tok}
abbrev N__law_at : List Str := ["expression", "path", "value", "at"]
theorem sc__law_at : FnScope ["expression", "path", "value", "at"] ["expression", "path", "value"] (defScope s__law_at) := ⟨rfl, rfl, rfl, by decide +kernel, rfl, by decide +kernel, by decide +kernel⟩
set_option maxHeartbeats 1000000 in
theorem ok_at_step {f : Addr} {fd : FuncData} (B : Bt K mg a_BOUNDS a_LONG_BOUNDS tL tM) (Dd : Df K mg "_law_at" s__law_at ["expression", "path", "value"] f fd) (n : Nat) (G_law_at : Cl P w K mg base n "_law_at" ["expression", "path", "value"] (spAt K n)) : FnOk P w K mg base CX0 (n + 1) f fd ["expression", "path", "value"] (spAt K (n + 1)) := by
  refine Dd.F.ok sc__law_at (fun vs H Q Ex h => ?_) (fun cdv A outer s H vs Q Ex hr h => ?_)
  · obtain ⟨v, e, pa, is, u, d, m, rfl, _⟩ := h
    rfl
  obtain ⟨v, e, pa, is, u, d, m, rfl, hok, hdep, hR, hpa, hU, hW, q⟩ := h
  refine ⟨_, (pss_cons (ps_if (PW.pt (pw_or (pt_not (pt_truth (pv 1) (by intro _; rfl))) (pw_or1 (pt_val (pe_callB call_isi rfl B.b_isinstance boot_isinstance (pa_cons (pv 0) (pa_cons (pe_bltn (v := .ty "str") rfl B.b_str boot_str rfl) pa_nil))))))) (pss_one (ps_ret (pv 2))) pss_nil)
    (pss_cons (ps_if (pt_cmpR op_in_seq (pe_ix (r := rIxT K) ix_tup (pv 0) pe_int (fun _ _ => rfl)) (pe_lst (pa_cons pe_str (pa_cons pe_str pa_nil))) rfl) (pss_one (ps_ret (pe_tup (pa_cons (pe_ix (r := rIxT K) ix_tup (pv 0) pe_int (fun _ _ => rfl)) (pa_cons (pe_cl G_law_at (hr.mono (by omega)) rfl (pa_cons (pe_ix (r := rIxT K) ix_tup (pv 0) pe_int (fun _ _ => rfl)) (pa_cons (pe_slice sl_list (pv 1) (po_some pe_int) po_none) (pa_cons (pv 2) pa_nil)))) pa_nil))))) pss_nil)
    (C8.pss_cut (ps_set (i := 3) sc__law_at.nd rfl (Or.inl rfl) (pe_op op_mod (pe_callTy call_int1 rfl B.b_int boot_int (pa_cons (pe_ix (r := rIxL K) ix_list (pv 1) pe_int (fun _ _ => rfl)) pa_nil)) (pe_callB call_len rfl B.b_len boot_len (pa_cons (pe_ix (r := rIxT K) ix_tup (pv 0) pe_int (fun _ _ => rfl)) pa_nil))))
    (pss_one (ps_ret (pe_tup (pa_cons (pe_ix (r := rIxT K) ix_tup (pv 0) pe_int (fun _ _ => rfl)) (pa_cons (pe_op op_catA (pe_op op_catA (pe_slice sl_tupA (pe_ix (r := rIxT K) ix_tup (pv 0) pe_int (fun _ _ => rfl)) po_none (po_some (pv 3))) (pe_tup (pa_cons (pe_cl G_law_at (hr.mono (by omega)) rfl (pa_cons (pe_ix (r := rIxT K) ix_tup (pe_ix (r := rIxT K) ix_tup (pv 0) pe_int (fun _ _ => rfl)) (pv 3) (fun _ _ => rfl)) (pa_cons (pe_slice sl_list (pv 1) (po_some pe_int) po_none) (pa_cons (pv 2) pa_nil)))) pa_nil))) (pe_slice sl_tupA (pe_ix (r := rIxT K) ix_tup (pv 0) pe_int (fun _ _ => rfl)) (po_some (pe_op op_add (pv 3) pe_int)) po_none)) pa_nil)))))))), ?_⟩
  obtain ⟨t, ht, k1, _⟩ := hR.ty (K := K)
  have leaf : Q u H := q u H d (Same.refl H) hU (hW.mono (Nat.le_add_left _ _))
  refine ⟨_, rfl, _, .inl ⟨_, hpa, rfl⟩, ite2 (fun e1 => iteT ⟨_, rfl, leaf⟩) (fun e1 => ⟨_, rfl, _, _, _, _, _, rfl, .ty _, ht, k1, _, rfl, ite2 (fun e2 => ⟨_, rfl, leaf⟩) (fun e2 => ?_)⟩)⟩
  obtain ⟨i0, is', rfl⟩ : ∃ i0 is', is = i0 :: is' := by
    cases is with
    | nil => exact absurd rfl e1
    | cons i0 is' => exact ⟨i0, is', rfl⟩
  have hcut : cutV ((i0 :: is').map V.int) (some 1) none = is'.map V.int := by
    rw [cut1]
    rfl
  obtain ⟨w, y, hc, hk⟩ : ∃ w y, e.toD = .tup [.str w, y] ∧ ((inV (V.str w) [V.str sMaybe, V.str sMany] = true ∧ (w = sMaybe ∨ w = sMany) ∧ ∃ k : E, e.kids = [k] ∧ y = k.toD) ∨ (inV (V.str w) [V.str sMaybe, V.str sMany] = false ∧ (w = sJoin ∨ w = sOr) ∧ 2 ≤ e.kids.length ∧ y = .tup (e.kids.map E.toD))) := by
    cases e with
    | eps => exact absurd (by rw [E.toD]; rfl) e2
    | sym c => exact absurd (by rw [E.toD]; rfl) e2
    | maybe k => exact ⟨sMaybe, k.toD, by rw [E.toD], .inl ⟨by decide +kernel, .inl rfl, k, rfl, rfl⟩⟩
    | many k => exact ⟨sMany, k.toD, by rw [E.toD], .inl ⟨by decide +kernel, .inr rfl, k, rfl, rfl⟩⟩
    | join es =>
      rw [E.ok, oks_eq] at hok
      simp only [Bool.and_eq_true, decide_eq_true_eq] at hok
      exact ⟨sJoin, .tup (es.map E.toD), by rw [E.toD, toDs_eq], .inr ⟨by decide +kernel, .inl rfl, hok.1.1, rfl⟩⟩
    | alt es =>
      rw [E.ok, oks_eq] at hok
      simp only [Bool.and_eq_true, decide_eq_true_eq] at hok
      exact ⟨sOr, .tup (es.map E.toD), by rw [E.toD, toDs_eq], .inr ⟨by decide +kernel, .inr rfl, hok.1.1, rfl⟩⟩
  rw [hc] at hR
  obtain ⟨p, xs, rfl, hp, hz, hX⟩ := hR.untup
  match xs, hX with
  | [_, x], .cons (.str hlw) (.cons hx .nil) =>
  refine ⟨_, rfl, p, _, 0, _, rfl, rfl, SqT.of hp, at_zero, (by show 2 ≤ sizeLine; decide), fun l hl => ⟨l, _, rfl, .inl (SqL.of upd_same), rfl, rfl, _, rfl, ?_⟩⟩
  have s1 : Same H (upd H l (.lst [V.str sMaybe, V.str sMany])) := same_upd hl
  have hp1 := s1 _ _ hp
  have hpa1 := s1.seq hpa
  have hU1 := hU.pers (Pers.same s1)
  have hx1 := hx.pers (Pers.same s1)
  refine ite2 (fun e2 => ?_) (fun e2 => ?_)
  · obtain ⟨_, hw, k, hkk, rfl⟩ := hk.resolve_right fun c => by
      have e3 : inV (V.str w) [V.str sMaybe, V.str sMany] = true := e2
      rw [c.1] at e3
      cases e3
    have hkm : k ∈ e.kids := by rw [hkk]; exact List.mem_singleton.mpr rfl
    refine ⟨_, rfl, p, _, 0, _, rfl, rfl, SqT.of hp1, at_zero, _, rfl, p, _, 1, x, rfl, rfl, SqT.of hp1, at_one, _, rfl, 1, rfl, pa, _, rfl, hpa1, fun q2 hq2 => ⟨_, rfl, x, k, q2, is', u, d, m, rfl, ok_kids hok k hkm, ?_, hx1.pers (Pers.new hq2), ?_, hU1.pers (Pers.new hq2), hW, fun r H' d' s2 r2 w2 => ⟨(by show 2 ≤ sizeLine; decide), fun p3 hp3 => ?_⟩⟩⟩
    · have := depth_kids e k hkm
      omega
    · rw [hcut]
      exact SqL.of upd_same
    · refine q _ _ (.tup [.str w, d']) ((s1.trans (same_upd hq2)).trans (s2.trans (same_upd hp3))) (Rep.tup2 upd_same (by show 2 ≤ 100000; decide) (.cons (.str hlw) (.cons (r2.pers (Pers.new hp3)) .nil))) (wrong_one hw w2 ?_)
      rw [hc]
      simp only [My.D.size, My.D.size.sizes]
      omega
  · obtain ⟨_, hw, hlen, rfl⟩ := hk.resolve_left fun c => e2 c.1
    obtain ⟨p2, xs, rfl, h2, hz2, hX2⟩ := hx1.untup
    have hl2 := hX2.len
    rw [List.length_map] at hl2
    have n0 : (0 : Int) < ((xs.length : Nat) : Int) := by omega
    refine ⟨fun σ' H' => ∃ i : Nat, i < xs.length ∧ σ' = [some (.ref p), some (.ref pa), some u, some (.int i)] ∧ upd H l (.lst [V.str sMaybe, V.str sMany]) = H', ?_, ?_⟩
    · refine ⟨_, rfl, pa, _, 0, _, rfl, rfl, hpa1, at_zero, .inl ⟨_, rfl, _, rfl, p, _, 1, _, rfl, rfl, SqT.of hp1, at_one, _, xs.length, rfl, .inr ⟨_, SqT.of h2, rfl⟩, _, _, rfl, rfl, n0, (i0 % (xs.length : Int)).toNat, ?_, ?_, rfl⟩⟩
      · have h3 := Int.emod_nonneg i0 (show (xs.length : Int) ≠ 0 by omega)
        have h4 := Int.emod_lt_of_pos i0 n0
        omega
      · have h3 := Int.emod_nonneg i0 (show (xs.length : Int) ≠ 0 by omega)
        exact congrArg (fun z : Int => ([some (.ref p), some (.ref pa), some u, some (V.int z)] : L2.St)) (show i0 % (xs.length : Int) = _ by omega)
    · rintro σ' H1 ⟨i, hi, rfl, rfl⟩
      have hie : i < e.kids.length := by omega
      have hxi : xs[i]? = some xs[i] := List.getElem?_eq_getElem hi
      obtain ⟨dk, hdk, hrk⟩ := hX2.get hxi
      rw [List.getElem?_map] at hdk
      obtain ⟨k, hk2, rfl⟩ := Option.map_eq_some_iff.mp hdk
      have hkm := List.mem_of_getElem? hk2
      refine ⟨_, rfl, p, _, 0, _, rfl, rfl, SqT.of hp1, at_zero, ?_⟩
      refine ⟨_, rfl, p, _, 1, _, rfl, rfl, SqT.of hp1, at_one, _, rfl, (i : Int), rfl, slA_take h2 hi fun q1 hq1 => ?_⟩
      have s2 := same_upd (o := .tup (xs.take i)) hq1
      refine ⟨_, rfl, p, _, 1, _, rfl, rfl, SqT.of (s2 _ _ hp1), at_one, _, rfl, p2, _, (i : Int), _, rfl, rfl, SqT.of (s2 _ _ h2), at_of rfl hxi, _, rfl, 1, rfl, pa, _, rfl, s2.seq hpa1, fun q2 hq2 => ?_⟩
      have P2 := Pers.same (s2.trans (same_upd (o := .lst (cutV ((i0 :: is').map V.int) (some 1) none)) hq2))
      refine ⟨_, rfl, xs[i], k, q2, is', u, d, m, rfl, ok_kids hok k hkm, ?_, hrk.pers P2, ?_, hU1.pers P2, hW, fun r H5 d' s5 r5 w5 => ⟨(by show 1 ≤ sizeLine; decide), fun q3 hq3 => ?_⟩⟩
      · have := depth_kids e k hkm
        omega
      · rw [hcut]
        exact SqL.of upd_same
      · have S5 := (s2.trans (same_upd (o := .lst (cutV ((i0 :: is').map V.int) (some 1) none)) hq2)).trans (s5.trans (same_upd (o := .tup [r]) hq3))
        have hq1' := (same_upd (o := .tup [r]) hq3) _ _ (s5 _ _ ((same_upd (o := .lst (cutV ((i0 :: is').map V.int) (some 1) none)) hq2) q1 _ upd_same))
        refine catA_all hq1' upd_same ?_ fun t1 H6 s6 h6 => ?_
        · rw [List.length_take, List.length_singleton]
          exact Nat.le_trans (m := 100001) (by omega) (by decide)
        have S6 := S5.trans s6
        refine ⟨_, rfl, p, _, 1, _, rfl, rfl, SqT.of (S6 _ _ hp1), at_one, _, rfl, _, _, rfl, rfl, _, rfl, ?_⟩
        dsimp only [tNoPart]
        refine slA_drop (S6 _ _ h2) hi fun q4 hq4 => ?_
        refine catA_all ((same_upd hq4) _ _ h6) upd_same ?_ fun t2 H7 s7 h7 => ⟨(by show 2 ≤ sizeLine; decide), fun p8 hp8 => ?_⟩
        · rw [List.length_append, List.length_take, List.length_singleton, List.length_drop]
          exact Nat.le_trans (m := 200001) (by omega) (by decide)
        have S8 := S6.trans ((same_upd (o := .tup (xs.drop (i + 1))) hq4).trans (s7.trans (same_upd (o := .tup [.str w, .ref t2]) hp8)))
        refine q _ _ (.tup [.str w, .tup ((e.kids.map E.toD).take i ++ [d'] ++ (e.kids.map E.toD).drop (i + 1))]) (s1.trans S8) ?_ (by rw [hc]; exact wrong_row hw w5 hie hk2)
        · have h8 := (same_upd (o := .tup [.str w, .ref t2]) hp8) _ _ h7
          have P8 := Pers.same S8
          have R := Rep.pers2 P8 hX2
          refine Rep.tup2 upd_same (by show 2 ≤ 100000; decide) (.cons (.str hlw) (.cons (Rep.tup2 h8 ?_ ?_) .nil))
          · rw [List.length_append, List.length_append, List.length_take, List.length_singleton, List.length_drop]
            omega
          · exact ((R.take i).app (.cons (r5.pers (Pers.same ((same_upd (o := .tup [r]) hq3).trans (s6.trans ((same_upd (o := .tup (xs.drop (i + 1))) hq4).trans (s7.trans (same_upd (o := .tup [.str w, .ref t2]) hp8))))))) .nil)).app (R.drop (i + 1))
end
end My
namespace My
open PySem PySem.Spec PyProof.Rows L2
def spLaw (K : PySem.W.Frag) : Sp := fun vs H Q _ => ∃ (a : Addr) (ns : List Int), vs = [.ref a] ∧ SqL K H a (ns.map V.int) ∧ ns.length ≤ 63 ∧ ∀ H', Q (.bl true) H'
theorem size_toD : ∀ e : E, e.toD.size ≤ 4 * e.parts := by
  have A : ∀ n (e : E), e.depth ≤ n → e.toD.size ≤ 4 * e.parts := by
    intro n
    induction n with
    | zero =>
      intro e h
      cases e with
      | eps => rw [E.toD, E.parts, My.D.size]; omega
      | sym c => rw [E.toD, E.parts, My.D.size]; omega
      | maybe e => rw [E.depth] at h; omega
      | many e => rw [E.depth] at h; omega
      | join es => rw [E.depth] at h; omega
      | alt es => rw [E.depth] at h; omega
    | succ n ih =>
      have rows : ∀ es : List E, (∀ e ∈ es, e.depth ≤ n) → ((es.map E.toD).map My.D.size).sum ≤ 4 * (es.map E.parts).sum := by
        intro es
        induction es with
        | nil => intro _; exact Nat.zero_le _
        | cons e es ih2 =>
          intro h
          have h1 := ih e (h e (List.mem_cons_self ..))
          have h2 := ih2 fun x hx => h x (List.mem_cons_of_mem _ hx)
          simp only [List.map_cons, List.sum_cons]
          omega
      intro e h
      cases e with
      | eps => rw [E.toD, E.parts, My.D.size]; omega
      | sym c => rw [E.toD, E.parts, My.D.size]; omega
      | maybe e =>
        rw [E.depth] at h
        have := ih e (by omega)
        rw [E.toD, E.parts]
        simp only [My.D.size, My.D.size.sizes]
        omega
      | many e =>
        rw [E.depth] at h
        have := ih e (by omega)
        rw [E.toD, E.parts]
        simp only [My.D.size, My.D.size.sizes]
        omega
      | join es =>
        have hk : ∀ e ∈ es, e.depth ≤ n := fun e he => by
          have := depth_kids (.join es) e he
          omega
        have := rows es hk
        rw [E.toD, E.parts, partss_eq, toDs_eq]
        simp only [My.D.size, My.D.size.sizes, sizes_eq]
        omega
      | alt es =>
        have hk : ∀ e ∈ es, e.depth ≤ n := fun e he => by
          have := depth_kids (.alt es) e he
          omega
        have := rows es hk
        rw [E.toD, E.parts, partss_eq, toDs_eq]
        simp only [My.D.size, My.D.size.sizes, sizes_eq]
        omega
  exact fun e => A _ e (Nat.le_refl _)
theorem is_ok {b : Bnd} {e : E} {p d c : Nat} {x : Bool} (h : e.ok = true) (hb : 1 ≤ b.2.2) (hp : e.places = p) (hd : e.depth = d) (hc : e.parts = c) (hx : x = true ↔ p ≤ b.1 ∧ d ≤ b.2.1 ∧ c ≤ b.2.2) : (sizesOf b e.toD).isSome = x := by
  rw [sizes_ok h hb, hp, hd, hc]
  by_cases w : within b (p, d, c) = true
  · rw [if_pos w]
    exact (hx.mpr (within_iff.mp w)).symm
  · rw [if_neg w]
    cases x with
    | false => rfl
    | true => exact absurd (within_iff.mpr (hx.mp rfl)) w
def bls (bs : List Bool) : J := .lst (bs.map J.bl)
theorem repj_bls {H : Hp} {p : Addr} {bs : List Bool} (h : H p = some (.lst (bs.map V.bl))) (z : bs.length ≤ 100) : RepJ H (.ref p) (bls bs) 1 := by
  refine .lst h (by rw [List.length_map]; omega) (by rw [List.length_map, List.length_map]) fun i x j hx hj => ?_
  rw [List.getElem?_map] at hx hj
  cases c : bs[i]? with
  | none => rw [c] at hx; cases hx
  | some b =>
    rw [c] at hx hj
    cases hx
    cases hj
    exact .bl b
def rowE (cs : List Nat) : E := .alt (.eps :: cs.map E.sym)
def wideE (n : Nat) : E := .join (List.replicate n .eps)
theorem rowE_ok {cs : List Nat} (h : ∀ c ∈ cs, 97 ≤ c ∧ c ≤ 100) (h1 : 1 ≤ cs.length) : (rowE cs).ok = true := by
  unfold rowE
  rw [E.ok, oks_eq]
  have a : (E.eps :: cs.map E.sym).all E.ok = true := by
    rw [List.all_eq_true]
    intro x hx
    rcases List.mem_cons.mp hx with rfl | hx
    · rfl
    · obtain ⟨c, hc, rfl⟩ := List.mem_map.mp hx
      have := h c hc
      rw [E.ok, decide_eq_true this.1, decide_eq_true this.2]
      rfl
  have b : (E.eps :: cs.map E.sym).any isAlt = false := any_no fun x hx => by
    rcases List.mem_cons.mp hx with rfl | hx
    · rfl
    · obtain ⟨c, hc, rfl⟩ := List.mem_map.mp hx
      rfl
  rw [a, b, decide_eq_true (by rw [List.length_cons, List.length_map]; omega)]
  rfl
theorem rowE_places (cs : List Nat) : (rowE cs).places = cs.length := by
  unfold rowE
  rw [E.places, placess_eq, List.map_cons, List.sum_cons, List.map_map]
  have : ∀ cs : List Nat, (cs.map (E.places ∘ E.sym)).sum = cs.length := by
    intro cs
    induction cs with
    | nil => rfl
    | cons c cs ih =>
      rw [List.map_cons, List.sum_cons, ih, List.length_cons]
      show 1 + cs.length = cs.length + 1
      omega
  rw [this]
  show 0 + cs.length = cs.length
  omega
theorem rowE_parts (cs : List Nat) : (rowE cs).parts = cs.length + 2 := by
  unfold rowE
  rw [E.parts, partss_eq, List.map_cons, List.sum_cons, List.map_map]
  have : ∀ cs : List Nat, (cs.map (E.parts ∘ E.sym)).sum = cs.length := by
    intro cs
    induction cs with
    | nil => rfl
    | cons c cs ih =>
      rw [List.map_cons, List.sum_cons, ih, List.length_cons]
      show 1 + cs.length = cs.length + 1
      omega
  rw [this]
  show 1 + cs.length + 1 = cs.length + 2
  omega
theorem depths_zero {es : List E} (h : ∀ e ∈ es, e.depth = 0) : E.depth.depths es = 0 := Nat.le_zero.mp (depths_le fun e he => Nat.le_of_eq (h e he))
theorem rowE_depth (cs : List Nat) : (rowE cs).depth = 1 := by
  unfold rowE
  rw [E.depth, depths_zero]
  intro x hx
  rcases List.mem_cons.mp hx with rfl | hx
  · rfl
  · obtain ⟨c, hc, rfl⟩ := List.mem_map.mp hx
    rfl
theorem wideE_ok {n : Nat} (h : 2 ≤ n) : (wideE n).ok = true := by
  unfold wideE
  rw [E.ok, oks_eq]
  have a : (List.replicate n E.eps).all E.ok = true := by
    rw [List.all_eq_true]
    intro x hx
    rw [(List.mem_replicate.mp hx).2]
    rfl
  have b : (List.replicate n E.eps).any isJoin = false := any_no fun x hx => by
    rw [(List.mem_replicate.mp hx).2]
    rfl
  rw [a, b, decide_eq_true (by rw [List.length_replicate]; exact h)]
  rfl
theorem wideE_places (n : Nat) : (wideE n).places = 0 := by
  unfold wideE
  rw [E.places, placess_eq, List.map_replicate]
  show (List.replicate n 0).sum = 0
  rw [List.sum_replicate_nat]
  omega
theorem wideE_parts (n : Nat) : (wideE n).parts = n + 1 := by
  unfold wideE
  rw [E.parts, partss_eq, List.map_replicate]
  show (List.replicate n 1).sum + 1 = n + 1
  rw [List.sum_replicate_nat]
  omega
theorem wideE_depth (n : Nat) : (wideE n).depth = 1 := by
  unfold wideE
  rw [E.depth, depths_zero]
  intro x hx
  rw [(List.mem_replicate.mp hx).2]
  rfl
/-! ### words -/
theorem join_flat (ys : List Str) : (Txt.join sNo ys).cps.toList = (ys.map fun z => z.cps.toList).flatten := by
  rw [TL.join_eq]
  have e := TL.tl_join sNo ys
  have j : ∀ ps : List (List Nat), TL.joinL [] ps = ps.flatten := by
    intro ps
    induction ps with
    | nil => rfl
    | cons p ps ih =>
      cases ps with
      | nil => show p = (p :: []).flatten; simp
      | cons q r =>
        show p ++ ([] ++ TL.joinL [] (q :: r)) = _
        rw [ih]
        rfl
  have n : TL.tl sNo = [] := by decide +kernel
  rw [n, j] at e
  exact e
def Ltr (cs : List Nat) : Prop := ∀ c ∈ cs, c ∈ (Str.ofString "abcd").cps.toList
theorem isWord_yes {z : Str} (h : z.length ≤ 24) (l : Ltr z.cps.toList) : isWord (.str z) = true := by
  show (decide (z.length ≤ 24) && z.cps.toList.all (fun c => decide (c ∈ (Str.ofString "abcd").cps.toList))) = true
  rw [decide_eq_true h, Bool.true_and, List.all_eq_true]
  exact fun c hc => decide_eq_true (l c hc)
theorem isWord_long {z : Str} (h : 24 < z.length) : isWord (.str z) = false := by
  show (decide (z.length ≤ 24) && _) = false
  rw [decide_eq_false (by omega)]
  rfl
theorem isWord_sign {z : Str} {c : Nat} (h : c ∈ z.cps.toList) (n : ¬ c ∈ (Str.ofString "abcd").cps.toList) : isWord (.str z) = false := by
  show (decide (z.length ≤ 24) && z.cps.toList.all (fun c => decide (c ∈ (Str.ofString "abcd").cps.toList))) = false
  have : z.cps.toList.all (fun c => decide (c ∈ (Str.ofString "abcd").cps.toList)) = false := by
    rw [Bool.eq_false_iff]
    intro t
    exact n (of_decide_eq_true (List.all_eq_true.mp t c h))
  rw [this, Bool.and_false]
theorem len_toList (z : Str) : z.cps.toList.length = z.length := Array.length_toList
theorem app_toList (a b : Str) : (a ++ b).cps.toList = a.cps.toList ++ b.cps.toList := by
  show (a.cps ++ b.cps).toList = _
  exact Array.toList_append
theorem app_len (a b : Str) : (a ++ b).length = a.length + b.length := by
  rw [← len_toList, app_toList, List.length_append, len_toList, len_toList]
theorem cutS_take (z : Str) (n : Nat) : (cutS z none (some (n : Int))).cps.toList = z.cps.toList.take n := by
  unfold cutS
  rw [HT.sIx_none, HT.sIx_nat, List.drop_zero, Nat.sub_zero]
  show z.cps.toList.take (min n z.length) = _
  rw [← len_toList]
  rw [List.take_eq_take_iff]
  omega
section
variable {P : Program} {w : World} {K : PySem.W.Frag} {mg : Str → Option Value} {base : Heap} {a_BOUNDS a_LONG_BOUNDS : Addr} {tL tM : Tok}
theorem strm_new {K : PySem.W.Frag} {a : Addr} {H H' : Hp} {p : Addr} {o : HO} (g : Go a H H') (n : H' p = none) : Go a H (upd H' p o) := g.trans (Go.new g.st n)
abbrev N_law : List Str := ["script", "stream", "expression", "path", "wrong", "letters", "row", "deep", "parts", "wide", "told", "word", "long", "bad", "k"]
theorem sc_law : FnScope ["script", "stream", "expression", "path", "wrong", "letters", "row", "deep", "parts", "wide", "told", "word", "long", "bad", "k"] ["script"] (defScope s_law) := ⟨rfl, rfl, rfl, by decide +kernel, rfl, by decide +kernel, by decide +kernel⟩
set_option maxHeartbeats 2000000 in
theorem ok_law {f : Addr} {fd : FuncData} (B : Bt K mg a_BOUNDS a_LONG_BOUNDS tL tM) (Dd : Df K mg "law" s_law ["script"] f fd)
    (G_law_stream : Cl P w K mg base 1 "_law_stream" ["script"] (spStream K)) (G_law_next : Cl P w K mg base 1 "_law_next" ["stream", "many"] spNext) (G_law_pick : Cl P w K mg base 2 "_law_pick" ["stream", "rows"] (spPick K))
    (G_law_expression : Cl P w K mg base 8 "_law_expression" ["stream", "most"] spExpr) (G_law_wrong : Cl P w K mg base 3 "_law_wrong" ["stream"] spWrong) (G_law_at : Cl P w K mg base 5 "_law_at" ["expression", "path", "value"] (spAt K 5))
    (Gis_expression : Cl P w K mg base 5 "is_expression" ["value"] (spIs (8, 6, 24))) (Gis_long : Cl P w K mg base 5 "is_long" ["value"] (spIs (40, 40, 200))) (Gis_word : Cl P w K mg base 2 "is_word" ["value"] spIsWord)
    (G_law_count : Cl P w K mg base 6 "_law_count" ["expression"] (spCount 5)) (G_law_equal : Cl P w K mg base 3 "_law_equal" ["actual", "due"] (spEqual 2)) (G_law_chain : Cl P w K mg base 1 "_law_chain" ["many"] spChain) : FnOk P w K mg base CX0 9 f fd ["script"] (spLaw K) := by
  refine Dd.F.ok sc_law (fun vs H Q Ex h => ?_) (fun cdv A outer s H vs Q Ex hr h => ?_)
  · obtain ⟨a, ns, rfl, _⟩ := h
    rfl
  obtain ⟨sc, ns, rfl, hSc, h63, q⟩ := h
  refine ⟨_, (pss_cons (ps_set (i := 1) sc_law.nd rfl (Or.inr rfl) (pe_cl G_law_stream (hr.mono (by omega)) rfl (pa_cons (pv 0) pa_nil)))
    (pss_cons (ps_set (i := 2) sc_law.nd rfl (Or.inl rfl) (pe_cl G_law_expression (hr.mono (by omega)) rfl (pa_cons (pv 1) (pa_cons pe_int pa_nil))))
    (C8.pss_cut (ps_setLc (i := 3) (own := [("k", 14)]) (g := gName 14) (tt := tYes) rfl sc_law.nd rfl rfl (sw_true rfl rfl rfl (by decide +kernel)) (pi_range1 rfl B.b_range (pa_cons (pe_cl G_law_next (hr.mono (by omega)) rfl (pa_cons (pv 1) (pa_cons pe_int pa_nil))) pa_nil)) (blkOk_by (N := N_law) (sc := defScope s_law) (by decide +kernel)) (fun _ _ _ _ _ => pg_name (i := 14) sc_law.nd rfl (Or.inl rfl)) (fun _ _ _ _ _ => pts_nil) (fun _ _ _ _ _ => (pe_cl G_law_next (hr.mono (by omega)) rfl (pa_cons (pv 1) (pa_cons pe_int pa_nil)))))
    (C8.pss_cut (ps_set (i := 4) sc_law.nd rfl (Or.inl rfl) (pe_cl G_law_at (hr.mono (by omega)) rfl (pa_cons (pv 2) (pa_cons (pv 3) (pa_cons (pe_cl G_law_wrong (hr.mono (by omega)) rfl (pa_cons (pv 1) pa_nil)) pa_nil)))))
    (pss_cons (ps_if (pt_not (pt_val (pe_cl G_law_equal (hr.mono (by omega)) rfl (pa_cons (pe_lst (pa_cons (pe_cl Gis_expression (hr.mono (by omega)) rfl (pa_cons (pv 2) pa_nil)) (pa_cons (pe_cl Gis_long (hr.mono (by omega)) rfl (pa_cons (pv 2) pa_nil)) (pa_cons (pe_cl Gis_expression (hr.mono (by omega)) rfl (pa_cons (pv 4) pa_nil)) (pa_cons (pe_cl Gis_long (hr.mono (by omega)) rfl (pa_cons (pv 4) pa_nil)) pa_nil))))) (pa_cons (pe_lst (pa_cons (pe_cmpR op_le (pe_cl G_law_count (hr.mono (by omega)) rfl (pa_cons (pv 2) pa_nil)) pe_int (nomark _)) (pa_cons pe_bl (pa_cons pe_bl (pa_cons pe_bl pa_nil))))) pa_nil))))) (pss_one (ps_ret pe_bl)) pss_nil)
    (pss_cons (ps_set (i := 5) sc_law.nd rfl (Or.inl rfl) (pe_cl G_law_pick (hr.mono (by omega)) rfl (pa_cons (pv 1) (pa_cons (pe_lst (pa_cons pe_int (pa_cons pe_int (pa_cons pe_int (pa_cons pe_int (pa_cons pe_int (pa_cons pe_int (pa_cons pe_int pa_nil)))))))) pa_nil))))
    (C8.pss_cut (ps_set (i := 6) sc_law.nd rfl (Or.inl rfl) (pe_tup (pa_cons pe_str (pa_cons (pe_op op_catA (pe_tup (pa_cons pe_str pa_nil)) (pe_callTy call_tuple_of rfl B.b_tuple boot_tuple (pa_cons (pe_lc (own := [("k", 14)]) (g := gName 14) (tt := tYes) rfl sc_law.nd (pi_range1 rfl B.b_range (pa_cons (pv 5) pa_nil)) (blkOk_by (N := N_law) (sc := defScope s_law) (by decide +kernel)) (fun _ _ _ _ _ => pg_name (i := 14) sc_law.nd rfl (Or.inl rfl)) (fun _ _ _ _ _ => pts_nil) (fun _ _ _ _ _ => (pe_item_str pe_str (pe_cl G_law_next (hr.mono (by omega)) rfl (pa_cons (pv 1) (pa_cons pe_int pa_nil))) (fun _ _ => rfl)))) pa_nil))) pa_nil))))
    (pss_cons (ps_set (i := 7) sc_law.nd rfl (Or.inl rfl) (pe_cl G_law_pick (hr.mono (by omega)) rfl (pa_cons (pv 1) (pa_cons (pe_lst (pa_cons pe_int (pa_cons pe_int (pa_cons pe_int (pa_cons pe_int (pa_cons pe_int (pa_cons pe_int (pa_cons pe_int pa_nil)))))))) pa_nil))))
    (pss_cons (ps_set (i := 8) sc_law.nd rfl (Or.inl rfl) (pe_cl G_law_pick (hr.mono (by omega)) rfl (pa_cons (pv 1) (pa_cons (pe_lst (pa_cons pe_int (pa_cons pe_int (pa_cons pe_int (pa_cons pe_int (pa_cons pe_int (pa_cons pe_int pa_nil))))))) pa_nil))))
    (C8.pss_cut (ps_set (i := 9) sc_law.nd rfl (Or.inl rfl) (pe_tup (pa_cons pe_str (pa_cons (pe_op op_repT (pe_tup (pa_cons pe_str pa_nil)) (pv 8)) pa_nil))))
    (C8.pss_cut (ps_set (i := 10) sc_law.nd rfl (Or.inl rfl) (pe_lst (pa_cons (pe_cl Gis_expression (hr.mono (by omega)) rfl (pa_cons (pv 6) pa_nil)) (pa_cons (pe_cl Gis_long (hr.mono (by omega)) rfl (pa_cons (pv 6) pa_nil)) (pa_cons (pe_cl Gis_expression (hr.mono (by omega)) rfl (pa_cons (pe_cl G_law_chain (hr.mono (by omega)) rfl (pa_cons (pv 7) pa_nil)) pa_nil)) (pa_cons (pe_cl Gis_long (hr.mono (by omega)) rfl (pa_cons (pe_cl G_law_chain (hr.mono (by omega)) rfl (pa_cons (pv 7) pa_nil)) pa_nil)) (pa_cons (pe_cl Gis_expression (hr.mono (by omega)) rfl (pa_cons (pv 9) pa_nil)) (pa_cons (pe_cl Gis_long (hr.mono (by omega)) rfl (pa_cons (pv 9) pa_nil)) pa_nil))))))))
    (pss_cons (ps_if (pt_not (pt_val (pe_cl G_law_equal (hr.mono (by omega)) rfl (pa_cons (pv 10) (pa_cons (pe_lst (pa_cons (pe_cmpR op_le (pv 5) pe_int (nomark _)) (pa_cons (pe_cmpR op_le (pv 5) pe_int (nomark _)) (pa_cons (pe_cmpR op_le (pv 7) pe_int (nomark _)) (pa_cons (pe_cmpR op_le (pv 7) pe_int (nomark _)) (pa_cons (pe_cmpR op_le (pv 8) pe_int (nomark _)) (pa_cons (pe_cmpR op_le (pv 8) pe_int (nomark _)) pa_nil))))))) pa_nil))))) (pss_one (ps_ret pe_bl)) pss_nil)
    (C8.pss_cut (ps_set (i := 11) sc_law.nd rfl (Or.inl rfl) (pe_join pe_str (pe_lc (own := [("k", 14)]) (g := gName 14) (tt := tYes) rfl sc_law.nd (pi_range1 rfl B.b_range (pa_cons (pe_cl G_law_next (hr.mono (by omega)) rfl (pa_cons (pv 1) (pa_cons pe_int pa_nil))) pa_nil)) (blkOk_by (N := N_law) (sc := defScope s_law) (by decide +kernel)) (fun _ _ _ _ _ => pg_name (i := 14) sc_law.nd rfl (Or.inl rfl)) (fun _ _ _ _ _ => pts_nil) (fun _ _ _ _ _ => (pe_cl G_law_pick (hr.mono (by omega)) rfl (pa_cons (pv 1) (pa_cons (pe_lst (pa_cons pe_str (pa_cons pe_str (pa_cons pe_str (pa_cons pe_str pa_nil))))) pa_nil)))))))
    (C8.pss_cut (ps_set (i := 12) sc_law.nd rfl (Or.inl rfl) (pe_slice sl_str (pe_op op_add_str (pv 11) (pe_op op_mul_str pe_str pe_int)) po_none (po_some pe_int)))
    (pss_cons (ps_set (i := 13) sc_law.nd rfl (Or.inl rfl) (pe_cl G_law_pick (hr.mono (by omega)) rfl (pa_cons (pv 1) (pa_cons (pe_lst (pa_cons pe_non (pa_cons (pe_lst (pa_cons (pv 11) pa_nil)) (pa_cons pe_int (pa_cons (pe_op op_add_str (pv 12) pe_str) (pa_cons pe_str (pa_cons (pe_op op_add_str (pe_slice sl_str (pv 11) po_none (po_some pe_int)) pe_str) (pa_cons (pe_op op_add_str (pe_slice sl_str (pv 11) po_none (po_some pe_int)) pe_str) (pa_cons pe_bl (pa_cons (pe_tup (pa_cons pe_str pa_nil)) pa_nil)))))))))) pa_nil))))
    (pss_one (ps_ret (pe_cl G_law_equal (hr.mono (by omega)) rfl (pa_cons (pe_lst (pa_cons (pe_cl Gis_word (hr.mono (by omega)) rfl (pa_cons (pv 11) pa_nil)) (pa_cons (pe_cl Gis_word (hr.mono (by omega)) rfl (pa_cons (pv 12) pa_nil)) (pa_cons (pe_cl Gis_word (hr.mono (by omega)) rfl (pa_cons pe_str pa_nil)) (pa_cons (pe_cl Gis_word (hr.mono (by omega)) rfl (pa_cons (pv 13) pa_nil)) pa_nil))))) (pa_cons (pe_lst (pa_cons pe_bl (pa_cons pe_bl (pa_cons pe_bl (pa_cons pe_bl pa_nil))))) pa_nil)))))))))))))))))))), ?_⟩
  -- stream, expression
  refine ⟨_, rfl, sc, ns, rfl, hSc, h63, fun a H1 s1 _ hS1 => ?_⟩
  refine ⟨_, rfl, a, 8, rfl, hS1, by decide, by decide, fun v H2 e g2 hR hD => ?_⟩
  have hsz : e.toD.size ≤ 484 := by
    have h1 := size_toD e
    have h2 : e.parts ≤ pb 4 := hD.pt
    have h3 : pb 4 = 121 := rfl
    omega
  -- path
  refine ⟨fun σ' H' => ∃ (pa : Addr) (is : List Int), σ' = [some (.ref sc), some (.ref a), some v, some (.ref pa), none, none, none, none, none, none, none, none, none, none, none] ∧ Go a H2 H' ∧ pa ≠ a ∧ H' pa = some (.lst (is.map V.int)), ?_, ?_⟩
  · refine ⟨_, rfl, a, 4, rfl, g2.st, by decide, by decide, fun d H3 d0 d1 g3 => ⟨_, rfl, by omega, by omega, fun L hL => ?_⟩⟩
    refine lc_range (lo := 0) (n := d.toNat) (fun i H' => Go a H2 H' ∧ H2 L = none ∧ ∃ is : List Int, is.length = i ∧ H' L = some (.lst (is.map V.int))) ⟨strm_new (K := K) g3 hL, ?_, [], rfl, upd_same⟩ (fun i H' hi h => ?_) (fun H' h => ?_)
    · cases c : H2 L with
      | none => rfl
      | some o =>
        by_cases n : L = a
        · subst n
          obtain ⟨xs, hx⟩ := g3.st.isl
          rw [hL] at hx
          cases hx
        · have := g3.keep _ _ c n
          rw [hL] at this
          cases this
    · obtain ⟨h1, h2, is, h3, h4⟩ := h
      refine ⟨rfl, tyes ⟨_, rfl, a, 3, rfl, h1.st, by decide, by decide, fun d5 H5 d50 d51 g5 => ?_⟩⟩
      have nLa : L ≠ a := fun e => by
        obtain ⟨xs, hx⟩ := g3.st0.isl
        rw [e, hx] at h2
        cases h2
      refine ⟨_, g5.keep _ _ h4 nLa, ?_, (h1.trans g5).loc h2, h2, is ++ [d5], by rw [List.length_append, h3]; rfl, ?_⟩
      · rw [List.length_map, h3]
        exact Nat.lt_of_le_of_lt (m := 100) (by omega) (by decide)
      · rw [upd_same, List.map_append]
        rfl
    · obtain ⟨h1, h2, is, h3, h4⟩ := h
      refine ⟨L, is, rfl, h1, fun e => ?_, h4⟩
      obtain ⟨xs, hx⟩ := g3.st0.isl
      rw [e, hx] at h2
      cases h2
  rintro σ' H3 ⟨pa, is, rfl, g3, npa, hpa⟩
  have hR3 := hR.pers g3.pers
  -- wrong
  refine ⟨fun σ' H' => ∃ (u : V) (d : My.D), σ' = [some (.ref sc), some (.ref a), some v, some (.ref pa), some u, none, none, none, none, none, none, none, none, none, none] ∧ Go a H3 H' ∧ Rep H' u d ∧ Wrong d 600, ?_, ?_⟩
  · refine ⟨_, rfl, _, rfl, _, rfl, a, rfl, g3.st, fun u H4 d g4 r4 w4 => ⟨v, e, pa, is, u, d, 50, rfl, hD.ok, by have := hD.dp; omega, hR3.pers g4.pers, ?_, r4, w4, fun r H5 d' s5 r5 w5 => ⟨r, d', rfl, g4.trans (Go.same g4.st s5), r5, w5.mono (by omega)⟩⟩⟩
    exact SqL.of (g4.keep _ _ hpa npa)
  rintro σ' H5 ⟨u, d, rfl, g5, hU5, hW⟩
  have hR5 := hR3.pers g5.pers
  have bad8 : (sizesOf (8, 6, 24) d).isSome = false := by rw [sizes_bad hW.bad]; rfl
  have bad40 : (sizesOf (40, 40, 200) d).isSome = false := by rw [sizes_bad hW.bad]; rfl
  have good8 : (sizesOf (8, 6, 24) e.toD).isSome = decide ((e.parts : Int) ≤ 24) := by
    have h1 : e.places ≤ 8 := hD.pl
    have h2 : e.depth ≤ 4 := hD.dp
    refine is_ok hD.ok (by decide) rfl rfl rfl ?_
    rw [decide_eq_true_eq]
    show (e.parts : Int) ≤ 24 ↔ e.places ≤ 8 ∧ e.depth ≤ 6 ∧ e.parts ≤ 24
    omega
  have good40 : (sizesOf (40, 40, 200) e.toD).isSome = true := by
    have h1 : e.places ≤ 8 := hD.pl
    have h2 : e.depth ≤ 4 := hD.dp
    have h3 : e.parts ≤ 121 := hD.pt
    refine is_ok hD.ok (by decide) rfl rfl rfl ?_
    refine ⟨fun _ => ?_, fun _ => rfl⟩
    show e.places ≤ 40 ∧ e.depth ≤ 40 ∧ e.parts ≤ 200
    omega
  have hfe := fl_toD e
  have hse : e.toD.size ≤ 1000000 := by omega
  have hsd : d.size ≤ 1000000 := by have := hW.sz; omega
  refine ⟨_, rfl, v, e.toD, rfl, hR5, hfe, hse, fun H6 s6 => ⟨_, rfl, v, e.toD, rfl, hR5.pers (Pers.same s6), hfe, hse, fun H7 s7 => ?_⟩⟩
  have S7 := s6.trans s7
  refine ⟨_, rfl, u, d, rfl, hU5.pers (Pers.same S7), hW.fl, hsd, fun H8 s8 => ⟨_, rfl, u, d, rfl, hU5.pers (Pers.same (S7.trans s8)), hW.fl, hsd, fun H9 s9 => ⟨(by show 4 ≤ sizeLine; decide), fun l1 hl1 => ?_⟩⟩⟩
  have S9 := S7.trans (s8.trans s9)
  rw [bad8, bad40, good8, good40]
  have S9' := S9.trans (same_upd (o := .lst [V.bl (decide ((e.parts : Int) ≤ 24)), V.bl true, V.bl false, V.bl false]) hl1)
  refine ⟨_, rfl, v, e, rfl, hD.ok, by have := hD.dp; omega, hR5.pers (Pers.same S9'), fun H10 s10 => ⟨_, _, rfl, rfl, (by show 4 ≤ sizeLine; decide), fun l2 hl2 => ?_⟩⟩
  have e10 := s10 _ _ upd_same
  refine ⟨.ref l1, .ref l2, bls [decide ((e.parts : Int) ≤ 24), true, false, false], 1, rfl, by decide, repj_bls ((same_upd hl2) _ _ e10) (by show 4 ≤ 100; decide), repj_bls upd_same (by show 4 ≤ 100; decide), fun H11 s11 => ⟨_, rfl, iteF ?_⟩⟩
  have S11 : Same H5 H11 := S9'.trans (s10.trans ((same_upd hl2).trans s11))
  have g11 : Go a H5 H11 := Go.same g5.st S11
  clear S11 s11 e10 hl2 s10 S9' S9 s9 s8 S7 s7 s6 hl1
  -- letters
  refine ⟨_, rfl, (by show 7 ≤ sizeLine; decide), fun l hl => ⟨a, l, _, rfl, g11.st.same (same_upd hl), SqL.of upd_same, (g11.st.ne hl).symm, by decide, by decide, fun vL H12 hv g12 => ?_⟩⟩
  obtain ⟨L, rfl, hL1, hL2⟩ : ∃ L : Nat, vL = .int L ∧ 1 ≤ L ∧ L ≤ 41 := by
    simp only [List.mem_cons, List.not_mem_nil, or_false] at hv
    rcases hv with rfl | rfl | rfl | rfl | rfl | rfl | rfl
    · exact ⟨1, rfl, by decide, by decide⟩
    · exact ⟨7, rfl, by decide, by decide⟩
    · exact ⟨8, rfl, by decide, by decide⟩
    · exact ⟨9, rfl, by decide, by decide⟩
    · exact ⟨39, rfl, by decide, by decide⟩
    · exact ⟨40, rfl, by decide, by decide⟩
    · exact ⟨41, rfl, by decide, by decide⟩
  have G12 : Go a H12 H12 := Go.refl g12.st
  clear hv hl
  -- row
  refine ⟨fun σ' H' => ∃ (rv : V) (cs : List Nat), σ' = [some (.ref sc), some (.ref a), some v, some (.ref pa), some u, some (.int L), some rv, none, none, none, none, none, none, none, none] ∧ Go a H12 H' ∧ Rep H' rv (rowE cs).toD ∧ (∀ c ∈ cs, 97 ≤ c ∧ c ≤ 100) ∧ cs.length = L, ?_, ?_⟩
  · refine ⟨(by show 1 ≤ sizeLine; decide), fun t1 ht1 => ⟨_, rfl, _, rfl, by omega, by omega, fun Lc hLc => ?_⟩⟩
    have G0 := Go.new (o := .tup [V.str sNo]) g12.st ht1
    have nLa : Lc ≠ a := (G0.st.ne hLc).symm
    have nt1 : t1 ≠ a := (g12.st.ne ht1).symm
    refine lc_range (lo := 0) (n := L) (fun i H' => Go a (upd H12 t1 (.tup [V.str sNo])) H' ∧ ∃ cs : List Nat, cs.length = i ∧ (∀ c ∈ cs, 97 ≤ c ∧ c ≤ 100) ∧ H' Lc = some (.lst (cs.map fun c => V.str ⟨#[c]⟩))) ⟨Go.new G0.st hLc, [], rfl, (fun c hc => by cases hc), upd_same⟩ (fun i H' hi h => ?_) (fun H' h => ?_)
    · obtain ⟨h1, cs, h2, h3, h4⟩ := h
      refine ⟨rfl, tyes ⟨_, rfl, a, 4, rfl, h1.st, by decide, by decide, fun d5 H6 d50 d51 g6 => ⟨_, _, 97 + d5.toNat, rfl, rfl, d50, by omega, ?_, ?_, ?_⟩⟩⟩
      · have : (Str.ofString "abcd").length = 4 := by decide +kernel
        rw [this]
        omega
      · have e4 : (Str.ofString "abcd").cps = #[97, 98, 99, 100] := by decide +kernel
        rw [e4]
        have : d5.toNat = 0 ∨ d5.toNat = 1 ∨ d5.toNat = 2 ∨ d5.toNat = 3 := by omega
        rcases this with h | h | h | h <;> rw [h] <;> rfl
      · refine ⟨_, g6.keep _ _ h4 nLa, ?_, (h1.trans g6).loc hLc, cs ++ [97 + d5.toNat], by rw [List.length_append, h2]; rfl, ?_, ?_⟩
        · rw [List.length_map, h2]
          exact Nat.lt_of_le_of_lt (m := 100) (by omega) (by decide)
        · intro c hc
          rcases List.mem_append.mp hc with hc | hc
          · exact h3 c hc
          · rw [List.mem_singleton] at hc
            omega
        · rw [upd_same, List.map_append]
          rfl
    · obtain ⟨h1, cs, h2, h3, h4⟩ := h
      have ht1' := h1.keep _ _ upd_same nt1
      refine ⟨Lc, _, rfl, .inl ⟨SqL.of h4, fun t2 ht2 => ?_⟩⟩
      refine catA_all ((same_upd ht2) _ _ ht1') upd_same ?_ fun t3 H7 s7 h7 => ⟨(by show 2 ≤ sizeLine; decide), fun p hp => ?_⟩
      · rw [List.length_singleton, List.length_map, h2]
        exact Nat.le_trans (m := 100) (by omega) (by decide)
      · have hc7 := (same_upd (o := .tup [V.str sOr, V.ref t3]) hp) _ _ h7
        refine ⟨_, cs, rfl, (G0.trans h1).trans ((Go.new h1.st ht2).trans ((Go.same (h1.st.same (same_upd ht2)) s7).trans (Go.new ((h1.st.same (same_upd ht2)).same s7) hp))), ?_, h3, h2⟩
        unfold rowE
        rw [E.toD, toDs_eq]
        refine Rep.tup2 upd_same (by show 2 ≤ 100000; decide) (.cons (.str (by show sOr.length ≤ 1000; rw [lO]; decide)) (.cons (Rep.tup2 hc7 ?_ (.cons (by rw [E.toD]; exact .str (by rw [lE]; decide)) ?_)) .nil))
        · rw [List.length_append, List.length_map, h2]
          show 1 + L ≤ 100000
          omega
        · have : ∀ (H : Hp) (cs : List Nat), Two (Rep H) (cs.map fun c => V.str ⟨#[c]⟩) ((cs.map E.sym).map E.toD) := fun H cs => by
            induction cs with
            | nil => exact .nil
            | cons c cs ih => exact .cons (rep_sym c) ih
          exact this _ cs
  rintro σ' H13 ⟨rv, cs, rfl, g13, hrv, hcs, hcl⟩
  -- deep, parts
  refine ⟨_, rfl, (by show 7 ≤ sizeLine; decide), fun l hl => ⟨a, l, _, rfl, g13.st.same (same_upd hl), SqL.of upd_same, (g13.st.ne hl).symm, by decide, by decide, fun vD H14 hv g14 => ?_⟩⟩
  obtain ⟨dp, rfl, hdp⟩ : ∃ dp : Nat, vD = .int dp ∧ dp ≤ 3000 := by
    simp only [List.mem_cons, List.not_mem_nil, or_false] at hv
    rcases hv with rfl | rfl | rfl | rfl | rfl | rfl | rfl
    · exact ⟨5, rfl, by decide⟩
    · exact ⟨6, rfl, by decide⟩
    · exact ⟨7, rfl, by decide⟩
    · exact ⟨39, rfl, by decide⟩
    · exact ⟨40, rfl, by decide⟩
    · exact ⟨41, rfl, by decide⟩
    · exact ⟨3000, rfl, by decide⟩
  have G14 := (Go.new (o := .lst [V.int 5, V.int 6, V.int 7, V.int 39, V.int 40, V.int 41, V.int 3000]) g13.st hl).trans g14
  clear hv hl
  refine ⟨_, rfl, (by show 6 ≤ sizeLine; decide), fun l hl => ⟨a, l, _, rfl, G14.st.same (same_upd hl), SqL.of upd_same, (G14.st.ne hl).symm, by decide, by decide, fun vP H15 hv g15 => ?_⟩⟩
  obtain ⟨pt, rfl, hpt1, hpt2⟩ : ∃ pt : Nat, vP = .int pt ∧ 22 ≤ pt ∧ pt ≤ 200 := by
    simp only [List.mem_cons, List.not_mem_nil, or_false] at hv
    rcases hv with rfl | rfl | rfl | rfl | rfl | rfl
    · exact ⟨22, rfl, by decide, by decide⟩
    · exact ⟨23, rfl, by decide, by decide⟩
    · exact ⟨24, rfl, by decide, by decide⟩
    · exact ⟨198, rfl, by decide, by decide⟩
    · exact ⟨199, rfl, by decide, by decide⟩
    · exact ⟨200, rfl, by decide, by decide⟩
  have G15 := G14.trans ((Go.new (o := .lst [V.int 22, V.int 23, V.int 24, V.int 198, V.int 199, V.int 200]) G14.st hl).trans g15)
  clear hv hl
  have hrv15 := hrv.pers G15.pers
  -- wide
  refine ⟨fun σ' H' => ∃ (wv : V), σ' = [some (.ref sc), some (.ref a), some v, some (.ref pa), some u, some (.int L), some rv, some (.int dp), some (.int pt), some wv, none, none, none, none, none] ∧ Same H15 H' ∧ Rep H' wv (wideE pt).toD, ?_, ?_⟩
  · refine ⟨(by show 1 ≤ sizeLine; decide), fun t1 ht1 => ⟨_, rfl, t1, (pt : Int), _, rfl, rfl, SqT.of upd_same, (by intro c; cases c), by omega, by omega, by decide, fun t2 ht2 => ⟨(by show 2 ≤ sizeLine; decide), fun p hp => ⟨_, rfl, (same_upd ht1).trans ((same_upd ht2).trans (same_upd hp)), ?_⟩⟩⟩⟩
    have e1 : (List.replicate (pt : Int).toNat [V.str sNo]).flatten = List.replicate pt (V.str sNo) := by
      rw [Int.toNat_natCast]
      have : ∀ n, (List.replicate n [V.str sNo]).flatten = List.replicate n (V.str sNo) := fun n => by
        induction n with
        | zero => rfl
        | succ n ih =>
          rw [List.replicate_succ, List.flatten_cons, ih, List.replicate_succ]
          rfl
      exact this pt
    unfold wideE
    rw [E.toD, toDs_eq]
    refine Rep.tup2 upd_same (by show 2 ≤ 100000; decide) (.cons (.str (by show sJoin.length ≤ 1000; rw [lJ]; decide)) (.cons (Rep.tup2 ((same_upd hp) _ _ upd_same) ?_ ?_) .nil))
    · show (List.replicate (pt : Int).toNat [V.str sNo]).flatten.length ≤ 100000
      rw [e1, List.length_replicate]
      omega
    · show Two _ (List.replicate (pt : Int).toNat [V.str sNo]).flatten _
      rw [e1, List.map_replicate]
      have : ∀ (H : Hp) (n : Nat), Two (Rep H) (List.replicate n (V.str sNo)) (List.replicate n E.eps.toD) := fun H n => by
        induction n with
        | zero => exact .nil
        | succ n ih => exact .cons rep_eps ih
      exact this _ pt
  rintro σ' H16 ⟨wv, rfl, s16, hwv⟩
  have hrv16 := hrv15.pers (Pers.same s16)
  -- told
  have r1 : (sizesOf (8, 6, 24) (rowE cs).toD).isSome = decide ((L : Int) ≤ 8) := by
    refine is_ok (rowE_ok hcs (by omega)) (by decide) (rowE_places cs) (rowE_depth cs) (rowE_parts cs) ?_
    rw [decide_eq_true_eq]
    show (L : Int) ≤ 8 ↔ cs.length ≤ 8 ∧ 1 ≤ 6 ∧ cs.length + 2 ≤ 24
    omega
  have r2 : (sizesOf (40, 40, 200) (rowE cs).toD).isSome = decide ((L : Int) ≤ 40) := by
    refine is_ok (rowE_ok hcs (by omega)) (by decide) (rowE_places cs) (rowE_depth cs) (rowE_parts cs) ?_
    rw [decide_eq_true_eq]
    show (L : Int) ≤ 40 ↔ cs.length ≤ 40 ∧ 1 ≤ 40 ∧ cs.length + 2 ≤ 200
    omega
  have r5 : (sizesOf (8, 6, 24) (wideE pt).toD).isSome = decide ((pt : Int) ≤ 23) := by
    refine is_ok (wideE_ok (by omega)) (by decide) (wideE_places pt) (wideE_depth pt) (wideE_parts pt) ?_
    rw [decide_eq_true_eq]
    show (pt : Int) ≤ 23 ↔ 0 ≤ 8 ∧ 1 ≤ 6 ∧ pt + 1 ≤ 24
    omega
  have r6 : (sizesOf (40, 40, 200) (wideE pt).toD).isSome = decide ((pt : Int) ≤ 199) := by
    refine is_ok (wideE_ok (by omega)) (by decide) (wideE_places pt) (wideE_depth pt) (wideE_parts pt) ?_
    rw [decide_eq_true_eq]
    show (pt : Int) ≤ 199 ↔ 0 ≤ 40 ∧ 1 ≤ 40 ∧ pt + 1 ≤ 200
    omega
  have zr : (rowE cs).toD.size ≤ 1000000 := by
    have := size_toD (rowE cs)
    rw [rowE_parts] at this
    omega
  have zw : (wideE pt).toD.size ≤ 1000000 := by
    have := size_toD (wideE pt)
    rw [wideE_parts] at this
    omega
  refine ⟨fun σ' H' => ∃ tl : Addr, σ' = [some (.ref sc), some (.ref a), some v, some (.ref pa), some u, some (.int L), some rv, some (.int dp), some (.int pt), some wv, some (.ref tl), none, none, none, none] ∧ Same H16 H' ∧ H' tl = some (.lst ([decide ((L : Int) ≤ 8), decide ((L : Int) ≤ 40), decide ((dp : Int) ≤ 6), decide ((dp : Int) ≤ 40), decide ((pt : Int) ≤ 23), decide ((pt : Int) ≤ 199)].map V.bl)), ?_, ?_⟩
  · refine ⟨_, rfl, rv, _, rfl, hrv16, fl_toD _, zr, fun H17 s17 => ⟨_, rfl, rv, _, rfl, hrv16.pers (Pers.same s17), fl_toD _, zr, fun H18 s18 => ?_⟩⟩
    refine ⟨_, rfl, dp, rfl, by omega, fun v19 H19 e19 s19 r19 o19 p19 d19 c19 => ⟨v19, e19.toD, rfl, r19, fl_toD _, ?_, fun H20 s20 => ?_⟩⟩
    · have := size_toD e19
      omega
    refine ⟨_, rfl, dp, rfl, by omega, fun v21 H21 e21 s21 r21 o21 p21 d21 c21 => ⟨v21, e21.toD, rfl, r21, fl_toD _, ?_, fun H22 s22 => ?_⟩⟩
    · have := size_toD e21
      omega
    have S22 := (s17.trans s18).trans ((s19.trans s20).trans (s21.trans s22))
    have r3 : (sizesOf (8, 6, 24) e19.toD).isSome = decide ((dp : Int) ≤ 6) := by
      refine is_ok o19 (by decide) p19 d19 c19 ?_
      rw [decide_eq_true_eq]
      show (dp : Int) ≤ 6 ↔ 1 ≤ 8 ∧ dp ≤ 6 ∧ dp + 1 ≤ 24
      omega
    have r4 : (sizesOf (40, 40, 200) e21.toD).isSome = decide ((dp : Int) ≤ 40) := by
      refine is_ok o21 (by decide) p21 d21 c21 ?_
      rw [decide_eq_true_eq]
      show (dp : Int) ≤ 40 ↔ 1 ≤ 40 ∧ dp ≤ 40 ∧ dp + 1 ≤ 200
      omega
    refine ⟨_, rfl, wv, _, rfl, hwv.pers (Pers.same S22), fl_toD _, zw, fun H23 s23 => ⟨_, rfl, wv, _, rfl, hwv.pers (Pers.same (S22.trans s23)), fl_toD _, zw, fun H24 s24 => ⟨(by show 6 ≤ sizeLine; decide), fun tl htl => ?_⟩⟩⟩
    rw [r1, r2, r3, r4, r5, r6]
    exact ⟨tl, rfl, (S22.trans (s23.trans s24)).trans (same_upd htl), upd_same⟩
  rintro σ' H17 ⟨tl, rfl, s17, htl⟩
  refine ⟨_, rfl, _, rfl, _, _, rfl, rfl, _, rfl, _, _, rfl, rfl, _, rfl, _, _, rfl, rfl, _, rfl, _, _, rfl, rfl, _, rfl, _, _, rfl, rfl, _, rfl, _, _, rfl, rfl, (by show 6 ≤ sizeLine; decide), fun l2 hl2 => ?_⟩
  refine ⟨.ref tl, .ref l2, bls [decide ((L : Int) ≤ 8), decide ((L : Int) ≤ 40), decide ((dp : Int) ≤ 6), decide ((dp : Int) ≤ 40), decide ((pt : Int) ≤ 23), decide ((pt : Int) ≤ 199)], 1, rfl, by decide, repj_bls ((same_upd hl2) _ _ htl) (by show 6 ≤ 100; decide), repj_bls upd_same (by show 6 ≤ 100; decide), fun H18 s18 => ⟨_, rfl, iteF ?_⟩⟩
  have g18 : Go a H15 H18 := Go.same G15.st (s16.trans (s17.trans ((same_upd hl2).trans s18)))
  clear hl2 s18
  -- word
  refine ⟨fun σ' H' => ∃ z : Str, σ' = [some (.ref sc), some (.ref a), some v, some (.ref pa), some u, some (.int L), some rv, some (.int dp), some (.int pt), some wv, some (.ref tl), some (.str z), none, none, none] ∧ Go a H18 H' ∧ z.length ≤ 24 ∧ Ltr z.cps.toList, ?_, ?_⟩
  · refine ⟨⟨_, rfl⟩, _, rfl, a, 25, rfl, g18.st, by decide, by decide, fun d5 H19 d50 d51 g19 => ⟨_, rfl, by omega, by omega, fun Lc hLc => ?_⟩⟩
    have G19 := g19.trans (Go.new (o := .lst []) g19.st hLc)
    have nLa : Lc ≠ a := (g19.st.ne hLc).symm
    refine lc_range (lo := 0) (n := d5.toNat) (fun i H' => Go a H19 H' ∧ ∃ ys : List Str, ys.length = i ∧ (∀ y ∈ ys, y.length = 1 ∧ Ltr y.cps.toList) ∧ H' Lc = some (.lst (ys.map V.str))) ⟨Go.new g19.st hLc, [], rfl, (fun y hy => by cases hy), upd_same⟩ (fun i H' hi h => ?_) (fun H' h => ?_)
    · obtain ⟨h1, ys, h2, h3, h4⟩ := h
      refine ⟨rfl, tyes ⟨_, rfl, (by show 4 ≤ sizeLine; decide), fun l hl => ⟨a, l, _, rfl, h1.st.same (same_upd hl), SqL.of upd_same, (h1.st.ne hl).symm, by decide, by decide, fun vy H6 hv g6 => ?_⟩⟩⟩
      obtain ⟨y, rfl, hy1, hy2⟩ : ∃ y : Str, vy = .str y ∧ y.length = 1 ∧ Ltr y.cps.toList := by
        simp only [List.mem_cons, List.not_mem_nil, or_false] at hv
        have A : ∀ y : Str, (decide (y.length = 1) && y.cps.toList.all fun c => decide (c ∈ (Str.ofString "abcd").cps.toList)) = true → y.length = 1 ∧ Ltr y.cps.toList := fun y h => by
          rw [Bool.and_eq_true, decide_eq_true_eq, List.all_eq_true] at h
          exact ⟨h.1, fun c hc => of_decide_eq_true (h.2 c hc)⟩
        rcases hv with rfl | rfl | rfl | rfl <;> exact ⟨_, rfl, A _ (by decide +kernel)⟩
      have h4' := g6.keep _ _ ((same_upd hl) _ _ h4) nLa
      refine ⟨_, h4', ?_, ((h1.trans (Go.new h1.st hl)).trans g6).loc hLc, ys ++ [y], by rw [List.length_append, h2]; rfl, ?_, ?_⟩
      · rw [List.length_map, h2]
        exact Nat.lt_of_le_of_lt (m := 100) (by omega) (by decide)
      · intro y' hy'
        rcases List.mem_append.mp hy' with hy' | hy'
        · exact h3 y' hy'
        · rw [List.mem_singleton] at hy'
          rw [hy']
          exact ⟨hy1, hy2⟩
      · rw [upd_same, List.map_append]
        rfl
    · obtain ⟨h1, ys, h2, h3, h4⟩ := h
      have hfl := join_flat ys
      have hsum : (ys.map (·.length)).sum = ys.length := by
        clear h4 h2 hfl
        induction ys with
        | nil => rfl
        | cons y ys ih =>
          rw [List.map_cons, List.sum_cons, ih fun y' hy' => h3 y' (List.mem_cons_of_mem _ hy'), (h3 y (List.mem_cons_self ..)).1, List.length_cons]
          omega
      have hlen : (Txt.join sNo ys).length = ys.length := by
        rw [← len_toList, hfl, List.length_flatten, List.map_map, ← hsum]
        refine congrArg List.sum (List.map_congr_left fun y hy => ?_)
        exact len_toList y
      refine ⟨sNo, Lc, ys, rfl, rfl, .inl (SqL.of h4), ?_, ?_⟩
      · rw [hsum, lE]
        omega
      · refine ⟨_, rfl, g19.trans h1, by rw [hlen]; omega, fun c hc => ?_⟩
        have hc' : c ∈ (Txt.join sNo ys).cps.toList := hc
        rw [hfl] at hc'
        obtain ⟨l, hl, hc2⟩ := List.mem_flatten.mp hc'
        obtain ⟨y, hy, rfl⟩ := List.mem_map.mp hl
        exact (h3 y hy).2 c hc2
  rintro σ' H20 ⟨z, rfl, g20, hz1, hz2⟩
  -- long
  have mA : Txt.mul (Str.ofString "a") 24 = Str.ofString "aaaaaaaaaaaaaaaaaaaaaaaa" := by decide +kernel
  have lA : (Str.ofString "aaaaaaaaaaaaaaaaaaaaaaaa").length = 24 := by decide +kernel
  have LA : Ltr (Str.ofString "aaaaaaaaaaaaaaaaaaaaaaaa").cps.toList := by
    intro c hc
    have : (Str.ofString "aaaaaaaaaaaaaaaaaaaaaaaa").cps.toList.all (fun c => decide (c ∈ (Str.ofString "abcd").cps.toList)) = true := by decide +kernel
    exact of_decide_eq_true (List.all_eq_true.mp this c hc)
  refine ⟨fun σ' H' => ∃ y : Str, σ' = [some (.ref sc), some (.ref a), some v, some (.ref pa), some u, some (.int L), some rv, some (.int dp), some (.int pt), some wv, some (.ref tl), some (.str z), some (.str y), none, none] ∧ H20 = H' ∧ y.length = 24 ∧ Ltr y.cps.toList, ?_, ?_⟩
  · refine ⟨_, rfl, _, _, rfl, rfl, ⟨by decide +kernel, by decide +kernel, by decide +kernel⟩, ?_⟩
    have hz3 : (z ++ Txt.mul (Str.ofString "a") 24).length = z.length + 24 := by rw [app_len, mA, lA]
    refine ⟨_, _, rfl, rfl, ?_, ?_⟩
    · rw [mA, lA]
      exact Nat.le_trans (m := 48) (by omega) (by decide)
    refine ⟨24, rfl, _, rfl, ?_, ?_⟩
    · rw [hz3]
      exact Nat.le_trans (m := 48) (by omega) (by decide)
    · have e1 : (cutS (z ++ Txt.mul (Str.ofString "a") 24) none (some 24)).cps.toList = (z ++ Txt.mul (Str.ofString "a") 24).cps.toList.take 24 := cutS_take _ 24
      refine ⟨_, rfl, rfl, ?_, ?_⟩
      · rw [← len_toList, e1, List.length_take, len_toList, hz3]
        omega
      · rw [e1]
        intro c hc
        have := List.mem_of_mem_take hc
        rw [app_toList, mA] at this
        rcases List.mem_append.mp this with h | h
        · exact hz2 c h
        · exact LA c h
  rintro σ' H21 ⟨y, rfl, rfl, hy1, hy2⟩
  -- bad
  have lb : (Str.ofString "b").length = 1 := by decide +kernel
  have lAA : (Str.ofString "A").length = 1 := by decide +kernel
  have lsp : (Str.ofString " ").length = 1 := by decide +kernel
  have ct : (cutS z none (some 23)).cps.toList = z.cps.toList.take 23 := cutS_take z 23
  have ctl : (cutS z none (some 23)).length ≤ 24 := by
    rw [← len_toList, ct, List.length_take, len_toList]
    omega
  have hzs : z.length ≤ sizeLine := Nat.le_trans hz1 (by decide)
  refine ⟨_, rfl, _, rfl, (by show 1 ≤ sizeLine; decide), fun l1 hl1 => ⟨_, rfl, _, _, rfl, rfl, ?_, ?_⟩⟩
  · rw [hy1, lb]
    decide
  refine ⟨_, rfl, 23, rfl, z, rfl, hzs, _, _, rfl, rfl, ?_, ?_⟩
  · rw [lAA]
    exact Nat.le_trans (m := 25) (by omega) (by decide)
  refine ⟨_, rfl, 23, rfl, z, rfl, hzs, _, _, rfl, rfl, ?_, (by show 1 ≤ sizeLine; decide), fun t1 ht1 => ⟨(by show 9 ≤ sizeLine; decide), fun l hl => ?_⟩⟩
  · rw [lsp]
    exact Nat.le_trans (m := 25) (by omega) (by decide)
  have P1 : Same H20 (upd H20 l1 (.lst [.str z])) := same_upd hl1
  have P2 := P1.trans (same_upd (o := .tup [V.str (Str.ofString "a")]) ht1)
  have P3 := P2.trans (same_upd (o := .lst [V.non, .ref l1, .int 7, .str (y ++ Str.ofString "b"), .str (Str.ofString "e"), .str (cutS z none (some 23) ++ Str.ofString "A"), .str (cutS z none (some 23) ++ Str.ofString " "), .bl true, .ref t1]) hl)
  refine ⟨a, l, _, rfl, g20.st.same P3, SqL.of upd_same, ((g20.st.same P2).ne hl).symm, (by show 0 < 9; decide), (by show 9 < 1000; decide), fun vb H22 hv g22 => ?_⟩
  obtain ⟨db, hrb, hwb⟩ : ∃ db, Rep H22 vb db ∧ isWord db = false := by
    have Pe := g22.pers
    simp only [List.mem_cons, List.not_mem_nil, or_false] at hv
    rcases hv with rfl | rfl | rfl | rfl | rfl | rfl | rfl | rfl | rfl
    · exact ⟨.flat, .non, rfl⟩
    · exact ⟨.lst, Rep.pers Pe (.lst ((same_upd hl) _ _ ((same_upd ht1) _ _ upd_same))), rfl⟩
    · exact ⟨.flat, .int 7, rfl⟩
    · refine ⟨.str _, .str ?_, isWord_long ?_⟩
      · rw [app_len, hy1, lb]
        decide
      · rw [app_len, hy1, lb]
        decide
    · exact ⟨.str _, .str (by decide +kernel), by decide +kernel⟩
    · refine ⟨.str _, .str ?_, isWord_sign (c := 65) ?_ (by decide +kernel)⟩
      · rw [app_len, lAA]
        omega
      · rw [app_toList]
        exact List.mem_append_right _ (by decide +kernel)
    · refine ⟨.str _, .str ?_, isWord_sign (c := 32) ?_ (by decide +kernel)⟩
      · rw [app_len, lsp]
        omega
      · rw [app_toList]
        exact List.mem_append_right _ (by decide +kernel)
    · exact ⟨.flat, .bl true, rfl⟩
    · exact ⟨.tup [.str (Str.ofString "a")], Rep.pers Pe (Rep.tup2 ((same_upd hl) _ _ upd_same) (by show 1 ≤ 100000; decide) (.cons (.str (by decide +kernel)) .nil)), rfl⟩
  clear hv
  have w1 : isWord (.str z) = true := isWord_yes hz1 hz2
  have w2 : isWord (.str y) = true := isWord_yes (by omega) hy2
  have w3 : isWord (.str sNo) = true := by decide +kernel
  refine ⟨_, rfl, .str z, .str z, rfl, .str (by omega), fun H23 s23 => ⟨_, rfl, .str y, .str y, rfl, .str (by omega), fun H24 s24 => ⟨.str sNo, .str sNo, rfl, .str (by rw [lE]; decide), fun H25 s25 => ⟨_, rfl, vb, db, rfl, hrb.pers (Pers.same (s23.trans (s24.trans s25))), fun H26 s26 => ⟨(by show 4 ≤ sizeLine; decide), fun l1 hl1 => ⟨(by show 4 ≤ sizeLine; decide), fun l2 hl2 => ?_⟩⟩⟩⟩⟩⟩
  rw [w1, w2, w3, hwb] at hl2 ⊢
  exact ⟨.ref l1, .ref l2, bls [true, true, true, false], 1, rfl, by decide, repj_bls ((same_upd hl2) _ _ upd_same) (by show 4 ≤ 100; decide), repj_bls upd_same (by show 4 ≤ 100; decide), fun H27 _ => q H27⟩
end
end My
namespace My
open PySem PySem.Spec PyProof.Rows L2
section
variable {P : Program} {w : World} {K : PySem.W.Frag} {mg : Str → Option Value} {base : Heap} {a_BOUNDS a_LONG_BOUNDS : Addr} {tL tM : Tok}
theorem all_grown {f : Addr} {fd : FuncData} (B : Bt K mg a_BOUNDS a_LONG_BOUNDS tL tM) (Dd : Df K mg "_law_grown" s__law_grown ["stream", "letters", "room", "deep", "outer"] f fd) (G1 : Cl P w K mg base 1 "_law_next" ["stream", "many"] spNext) (G2 : Cl P w K mg base 2 "_law_pick" ["stream", "rows"] (spPick K)) :
    ∀ n, FnOk P w K mg base CX0 (n + 2) f fd ["stream", "letters", "room", "deep", "outer"] (spGrown n)
  | 0 => none_left fun vs H Q Ex h => by
    obtain ⟨a, z, room, deep, outer, _, _, _, _, h, _⟩ := h
    exact absurd h (Nat.not_lt_zero _)
  | n + 1 => ok_grown_step B Dd G1 G2 n (Dd.cl (all_grown B Dd G1 G2 n))
theorem all_equal {f : Addr} {fd : FuncData} (B : Bt K mg a_BOUNDS a_LONG_BOUNDS tL tM) (Dd : Df K mg "_law_equal" s__law_equal ["actual", "due"] f fd) (G1 : Cl P w K mg base 1 "_law_is_integer" ["actual"] spIsInt) :
    ∀ n, FnOk P w K mg base CX0 (n + 1) f fd ["actual", "due"] (spEqual n)
  | 0 => none_left fun vs H Q Ex h => by
    obtain ⟨x, y, j, k, _, h, _⟩ := h
    exact absurd h (Nat.not_lt_zero _)
  | n + 1 => ok_equal_step B Dd G1 n (Dd.cl (all_equal B Dd G1 n))
theorem all_count {f : Addr} {fd : FuncData} (B : Bt K mg a_BOUNDS a_LONG_BOUNDS tL tM) (Dd : Df K mg "_law_count" s__law_count ["expression"] f fd) (G1 : Cl P w K mg base 1 "_law_inside" ["expression"] spInside) :
    ∀ n, FnOk P w K mg base CX0 (n + 1) f fd ["expression"] (spCount n)
  | 0 => none_left fun vs H Q Ex h => by
    obtain ⟨v, e, _, _, h, _⟩ := h
    exact absurd h (Nat.not_lt_zero _)
  | n + 1 => ok_count_step B Dd G1 n (Dd.cl (all_count B Dd G1 n))
theorem all_at {f : Addr} {fd : FuncData} (B : Bt K mg a_BOUNDS a_LONG_BOUNDS tL tM) (Dd : Df K mg "_law_at" s__law_at ["expression", "path", "value"] f fd) :
    ∀ n, FnOk P w K mg base CX0 n f fd ["expression", "path", "value"] (spAt K n)
  | 0 => none_left fun vs H Q Ex h => by
    obtain ⟨v, e, pa, is, u, d, m, _, _, h, _⟩ := h
    exact absurd h (Nat.not_lt_zero _)
  | n + 1 => ok_at_step B Dd n (Dd.cl (all_at B Dd n))
end
/-! ### what the top has left -/
theorem all_mk {l : PySem.W.OpenLaw} {w : World} {K : PySem.W.Frag} {h : Heap} {mg : Str → Option Value} {fa : Addr} (X : K.In h) (G : h.Ns mainGlobals mg) (hfa : mg "law" = some (.ref fa))
    {od1 an1 od2 an2 od3 an3 od4 an4 od5 an5 od6 an6 od7 an7 od8 an8 od9 an9 od10 an10 od11 an11 od12 an12 od13 an13 od14 an14 od15 an15 od16 an16 od17 an17 od18 an18 od19 an19 od20 an20 od21 an21 od22 an22 : Option Addr} {sl1 sl2 sl3 sl4 sl5 sl6 sl7 sl8 sl9 sl10 sl11 sl12 sl13 sl14 sl15 sl16 sl17 sl18 sl19 sl20 sl21 sl22 : Array (Option Value)} {oc1 kV1 dc1 pm1 cd1 ct1 oc2 kV2 dc2 pm2 cd2 ct2 oc3 kV3 dc3 pm3 cd3 ct3 oc4 kV4 dc4 pm4 cd4 ct4 oc5 kV5 dc5 pm5 cd5 ct5 oc6 kV6 dc6 pm6 cd6 ct6 oc7 kV7 dc7 pm7 cd7 ct7 oc8 kV8 dc8 pm8 cd8 ct8 oc9 kV9 dc9 pm9 cd9 ct9 oc10 kV10 dc10 pm10 cd10 ct10 oc11 kV11 dc11 pm11 cd11 ct11 oc12 kV12 dc12 pm12 cd12 ct12 oc13 kV13 dc13 pm13 cd13 ct13 oc14 kV14 dc14 pm14 cd14 ct14 oc15 kV15 dc15 pm15 cd15 ct15 oc16 kV16 dc16 pm16 cd16 ct16 oc17 kV17 dc17 pm17 cd17 ct17 oc18 kV18 dc18 pm18 cd18 ct18 oc19 kV19 dc19 pm19 cd19 ct19 oc20 kV20 dc20 pm20 cd20 ct20 oc21 kV21 dc21 pm21 cd21 ct21 oc22 kV22 dc22 pm22 cd22 ct22 : Value} {f1 f2 f3 f4 f5 f6 f7 f8 f9 f10 f11 f12 f13 f14 f15 f16 f17 f18 f19 f20 f21 f22 : Addr}
    (a1 : PySem.W.nsIn K mainGlobals "is_expression" = some (some (.ref f1))) (l1 : K.lookup f1 = some ⟨oc1, od1, .func (PySem.W.fnOf "is_expression" "is_expression" (defArgs s_is_expression) (defBody s_is_expression) (defScope s_is_expression) .none kV1 dc1 pm1 an1 cd1 ct1), sl1⟩) (c1 : PySem.W.codeIn K cd1 "is_expression" = true) (k1 : PySem.W.keepIn K (.ref f1) = true)
    (a2 : PySem.W.nsIn K mainGlobals "is_long" = some (some (.ref f2))) (l2 : K.lookup f2 = some ⟨oc2, od2, .func (PySem.W.fnOf "is_long" "is_long" (defArgs s_is_long) (defBody s_is_long) (defScope s_is_long) .none kV2 dc2 pm2 an2 cd2 ct2), sl2⟩) (c2 : PySem.W.codeIn K cd2 "is_long" = true) (k2 : PySem.W.keepIn K (.ref f2) = true)
    (a3 : PySem.W.nsIn K mainGlobals "is_word" = some (some (.ref f3))) (l3 : K.lookup f3 = some ⟨oc3, od3, .func (PySem.W.fnOf "is_word" "is_word" (defArgs s_is_word) (defBody s_is_word) (defScope s_is_word) .none kV3 dc3 pm3 an3 cd3 ct3), sl3⟩) (c3 : PySem.W.codeIn K cd3 "is_word" = true) (k3 : PySem.W.keepIn K (.ref f3) = true)
    (a4 : PySem.W.nsIn K mainGlobals "is_letter" = some (some (.ref f4))) (l4 : K.lookup f4 = some ⟨oc4, od4, .func (PySem.W.fnOf "is_letter" "is_letter" (defArgs s_is_letter) (defBody s_is_letter) (defScope s_is_letter) .none kV4 dc4 pm4 an4 cd4 ct4), sl4⟩) (c4 : PySem.W.codeIn K cd4 "is_letter" = true) (k4 : PySem.W.keepIn K (.ref f4) = true)
    (a5 : PySem.W.nsIn K mainGlobals "is_text" = some (some (.ref f5))) (l5 : K.lookup f5 = some ⟨oc5, od5, .func (PySem.W.fnOf "is_text" "is_text" (defArgs s_is_text) (defBody s_is_text) (defScope s_is_text) .none kV5 dc5 pm5 an5 cd5 ct5), sl5⟩) (c5 : PySem.W.codeIn K cd5 "is_text" = true) (k5 : PySem.W.keepIn K (.ref f5) = true)
    (a6 : PySem.W.nsIn K mainGlobals "sizes_within" = some (some (.ref f6))) (l6 : K.lookup f6 = some ⟨oc6, od6, .func (PySem.W.fnOf "sizes_within" "sizes_within" (defArgs s_sizes_within) (defBody s_sizes_within) (defScope s_sizes_within) .none kV6 dc6 pm6 an6 cd6 ct6), sl6⟩) (c6 : PySem.W.codeIn K cd6 "sizes_within" = true) (k6 : PySem.W.keepIn K (.ref f6) = true)
    (a7 : PySem.W.nsIn K mainGlobals "_parts_of" = some (some (.ref f7))) (l7 : K.lookup f7 = some ⟨oc7, od7, .func (PySem.W.fnOf "_parts_of" "_parts_of" (defArgs s__parts_of) (defBody s__parts_of) (defScope s__parts_of) .none kV7 dc7 pm7 an7 cd7 ct7), sl7⟩) (c7 : PySem.W.codeIn K cd7 "_parts_of" = true) (k7 : PySem.W.keepIn K (.ref f7) = true)
    (a8 : PySem.W.nsIn K mainGlobals "_is_row" = some (some (.ref f8))) (l8 : K.lookup f8 = some ⟨oc8, od8, .func (PySem.W.fnOf "_is_row" "_is_row" (defArgs s__is_row) (defBody s__is_row) (defScope s__is_row) .none kV8 dc8 pm8 an8 cd8 ct8), sl8⟩) (c8 : PySem.W.codeIn K cd8 "_is_row" = true) (k8 : PySem.W.keepIn K (.ref f8) = true)
    (a9 : PySem.W.nsIn K mainGlobals "_begins_with" = some (some (.ref f9))) (l9 : K.lookup f9 = some ⟨oc9, od9, .func (PySem.W.fnOf "_begins_with" "_begins_with" (defArgs s__begins_with) (defBody s__begins_with) (defScope s__begins_with) .none kV9 dc9 pm9 an9 cd9 ct9), sl9⟩) (c9 : PySem.W.codeIn K cd9 "_begins_with" = true) (k9 : PySem.W.keepIn K (.ref f9) = true)
    (a10 : PySem.W.nsIn K mainGlobals "_law_stream" = some (some (.ref f10))) (l10 : K.lookup f10 = some ⟨oc10, od10, .func (PySem.W.fnOf "_law_stream" "_law_stream" (defArgs s__law_stream) (defBody s__law_stream) (defScope s__law_stream) .none kV10 dc10 pm10 an10 cd10 ct10), sl10⟩) (c10 : PySem.W.codeIn K cd10 "_law_stream" = true) (k10 : PySem.W.keepIn K (.ref f10) = true)
    (a11 : PySem.W.nsIn K mainGlobals "_law_next" = some (some (.ref f11))) (l11 : K.lookup f11 = some ⟨oc11, od11, .func (PySem.W.fnOf "_law_next" "_law_next" (defArgs s__law_next) (defBody s__law_next) (defScope s__law_next) .none kV11 dc11 pm11 an11 cd11 ct11), sl11⟩) (c11 : PySem.W.codeIn K cd11 "_law_next" = true) (k11 : PySem.W.keepIn K (.ref f11) = true)
    (a12 : PySem.W.nsIn K mainGlobals "_law_is_integer" = some (some (.ref f12))) (l12 : K.lookup f12 = some ⟨oc12, od12, .func (PySem.W.fnOf "_law_is_integer" "_law_is_integer" (defArgs s__law_is_integer) (defBody s__law_is_integer) (defScope s__law_is_integer) .none kV12 dc12 pm12 an12 cd12 ct12), sl12⟩) (c12 : PySem.W.codeIn K cd12 "_law_is_integer" = true) (k12 : PySem.W.keepIn K (.ref f12) = true)
    (a13 : PySem.W.nsIn K mainGlobals "_law_equal" = some (some (.ref f13))) (l13 : K.lookup f13 = some ⟨oc13, od13, .func (PySem.W.fnOf "_law_equal" "_law_equal" (defArgs s__law_equal) (defBody s__law_equal) (defScope s__law_equal) .none kV13 dc13 pm13 an13 cd13 ct13), sl13⟩) (c13 : PySem.W.codeIn K cd13 "_law_equal" = true) (k13 : PySem.W.keepIn K (.ref f13) = true)
    (a14 : PySem.W.nsIn K mainGlobals "_law_pick" = some (some (.ref f14))) (l14 : K.lookup f14 = some ⟨oc14, od14, .func (PySem.W.fnOf "_law_pick" "_law_pick" (defArgs s__law_pick) (defBody s__law_pick) (defScope s__law_pick) .none kV14 dc14 pm14 an14 cd14 ct14), sl14⟩) (c14 : PySem.W.codeIn K cd14 "_law_pick" = true) (k14 : PySem.W.keepIn K (.ref f14) = true)
    (a15 : PySem.W.nsIn K mainGlobals "_law_grown" = some (some (.ref f15))) (l15 : K.lookup f15 = some ⟨oc15, od15, .func (PySem.W.fnOf "_law_grown" "_law_grown" (defArgs s__law_grown) (defBody s__law_grown) (defScope s__law_grown) .none kV15 dc15 pm15 an15 cd15 ct15), sl15⟩) (c15 : PySem.W.codeIn K cd15 "_law_grown" = true) (k15 : PySem.W.keepIn K (.ref f15) = true)
    (a16 : PySem.W.nsIn K mainGlobals "_law_expression" = some (some (.ref f16))) (l16 : K.lookup f16 = some ⟨oc16, od16, .func (PySem.W.fnOf "_law_expression" "_law_expression" (defArgs s__law_expression) (defBody s__law_expression) (defScope s__law_expression) .none kV16 dc16 pm16 an16 cd16 ct16), sl16⟩) (c16 : PySem.W.codeIn K cd16 "_law_expression" = true) (k16 : PySem.W.keepIn K (.ref f16) = true)
    (a17 : PySem.W.nsIn K mainGlobals "_law_inside" = some (some (.ref f17))) (l17 : K.lookup f17 = some ⟨oc17, od17, .func (PySem.W.fnOf "_law_inside" "_law_inside" (defArgs s__law_inside) (defBody s__law_inside) (defScope s__law_inside) .none kV17 dc17 pm17 an17 cd17 ct17), sl17⟩) (c17 : PySem.W.codeIn K cd17 "_law_inside" = true) (k17 : PySem.W.keepIn K (.ref f17) = true)
    (a18 : PySem.W.nsIn K mainGlobals "_law_count" = some (some (.ref f18))) (l18 : K.lookup f18 = some ⟨oc18, od18, .func (PySem.W.fnOf "_law_count" "_law_count" (defArgs s__law_count) (defBody s__law_count) (defScope s__law_count) .none kV18 dc18 pm18 an18 cd18 ct18), sl18⟩) (c18 : PySem.W.codeIn K cd18 "_law_count" = true) (k18 : PySem.W.keepIn K (.ref f18) = true)
    (a19 : PySem.W.nsIn K mainGlobals "_law_at" = some (some (.ref f19))) (l19 : K.lookup f19 = some ⟨oc19, od19, .func (PySem.W.fnOf "_law_at" "_law_at" (defArgs s__law_at) (defBody s__law_at) (defScope s__law_at) .none kV19 dc19 pm19 an19 cd19 ct19), sl19⟩) (c19 : PySem.W.codeIn K cd19 "_law_at" = true) (k19 : PySem.W.keepIn K (.ref f19) = true)
    (a20 : PySem.W.nsIn K mainGlobals "_law_wrong" = some (some (.ref f20))) (l20 : K.lookup f20 = some ⟨oc20, od20, .func (PySem.W.fnOf "_law_wrong" "_law_wrong" (defArgs s__law_wrong) (defBody s__law_wrong) (defScope s__law_wrong) .none kV20 dc20 pm20 an20 cd20 ct20), sl20⟩) (c20 : PySem.W.codeIn K cd20 "_law_wrong" = true) (k20 : PySem.W.keepIn K (.ref f20) = true)
    (a21 : PySem.W.nsIn K mainGlobals "_law_chain" = some (some (.ref f21))) (l21 : K.lookup f21 = some ⟨oc21, od21, .func (PySem.W.fnOf "_law_chain" "_law_chain" (defArgs s__law_chain) (defBody s__law_chain) (defScope s__law_chain) .none kV21 dc21 pm21 an21 cd21 ct21), sl21⟩) (c21 : PySem.W.codeIn K cd21 "_law_chain" = true) (k21 : PySem.W.keepIn K (.ref f21) = true)
    (a22 : PySem.W.nsIn K mainGlobals "law" = some (some (.ref f22))) (l22 : K.lookup f22 = some ⟨oc22, od22, .func (PySem.W.fnOf "law" "law" (defArgs s_law) (defBody s_law) (defScope s_law) .none kV22 dc22 pm22 an22 cd22 ct22), sl22⟩) (c22 : PySem.W.codeIn K cd22 "law" = true) (k22 : PySem.W.keepIn K (.ref f22) = true)
    (z_abs : PySem.W.nsIn K mainGlobals "abs" = some none) (z_all : PySem.W.nsIn K mainGlobals "all" = some none) (z_any : PySem.W.nsIn K mainGlobals "any" = some none) (z_bool : PySem.W.nsIn K mainGlobals "bool" = some none) (z_int : PySem.W.nsIn K mainGlobals "int" = some none) (z_isinstance : PySem.W.nsIn K mainGlobals "isinstance" = some none) (z_len : PySem.W.nsIn K mainGlobals "len" = some none) (z_list : PySem.W.nsIn K mainGlobals "list" = some none) (z_max : PySem.W.nsIn K mainGlobals "max" = some none) (z_range : PySem.W.nsIn K mainGlobals "range" = some none) (z_str : PySem.W.nsIn K mainGlobals "str" = some none) (z_sum : PySem.W.nsIn K mainGlobals "sum" = some none) (z_tuple : PySem.W.nsIn K mainGlobals "tuple" = some none)
    {tL tM tB1 tB2 tB3 tG1 tG2 tG3 : Tok} {aB aG : Addr} {dB dG : Option Addr} {nB nG : Nat} {slB slG : Array (Option Value)}
    (gL : PySem.W.nsIn K mainGlobals "LETTERS" = some (some (.str "abcd" tL))) (gM : PySem.W.nsIn K mainGlobals "MOST_LETTERS" = some (some (.int 24 tM)))
    (gB : PySem.W.nsIn K mainGlobals "BOUNDS" = some (some (.ref aB))) (lB : K.lookup aB = some ⟨.type "tuple", dB, .seq #[.int 8 tB1, .int 6 tB2, .int 24 tB3] nB, slB⟩)
    (gG : PySem.W.nsIn K mainGlobals "LONG_BOUNDS" = some (some (.ref aG))) (lG : K.lookup aG = some ⟨.type "tuple", dG, .seq #[.int 40 tG1, .int 40 tG2, .int 200 tG3] nG, slG⟩) :
    ∃ fd : FuncData, (∀ (s : Shared) (v : Value), BindsTo s fd ⟨[v], []⟩ [("script", v)]) ∧ ∀ base : Heap, K.In base → base.Ns mainGlobals mg → FnOk l.prog w K mg base CX0 9 fa fd ["script"] (spLaw K) := by
  have F1 := fun_mk (st := s_is_expression) l1 c1 k1
  have b1 := F1.binds (ps := ["value"]) fun _ _ _ _ _ _ us hl => match us, hl with | [_], _ => rfl
  have D_is_expression : Df K mg "is_expression" s_is_expression ["value"] f1 _ := ⟨F1, b1, PySem.W.mg_of X G a1⟩
  have F2 := fun_mk (st := s_is_long) l2 c2 k2
  have b2 := F2.binds (ps := ["value"]) fun _ _ _ _ _ _ us hl => match us, hl with | [_], _ => rfl
  have D_is_long : Df K mg "is_long" s_is_long ["value"] f2 _ := ⟨F2, b2, PySem.W.mg_of X G a2⟩
  have F3 := fun_mk (st := s_is_word) l3 c3 k3
  have b3 := F3.binds (ps := ["value"]) fun _ _ _ _ _ _ us hl => match us, hl with | [_], _ => rfl
  have D_is_word : Df K mg "is_word" s_is_word ["value"] f3 _ := ⟨F3, b3, PySem.W.mg_of X G a3⟩
  have F4 := fun_mk (st := s_is_letter) l4 c4 k4
  have b4 := F4.binds (ps := ["value"]) fun _ _ _ _ _ _ us hl => match us, hl with | [_], _ => rfl
  have D_is_letter : Df K mg "is_letter" s_is_letter ["value"] f4 _ := ⟨F4, b4, PySem.W.mg_of X G a4⟩
  have F5 := fun_mk (st := s_is_text) l5 c5 k5
  have b5 := F5.binds (ps := ["value", "most"]) fun _ _ _ _ _ _ us hl => match us, hl with | [_, _], _ => rfl
  have D_is_text : Df K mg "is_text" s_is_text ["value", "most"] f5 _ := ⟨F5, b5, PySem.W.mg_of X G a5⟩
  have F6 := fun_mk (st := s_sizes_within) l6 c6 k6
  have b6 := F6.binds (ps := ["value", "bounds"]) fun _ _ _ _ _ _ us hl => match us, hl with | [_, _], _ => rfl
  have D_sizes_within : Df K mg "sizes_within" s_sizes_within ["value", "bounds"] f6 _ := ⟨F6, b6, PySem.W.mg_of X G a6⟩
  have F7 := fun_mk (st := s__parts_of) l7 c7 k7
  have b7 := F7.binds (ps := ["value"]) fun _ _ _ _ _ _ us hl => match us, hl with | [_], _ => rfl
  have D__parts_of : Df K mg "_parts_of" s__parts_of ["value"] f7 _ := ⟨F7, b7, PySem.W.mg_of X G a7⟩
  have F8 := fun_mk (st := s__is_row) l8 c8 k8
  have b8 := F8.binds (ps := ["word", "value"]) fun _ _ _ _ _ _ us hl => match us, hl with | [_, _], _ => rfl
  have D__is_row : Df K mg "_is_row" s__is_row ["word", "value"] f8 _ := ⟨F8, b8, PySem.W.mg_of X G a8⟩
  have F9 := fun_mk (st := s__begins_with) l9 c9 k9
  have b9 := F9.binds (ps := ["value", "word"]) fun _ _ _ _ _ _ us hl => match us, hl with | [_, _], _ => rfl
  have D__begins_with : Df K mg "_begins_with" s__begins_with ["value", "word"] f9 _ := ⟨F9, b9, PySem.W.mg_of X G a9⟩
  have F10 := fun_mk (st := s__law_stream) l10 c10 k10
  have b10 := F10.binds (ps := ["script"]) fun _ _ _ _ _ _ us hl => match us, hl with | [_], _ => rfl
  have D__law_stream : Df K mg "_law_stream" s__law_stream ["script"] f10 _ := ⟨F10, b10, PySem.W.mg_of X G a10⟩
  have F11 := fun_mk (st := s__law_next) l11 c11 k11
  have b11 := F11.binds (ps := ["stream", "many"]) fun _ _ _ _ _ _ us hl => match us, hl with | [_, _], _ => rfl
  have D__law_next : Df K mg "_law_next" s__law_next ["stream", "many"] f11 _ := ⟨F11, b11, PySem.W.mg_of X G a11⟩
  have F12 := fun_mk (st := s__law_is_integer) l12 c12 k12
  have b12 := F12.binds (ps := ["actual"]) fun _ _ _ _ _ _ us hl => match us, hl with | [_], _ => rfl
  have D__law_is_integer : Df K mg "_law_is_integer" s__law_is_integer ["actual"] f12 _ := ⟨F12, b12, PySem.W.mg_of X G a12⟩
  have F13 := fun_mk (st := s__law_equal) l13 c13 k13
  have b13 := F13.binds (ps := ["actual", "due"]) fun _ _ _ _ _ _ us hl => match us, hl with | [_, _], _ => rfl
  have D__law_equal : Df K mg "_law_equal" s__law_equal ["actual", "due"] f13 _ := ⟨F13, b13, PySem.W.mg_of X G a13⟩
  have F14 := fun_mk (st := s__law_pick) l14 c14 k14
  have b14 := F14.binds (ps := ["stream", "rows"]) fun _ _ _ _ _ _ us hl => match us, hl with | [_, _], _ => rfl
  have D__law_pick : Df K mg "_law_pick" s__law_pick ["stream", "rows"] f14 _ := ⟨F14, b14, PySem.W.mg_of X G a14⟩
  have F15 := fun_mk (st := s__law_grown) l15 c15 k15
  have b15 := F15.binds (ps := ["stream", "letters", "room", "deep", "outer"]) fun _ _ _ _ _ _ us hl => match us, hl with | [_, _, _, _, _], _ => rfl
  have D__law_grown : Df K mg "_law_grown" s__law_grown ["stream", "letters", "room", "deep", "outer"] f15 _ := ⟨F15, b15, PySem.W.mg_of X G a15⟩
  have F16 := fun_mk (st := s__law_expression) l16 c16 k16
  have b16 := F16.binds (ps := ["stream", "most"]) fun _ _ _ _ _ _ us hl => match us, hl with | [_, _], _ => rfl
  have D__law_expression : Df K mg "_law_expression" s__law_expression ["stream", "most"] f16 _ := ⟨F16, b16, PySem.W.mg_of X G a16⟩
  have F17 := fun_mk (st := s__law_inside) l17 c17 k17
  have b17 := F17.binds (ps := ["expression"]) fun _ _ _ _ _ _ us hl => match us, hl with | [_], _ => rfl
  have D__law_inside : Df K mg "_law_inside" s__law_inside ["expression"] f17 _ := ⟨F17, b17, PySem.W.mg_of X G a17⟩
  have F18 := fun_mk (st := s__law_count) l18 c18 k18
  have b18 := F18.binds (ps := ["expression"]) fun _ _ _ _ _ _ us hl => match us, hl with | [_], _ => rfl
  have D__law_count : Df K mg "_law_count" s__law_count ["expression"] f18 _ := ⟨F18, b18, PySem.W.mg_of X G a18⟩
  have F19 := fun_mk (st := s__law_at) l19 c19 k19
  have b19 := F19.binds (ps := ["expression", "path", "value"]) fun _ _ _ _ _ _ us hl => match us, hl with | [_, _, _], _ => rfl
  have D__law_at : Df K mg "_law_at" s__law_at ["expression", "path", "value"] f19 _ := ⟨F19, b19, PySem.W.mg_of X G a19⟩
  have F20 := fun_mk (st := s__law_wrong) l20 c20 k20
  have b20 := F20.binds (ps := ["stream"]) fun _ _ _ _ _ _ us hl => match us, hl with | [_], _ => rfl
  have D__law_wrong : Df K mg "_law_wrong" s__law_wrong ["stream"] f20 _ := ⟨F20, b20, PySem.W.mg_of X G a20⟩
  have F21 := fun_mk (st := s__law_chain) l21 c21 k21
  have b21 := F21.binds (ps := ["many"]) fun _ _ _ _ _ _ us hl => match us, hl with | [_], _ => rfl
  have D__law_chain : Df K mg "_law_chain" s__law_chain ["many"] f21 _ := ⟨F21, b21, PySem.W.mg_of X G a21⟩
  have F22 := fun_mk (st := s_law) l22 c22 k22
  have b22 := F22.binds (ps := ["script"]) fun _ _ _ _ _ _ us hl => match us, hl with | [_], _ => rfl
  have D_law : Df K mg "law" s_law ["script"] f22 _ := ⟨F22, b22, PySem.W.mg_of X G a22⟩
  have B : Bt K mg aB aG tL tM := ⟨PySem.W.mg_none_of X G z_abs, PySem.W.mg_none_of X G z_all, PySem.W.mg_none_of X G z_any, PySem.W.mg_none_of X G z_bool, PySem.W.mg_none_of X G z_int, PySem.W.mg_none_of X G z_isinstance, PySem.W.mg_none_of X G z_len, PySem.W.mg_none_of X G z_list, PySem.W.mg_none_of X G z_max, PySem.W.mg_none_of X G z_range, PySem.W.mg_none_of X G z_str, PySem.W.mg_none_of X G z_sum, PySem.W.mg_none_of X G z_tuple, PySem.W.mg_of X G gL, PySem.W.mg_of X G gB, PySem.W.mg_of X G gG, PySem.W.mg_of X G gM,
    fun H => .inr ⟨_, _, _, lB, rfl, rfl, (by show 3 ≤ sizeLine; decide), .cons ⟨_, rfl⟩ (.cons ⟨_, rfl⟩ (.cons ⟨_, rfl⟩ .nil))⟩, fun H => .inr ⟨_, _, _, lG, rfl, rfl, (by show 3 ≤ sizeLine; decide), .cons ⟨_, rfl⟩ (.cons ⟨_, rfl⟩ (.cons ⟨_, rfl⟩ .nil))⟩⟩
  have e := hfa.symm.trans D_law.g
  cases e
  refine ⟨(PySem.W.fnOf "law" "law" (defArgs s_law) (defBody s_law) (defScope s_law) .none kV22 dc22 pm22 an22 cd22 ct22), fun s v => .of_eq rfl, fun base _ _ => ?_⟩
  have C_is_letter := D_is_letter.cl (ok_letter (P := l.prog) (w := w) (base := base) B D_is_letter)
  have C_begins := D__begins_with.cl (ok_begins (P := l.prog) (w := w) (base := base) B D__begins_with)
  have C_isrow := D__is_row.cl (ok_isrow (P := l.prog) (w := w) (base := base) B D__is_row C_begins)
  have C_parts := D__parts_of.cl (ok_parts (P := l.prog) (w := w) (base := base) B D__parts_of C_is_letter C_isrow)
  have C_sizes := D_sizes_within.cl (ok_sizes (P := l.prog) (w := w) (base := base) B D_sizes_within C_parts)
  have C_isexpr := D_is_expression.cl (ok_isexpr (P := l.prog) (w := w) (base := base) B D_is_expression C_sizes)
  have C_islong := D_is_long.cl (ok_islong (P := l.prog) (w := w) (base := base) B D_is_long C_sizes)
  have C_istext := D_is_text.cl (ok_istext (P := l.prog) (w := w) (base := base) B D_is_text)
  have C_isword := D_is_word.cl (ok_isword (P := l.prog) (w := w) (base := base) B D_is_word C_istext)
  have C_stream := D__law_stream.cl (ok_stream (P := l.prog) (w := w) (base := base) B D__law_stream)
  have C_next := D__law_next.cl (ok_next (P := l.prog) (w := w) (base := base) B D__law_next)
  have C_pick := D__law_pick.cl (ok_pick (P := l.prog) (w := w) (base := base) B D__law_pick C_next)
  have C_grown := D__law_grown.cl (all_grown (P := l.prog) (w := w) (base := base) B D__law_grown C_next C_pick 5)
  have C_expr := D__law_expression.cl (ok_expr (P := l.prog) (w := w) (base := base) B D__law_expression C_next C_pick C_grown)
  have C_isint := D__law_is_integer.cl (ok_isint (P := l.prog) (w := w) (base := base) B D__law_is_integer)
  have C_equal := D__law_equal.cl (all_equal (P := l.prog) (w := w) (base := base) B D__law_equal C_isint 2)
  have C_inside := D__law_inside.cl (ok_inside (P := l.prog) (w := w) (base := base) B D__law_inside)
  have C_count := D__law_count.cl (all_count (P := l.prog) (w := w) (base := base) B D__law_count C_inside 5)
  have C_at := D__law_at.cl (all_at (P := l.prog) (w := w) (base := base) B D__law_at 5)
  have C_wrong := D__law_wrong.cl (ok_wrong (P := l.prog) (w := w) (base := base) B D__law_wrong C_pick)
  have C_chain := D__law_chain.cl (ok_chain (P := l.prog) (w := w) (base := base) B D__law_chain)
  exact ok_law B D_law C_stream C_next C_pick C_expr C_wrong C_at C_isexpr C_islong C_isword C_count C_equal C_chain
theorem walk {l : PySem.W.OpenLaw} {q : Program} {loose : List Str} {XP : (Str → Option Value) → Heap → Prop} {YP : World → Heap → Prop} {d : DefRec} {K : Params → PySem.W.Frag} (hn : l.most = some 63) (hdf : d.params.defaults = [])
    (hY : ∀ (w : World) (h : Heap), YP w h → (K w.params).In h)
    (F : ∀ (w : World) (mg : Str → Option Value) (fa : Addr) (h : Heap), (K w.params).In h → h.Ns mainGlobals mg → mg d.name = some (.ref fa) →
      ∃ fd : FuncData, (∀ (s : Shared) (u : Value), BindsTo s fd ⟨[u], []⟩ [("script", u)]) ∧ ∀ base : Heap, (K w.params).In base → base.Ns mainGlobals mg → FnOk l.prog w (K w.params) mg base CX0 9 fa fd ["script"] (spLaw (K w.params))) :
    PySem.W.WalkO q loose XP YP l.row.toRowW d [] (fun f vs => PySem.call f vs) :=
  L2.walk_of (n := 63) (k := 9) (x := "script") (CX := fun _ => CX0) (sp := fun w => spLaw (K w.params)) hn (by decide) hdf ⟨rfl, by decide, by decide⟩ hY F (fun _ _ a ns hl _ hS => ⟨a, ns, rfl, hS, hl, fun _ => rfl⟩) fun _ _ _ _ _ z => z
end My
open PySem PySem.W PyProof.Rows
set_option maxRecDepth 100000 in
set_option maxHeartbeats 0 in
theorem PySem.Challenge.cw_nodoubt_k01_forms_of_expressions_holds : PySem.Challenge.rw_nodoubt_k01_forms_of_expressions.Holds := by
  w_on; o_law; k_head; (case hw => w_witness2)
  k_fill
  refine My.walk (l := PySem.Challenge.rw_nodoubt_k01_forms_of_expressions) rfl rfl (fun w h Y => PySem.W.kIn_of Y) ?F
  case F =>
    intro w mg fa h KX G hmg
    refine' My.all_mk KX G hmg ?a1 ?l1 ?c1 ?k1 ?a2 ?l2 ?c2 ?k2 ?a3 ?l3 ?c3 ?k3 ?a4 ?l4 ?c4 ?k4 ?a5 ?l5 ?c5 ?k5 ?a6 ?l6 ?c6 ?k6 ?a7 ?l7 ?c7 ?k7 ?a8 ?l8 ?c8 ?k8 ?a9 ?l9 ?c9 ?k9 ?a10 ?l10 ?c10 ?k10 ?a11 ?l11 ?c11 ?k11 ?a12 ?l12 ?c12 ?k12 ?a13 ?l13 ?c13 ?k13 ?a14 ?l14 ?c14 ?k14 ?a15 ?l15 ?c15 ?k15 ?a16 ?l16 ?c16 ?k16 ?a17 ?l17 ?c17 ?k17 ?a18 ?l18 ?c18 ?k18 ?a19 ?l19 ?c19 ?k19 ?a20 ?l20 ?c20 ?k20 ?a21 ?l21 ?c21 ?k21 ?a22 ?l22 ?c22 ?k22 ?z_abs ?z_all ?z_any ?z_bool ?z_int ?z_isinstance ?z_len ?z_list ?z_max ?z_range ?z_str ?z_sum ?z_tuple ?gL ?gM ?gB ?lB ?gG ?lG
    (case a1 => k_is); (case l1 => k_is); (case c1 => k_is); (case k1 => k_is); (case a2 => k_is); (case l2 => k_is); (case c2 => k_is); (case k2 => k_is); (case a3 => k_is); (case l3 => k_is); (case c3 => k_is); (case k3 => k_is); (case a4 => k_is); (case l4 => k_is); (case c4 => k_is); (case k4 => k_is); (case a5 => k_is); (case l5 => k_is); (case c5 => k_is); (case k5 => k_is); (case a6 => k_is); (case l6 => k_is); (case c6 => k_is); (case k6 => k_is); (case a7 => k_is); (case l7 => k_is); (case c7 => k_is); (case k7 => k_is); (case a8 => k_is); (case l8 => k_is); (case c8 => k_is); (case k8 => k_is); (case a9 => k_is); (case l9 => k_is); (case c9 => k_is); (case k9 => k_is); (case a10 => k_is); (case l10 => k_is); (case c10 => k_is); (case k10 => k_is); (case a11 => k_is); (case l11 => k_is); (case c11 => k_is); (case k11 => k_is); (case a12 => k_is); (case l12 => k_is); (case c12 => k_is); (case k12 => k_is); (case a13 => k_is); (case l13 => k_is); (case c13 => k_is); (case k13 => k_is); (case a14 => k_is); (case l14 => k_is); (case c14 => k_is); (case k14 => k_is); (case a15 => k_is); (case l15 => k_is); (case c15 => k_is); (case k15 => k_is); (case a16 => k_is); (case l16 => k_is); (case c16 => k_is); (case k16 => k_is); (case a17 => k_is); (case l17 => k_is); (case c17 => k_is); (case k17 => k_is); (case a18 => k_is); (case l18 => k_is); (case c18 => k_is); (case k18 => k_is); (case a19 => k_is); (case l19 => k_is); (case c19 => k_is); (case k19 => k_is); (case a20 => k_is); (case l20 => k_is); (case c20 => k_is); (case k20 => k_is); (case a21 => k_is); (case l21 => k_is); (case c21 => k_is); (case k21 => k_is); (case a22 => k_is); (case l22 => k_is); (case c22 => k_is); (case k22 => k_is); (case z_abs => k_is); (case z_all => k_is); (case z_any => k_is); (case z_bool => k_is); (case z_int => k_is); (case z_isinstance => k_is); (case z_len => k_is); (case z_list => k_is); (case z_max => k_is); (case z_range => k_is); (case z_str => k_is); (case z_sum => k_is); (case z_tuple => k_is)
    (case gL => k_is); (case gM => k_is); (case gB => k_is); (case lB => k_is); (case gG => k_is); (case lG => k_is)
