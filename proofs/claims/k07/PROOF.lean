import PyProof.Rows.All
import Wide.All
import OpenK.AllK
import Wide.FinOn
import HandS.ForMost
import HandS.IsInst
import HandS.TupAny
import HandS.TupMul
import HandS.Codes
import HandS.Style
import HandS.Wide
import PyProof.StrBlock2
import HandS.Text
import PyProof.Rows.StrRev
import KE.KRevSl
import HandS.List
import PyProof.AutoSeq1
import HandS.ExcOwn
import HandS.WordsExc
import HandS.Exc
import HandS.ExcIs
import HandS.TryOnly
import HandS.TryMany
import HandS.ExcField
import KE.KExcSuper
import KE.KExcIs
import HandS.More
import HandS.Strs
import HandS.Conv
import HandS.Replace
import HandS.Deep
import PySem.Challenge.RW_nodoubt_k07_refusals_of_expressions
set_option Elab.async false
set_option maxRecDepth 100000
set_option linter.all false
namespace My
open PySem PySem.Spec PyProof.Rows L2
/-! ### a def of the text, and what a caller needs of it -/
structure Df (K : PySem.W.Frag) (mg : Str → Option Value) (x : Str) (st : Stmt) (ps : List Str) (f : Addr) (fd : FuncData) : Prop where
  F : Fun K x x st f fd
  b : Binds K fd ps []
  g : mg x = some (.ref f)
structure Cl (P : Program) (w : World) (K : PySem.W.Frag) (mg : Str → Option Value) (base : Heap) (k : Nat) (x : Str) (ps : List Str) (sp : Sp) : Prop where
  ex : ∃ (f : Addr) (fd : FuncData), FnOk P w K mg base CX0 k f fd ps sp ∧ Binds K fd ps [] ∧ mg x = some (.ref f) ∧ PySem.W.keepIn K (.ref f) = true
theorem Df.cl {P : Program} {w : World} {K : PySem.W.Frag} {mg : Str → Option Value} {base : Heap} {x : Str} {st : Stmt} {ps : List Str} {f : Addr} {fd : FuncData} {k : Nat} {sp : Sp} (D : Df K mg x st ps f fd) (h : FnOk P w K mg base CX0 k f fd ps sp) : Cl P w K mg base k x ps sp :=
  ⟨f, fd, h, D.b, D.g, D.F.kp⟩
theorem pe_cl {X : Cx} {k : Nat} {x : Str} {ps : List Str} {sp : Sp} {p pos : Pos} {e : Expr} {es : List Expr} {t : TA} (C : Cl X.prog X.w X.K X.mg X.base k x ps sp) (hr : Room k X.A) (hg : Gl X x) (ha : PA X (e :: es) t)
    (hdb : (x == ("__debug__" : Str)) = false := by decide) (he : starEach (e :: es) X.env = (false, eval e X.env) :: starEach es X.env := by rfl) (hpl : (backTo pos (starEach es X.env)).any (·.1) = false := by rfl) :
    PE X (.Call (.Name x p) (e :: es) [] pos) (tCall sp [] E0 t) := by
  obtain ⟨f, fd, F, b, m, kp⟩ := C.ex
  exact pe_call F hr hg m kp b .nil pass0 ha hdb he hpl
/-! ### lists of values -/
theorem vals_of : ∀ (vs : List V) (us : List Value), vs.length = us.length → (∀ (j : Nat) (v : V) (u : Value), vs[j]? = some v → us[j]? = some u → RelV v u) → Vals vs us
  | [], [], _, _ => .nil
  | [], _ :: _, h, _ => by cases h
  | _ :: _, [], h, _ => by cases h
  | v :: vs, u :: us, h, k => .cons (k 0 v u rfl rfl) (vals_of vs us (Nat.succ.inj h) fun j v' u' h1 h2 => k (j + 1) v' u' h1 h2)
/-! ### list(text) -/
def signsV (z : Str) : List V := z.cps.toList.map fun c => V.str ⟨#[c]⟩
theorem call_list_text {X : Cx} (hc : X.calm = true) : CallR X (.type "list") (fun xs H Q => ∃ z : Str, xs = [.str z] ∧ z.length ≤ sizeLine ∧ ∀ l, H l = none → Q (.ref l) (upd H l (.lst (signsV z)))) := by
  intro pins s σ H xs us Q I r h
  obtain ⟨z, rfl, hz, q⟩ := h
  obtain ⟨u, rfl, t, rfl⟩ := vals1 r
  have hz' : z.cps.size ≤ sizeLine := hz
  refine call_list_str (I.ok.hd hc) z t (hn := hz) fun h' tk acc' c' hk hS hacc => ?_
  have vals : Vals (signsV z) acc'.toList := by
    refine vals_of _ _ (by unfold signsV; simp [hacc.1]) fun j v u h1 h2 => ?_
    obtain ⟨c, t', hc', rfl⟩ := hacc.2 j u (by simpa using h2)
    unfold signsV at h1
    rw [List.getElem?_map] at h1
    rw [show z.cps.toList[j]? = some c by simpa using hc'] at h1
    cases h1
    exact ⟨_, rfl⟩
  exact ⟨.ref s.heap.objs.size, _, I.laid (t' := tk) hk (Nat.le_refl _) (show ObjOk X.prog X.w _ h' _ (.lst (signsV z)) from ⟨by unfold signsV; simpa using hz', acc'.toList, c', vals, by simpa using hS⟩), rfl, q _ (I.hok.fresh (Nat.le_refl _))⟩

/-- text * number -/
theorem op_mul_str {X : Cx} : OpR X (binaryOp .Mult) (fun x y H Q => ∃ z n, x = .str z ∧ y = .int n ∧ MulOk z n ∧ Q (.str (Txt.mul z n)) H) := by
  intro pins s σ H x y v u Q I rx ry h
  obtain ⟨z, n, rfl, rfl, hok, q⟩ := h
  obtain ⟨t, rfl⟩ := rx
  obtain ⟨t', rfl⟩ := ry
  exact SB.mul hok fun t' k => ⟨.str _, H, I.tok k, ⟨_, rfl⟩, q⟩
/-! ### heaps -/
theorem same_upd {H : Hp} {p : Addr} {o : HO} (h : H p = none) : Same H (upd H p o) := fun b u q => by rw [upd_ne (ne_of_none q h)]; exact q
/-- all but what stands at a is as it was -/
def Keep (a : Addr) (H H' : Hp) : Prop := ∀ b o, H b = some o → b ≠ a → H' b = some o
theorem Keep.refl (a : Addr) (H : Hp) : Keep a H H := fun _ _ h _ => h
theorem Keep.trans {a : Addr} {H H1 H2 : Hp} (x : Keep a H H1) (y : Keep a H1 H2) : Keep a H H2 := fun b o h n => y b o (x b o h n) n
theorem Keep.same {a : Addr} {H H' : Hp} (x : Same H H') : Keep a H H' := fun b o h _ => x b o h
theorem Keep.new {a p : Addr} {H : Hp} {o : HO} (h : H p = none) : Keep a H (upd H p o) := Keep.same (same_upd h)
theorem Keep.store {a : Addr} {H : Hp} {o : HO} : Keep a H (upd H a o) := fun b u q n => by rw [upd_ne n]; exact q
/-- tuples stay, lists stay lists -/
structure Pers (H H' : Hp) : Prop where
  tup : ∀ b xs, H b = some (.tup xs) → H' b = some (.tup xs)
  lst : ∀ b xs, H b = some (.lst xs) → ∃ ys, H' b = some (.lst ys)
theorem Pers.refl (H : Hp) : Pers H H := ⟨fun _ _ h => h, fun _ xs h => ⟨xs, h⟩⟩
theorem Pers.trans {H H1 H2 : Hp} (x : Pers H H1) (y : Pers H1 H2) : Pers H H2 := ⟨fun b xs h => y.tup b xs (x.tup b xs h), fun b xs h => by
  obtain ⟨ys, h1⟩ := x.lst b xs h
  exact y.lst b ys h1⟩
theorem Pers.same {H H' : Hp} (x : Same H H') : Pers H H' := ⟨fun b xs h => x b _ h, fun b xs h => ⟨xs, x b _ h⟩⟩
theorem Pers.new {p : Addr} {H : Hp} {o : HO} (h : H p = none) : Pers H (upd H p o) := Pers.same (same_upd h)
theorem Pers.store {a : Addr} {H : Hp} {xs ys : List V} (h : H a = some (.lst xs)) : Pers H (upd H a (.lst ys)) := ⟨fun b zs q => by
  have n : b ≠ a := fun e => by
    rw [e, h] at q
    cases q
  rw [upd_ne n]
  exact q, fun b zs q => by
  by_cases n : b = a
  · subst n
    exact ⟨ys, upd_same⟩
  · rw [upd_ne n]
    exact ⟨zs, q⟩⟩
/-! ### the stream of draws -/
def StrmW (H : Hp) (a l : Addr) (c k : Int) (ns : List Int) : Prop := H a = some (.lst [.ref l, .int c, .int k]) ∧ H l = some (.lst (ns.map V.int)) ∧ l ≠ a ∧ 0 ≤ k
def Strm (H : Hp) (a : Addr) : Prop := ∃ l c k ns, StrmW H a l c k ns
/-- what a call that draws leaves: all but the stream as it was -/
structure Go (a : Addr) (H H' : Hp) : Prop where
  keep : Keep a H H'
  st0 : Strm H a
  mv : ∀ l c k ns, StrmW H a l c k ns → ∃ c' k' ns', StrmW H' a l c' k' ns'
theorem Go.st {a : Addr} {H H' : Hp} (g : Go a H H') : Strm H' a := by
  obtain ⟨l, c, k, ns, h⟩ := g.st0
  obtain ⟨c', k', ns', h'⟩ := g.mv l c k ns h
  exact ⟨l, c', k', ns', h'⟩
theorem Go.refl {a : Addr} {H : Hp} (h : Strm H a) : Go a H H := ⟨Keep.refl a H, h, fun l c k ns h => ⟨c, k, ns, h⟩⟩
theorem Go.trans {a : Addr} {H H1 H2 : Hp} (x : Go a H H1) (y : Go a H1 H2) : Go a H H2 := ⟨x.keep.trans y.keep, x.st0, fun l c k ns h => by
  obtain ⟨c', k', ns', h'⟩ := x.mv l c k ns h
  exact y.mv l c' k' ns' h'⟩
theorem StrmW.same {a l : Addr} {c k : Int} {ns : List Int} {H H' : Hp} (h : StrmW H a l c k ns) (s : Same H H') : StrmW H' a l c k ns := ⟨s _ _ h.1, s _ _ h.2.1, h.2.2.1, h.2.2.2⟩
theorem Strm.same {a : Addr} {H H' : Hp} (h : Strm H a) (s : Same H H') : Strm H' a := by
  obtain ⟨l, c, k, ns, h⟩ := h
  exact ⟨l, c, k, ns, h.same s⟩
theorem Go.same {a : Addr} {H H' : Hp} (h : Strm H a) (s : Same H H') : Go a H H' := ⟨Keep.same s, h, fun l c k ns w => ⟨c, k, ns, w.same s⟩⟩
theorem Go.new {a p : Addr} {H : Hp} {o : HO} (h : Strm H a) (n : H p = none) : Go a H (upd H p o) := Go.same h (same_upd n)
/-- a store to what is new since H -/
theorem Go.loc {a p : Addr} {H H' : Hp} {o : HO} (g : Go a H H') (n : H p = none) : Go a H (upd H' p o) := ⟨fun b u hb hn => by
  rw [upd_ne (ne_of_none hb n)]
  exact g.keep b u hb hn, g.st0, fun l c k ns h => by
  obtain ⟨c', k', ns', h1, h2, h3, h4⟩ := g.mv l c k ns h
  exact ⟨c', k', ns', by rw [upd_ne (ne_of_none h.1 n)]; exact h1, by rw [upd_ne (ne_of_none h.2.1 n)]; exact h2, h3, h4⟩⟩
theorem Strm.isl {a : Addr} {H : Hp} (h : Strm H a) : ∃ xs, H a = some (.lst xs) := by
  obtain ⟨l, c, k, ns, h1, h2⟩ := h
  exact ⟨_, h1⟩
theorem Go.pers {a : Addr} {H H' : Hp} (g : Go a H H') : Pers H H' := by
  obtain ⟨xs, h1⟩ := g.st0.isl
  obtain ⟨ys, h2⟩ := g.st.isl
  refine ⟨fun b zs q => g.keep b _ q fun e => ?_, fun b zs q => ?_⟩
  · rw [e, h1] at q
    cases q
  · by_cases n : b = a
    · subst n
      exact ⟨ys, h2⟩
    · exact ⟨zs, g.keep b _ q n⟩
theorem Strm.ne {a p : Addr} {H : Hp} (h : Strm H a) (n : H p = none) : a ≠ p := by
  obtain ⟨xs, h1⟩ := h.isl
  exact ne_of_none h1 n
theorem Strm.neT {a p : Addr} {H : Hp} {xs : List V} (h : Strm H a) (n : H p = some (.tup xs)) : p ≠ a := fun e => by
  obtain ⟨ys, h1⟩ := h.isl
  rw [e, h1] at n
  cases n
/-! ### two lists, item by item -/
inductive Two {α β : Type} (R : α → β → Prop) : List α → List β → Prop where
  | nil : Two R [] []
  | cons {a : α} {b : β} {as : List α} {bs : List β} (h : R a b) (t : Two R as bs) : Two R (a :: as) (b :: bs)
theorem Two.len {α β : Type} {R : α → β → Prop} {as : List α} {bs : List β} (h : Two R as bs) : as.length = bs.length := by
  induction h with
  | nil => rfl
  | cons _ _ ih => rw [List.length_cons, List.length_cons, ih]
theorem Two.mono {α β : Type} {R S : α → β → Prop} (k : ∀ a b, R a b → S a b) {as : List α} {bs : List β} (h : Two R as bs) : Two S as bs := by
  induction h with
  | nil => exact .nil
  | cons h _ ih => exact .cons (k _ _ h) ih
theorem Two.monoM {α β : Type} {R S : α → β → Prop} {as : List α} {bs : List β} (h : Two R as bs) (k : ∀ a b, a ∈ as → b ∈ bs → R a b → S a b) : Two S as bs := by
  induction h with
  | nil => exact .nil
  | cons h _ ih => exact .cons (k _ _ (List.mem_cons_self ..) (List.mem_cons_self ..) h) (ih fun a b ha hb => k a b (List.mem_cons_of_mem _ ha) (List.mem_cons_of_mem _ hb))
theorem Two.app {α β : Type} {R : α → β → Prop} {as as' : List α} {bs bs' : List β} (h : Two R as bs) (h' : Two R as' bs') : Two R (as ++ as') (bs ++ bs') := by
  induction h with
  | nil => exact h'
  | cons h _ ih => exact .cons h ih
theorem Two.get {α β : Type} {R : α → β → Prop} {as : List α} {bs : List β} (h : Two R as bs) : ∀ {i : Nat} {a : α}, as[i]? = some a → ∃ b, bs[i]? = some b ∧ R a b := by
  induction h with
  | nil => intro i a h; simp at h
  | cons h _ ih =>
    intro i a e
    cases i with
    | zero => cases e; exact ⟨_, rfl, h⟩
    | succ i => exact ih e
theorem Two.get2 {α β : Type} {R : α → β → Prop} {as : List α} {bs : List β} (h : Two R as bs) {i : Nat} {a : α} {b : β} (ha : as[i]? = some a) (hb : bs[i]? = some b) : R a b := by
  obtain ⟨b', h1, h2⟩ := h.get ha
  rw [h1] at hb
  cases hb
  exact h2
theorem Two.of_get {α β : Type} {R : α → β → Prop} : ∀ {as : List α} {bs : List β}, as.length = bs.length → (∀ (i : Nat) (a : α) (b : β), as[i]? = some a → bs[i]? = some b → R a b) → Two R as bs
  | [], [], _, _ => .nil
  | [], _ :: _, h, _ => by cases h
  | _ :: _, [], h, _ => by cases h
  | a :: as, b :: bs, h, k => .cons (k 0 a b rfl rfl) (Two.of_get (Nat.succ.inj h) fun i a' b' h1 h2 => k (i + 1) a' b' h1 h2)
theorem Two.unsnoc {α β : Type} {R : α → β → Prop} {as : List α} {bs : List β} {b : β} (h : Two R as (bs ++ [b])) : ∃ as' a, as = as' ++ [a] ∧ Two R as' bs ∧ R a b := by
  induction bs generalizing as with
  | nil =>
    cases h with
    | cons h t =>
      cases t
      exact ⟨[], _, rfl, .nil, h⟩
  | cons c bs ih =>
    cases h with
    | cons h t =>
      obtain ⟨as', a, rfl, h1, h2⟩ := ih t
      exact ⟨_ :: as', a, rfl, .cons h h1, h2⟩
theorem Two.map_right {α β γ : Type} {R : α → γ → Prop} {f : β → γ} {as : List α} {bs : List β} (h : Two (fun a b => R a (f b)) as bs) : Two R as (bs.map f) := by
  induction h with
  | nil => exact .nil
  | cons h _ ih => exact .cons h ih
/-! ### data: what stands at a value -/
inductive D where
  | str (z : Str)
  | tup (ds : List D)
  | lst
  | flat
inductive Rep (H : Hp) : V → D → Prop where
  | str {z : Str} (h : z.length ≤ 1000) : Rep H (.str z) (.str z)
  | tup {p : Addr} {xs : List V} {ds : List D} (h : H p = some (.tup xs)) (z : xs.length ≤ 100000) (l : xs.length = ds.length) (k : ∀ (i : Nat) (x : V) (d : D), xs[i]? = some x → ds[i]? = some d → Rep H x d) : Rep H (.ref p) (.tup ds)
  | lst {p : Addr} {xs : List V} (h : H p = some (.lst xs)) : Rep H (.ref p) .lst
  | non : Rep H .non .flat
  | bl (b : Bool) : Rep H (.bl b) .flat
  | int (i : Int) : Rep H (.int i) .flat
theorem Rep.tup2 {H : Hp} {p : Addr} {xs : List V} {ds : List D} (h : H p = some (.tup xs)) (z : xs.length ≤ 100000) (k : Two (Rep H) xs ds) : Rep H (.ref p) (.tup ds) := .tup h z k.len fun _ _ _ h1 h2 => k.get2 h1 h2
theorem Rep.pers {H H' : Hp} (k : Pers H H') {v : V} {d : D} (h : Rep H v d) : Rep H' v d := by
  induction h with
  | str h => exact .str h
  | tup h z l _ ih => exact .tup (k.tup _ _ h) z l ih
  | lst h =>
    obtain ⟨ys, h1⟩ := k.lst _ _ h
    exact .lst h1
  | non => exact .non
  | bl b => exact .bl b
  | int i => exact .int i
theorem Rep.pers2 {H H' : Hp} (k : Pers H H') {vs : List V} {ds : List D} (h : Two (Rep H) vs ds) : Two (Rep H') vs ds := h.mono fun _ _ => Rep.pers k
theorem Rep.untup {H : Hp} {v : V} {ds : List D} (h : Rep H v (.tup ds)) : ∃ p xs, v = .ref p ∧ H p = some (.tup xs) ∧ xs.length ≤ 100000 ∧ Two (Rep H) xs ds := by
  cases h with
  | tup h z l k => exact ⟨_, _, rfl, h, z, Two.of_get l k⟩
def isStr : D → Bool | .str _ => true | _ => false
def isTup : D → Bool | .tup _ => true | _ => false
/-- its type, for isinstance -/
theorem Rep.ty {K : PySem.W.Frag} {H : Hp} {v : V} {d : D} (h : Rep H v d) : ∃ t : String, TyX K H v (.type t) ∧ PySem.W.kitOne K (.type t) (.type "str") = some (isStr d) ∧ PySem.W.kitOne K (.type t) (.type "tuple") = some (isTup d) := by
  cases h with
  | str h => exact ⟨"str", .base (.str _), kit_ty (r := true) (by decide +kernel), kit_ty (r := false) (by decide +kernel)⟩
  | tup h _ _ _ => exact ⟨"tuple", .base (.tup h), kit_ty (r := false) (by decide +kernel), kit_ty (r := true) (by decide +kernel)⟩
  | lst h => exact ⟨"list", .base (.lst h), kit_ty (r := false) (by decide +kernel), kit_ty (r := false) (by decide +kernel)⟩
  | non => exact ⟨"NoneType", .base .non, kit_ty (r := false) (by decide +kernel), kit_ty (r := false) (by decide +kernel)⟩
  | bl b => exact ⟨"bool", .base (.bl _), kit_ty (r := false) (by decide +kernel), kit_ty (r := false) (by decide +kernel)⟩
  | int i => exact ⟨"int", .base (.int _), kit_ty (r := false) (by decide +kernel), kit_ty (r := false) (by decide +kernel)⟩
/-! ### short words for readings -/
theorem vstr {a b : Str} (h : decide (V.str a = V.str b) = true) : a = b := by
  have e := of_decide_eq_true h
  cases e
  rfl
theorem vstrN {a b : Str} (h : ¬ decide (V.str a = V.str b) = true) : ¬ a = b := fun e => h (decide_eq_true (congrArg V.str e))
theorem tyes {σ : L2.St} {H : Hp} {A B : Hp → Prop} (h : A H) : tYes σ H (fun b H3 => if b = true then A H3 else B H3) := by
  show (if true = true then A H else B H)
  rw [if_pos rfl]
  exact h
theorem at_zero {x : V} {xs : List V} : atI (x :: xs) 0 = some x := at_of (j := 0) rfl rfl
theorem at_one {x y : V} {xs : List V} : atI (x :: y :: xs) 1 = some y := at_of (j := 1) rfl rfl
theorem or2 {a b : Prop} {A B : Prop} [Decidable a] [Decidable b] (h1 : a ∨ b → A) (h2 : ¬ (a ∨ b) → B) : if a then A else if b then A else B := by
  by_cases c : a
  · rw [if_pos c]
    exact h1 (.inl c)
  · rw [if_neg c]
    by_cases d : b
    · rw [if_pos d]
      exact h1 (.inr d)
    · rw [if_neg d]
      exact h2 fun z => z.elim c d
theorem lc_str {z : Str} {g : TG} {tt : TT} {te : TE} {vs : List Nat} {σ : L2.St} {H1 : Hp} {D : Addr} {Qd : Hp → Prop} (Pv : Nat → Hp → Prop) (h0 : Pv 0 (upd H1 D (.lst [])))
    (hs : ∀ i c H, z.cps[i]? = some c → Pv i H → g (.str ⟨#[c]⟩) (wipe σ vs) H fun σ2 H2 => wipe σ2 vs = wipe σ vs ∧ tt σ2 H2 fun b H3 =>
      if b = true then te σ2 H3 fun y H4 => ∃ acc, H4 D = some (.lst acc) ∧ acc.length < sizeLine ∧ Pv (i + 1) (upd H4 D (.lst (acc ++ [y]))) else Pv (i + 1) H3) (hd : ∀ H, Pv z.cps.size H → Qd H) :
    ∃ W : Nat → Nat → Hp → Prop, (∃ m, W 0 m (upd H1 D (.lst []))) ∧ ∀ i m H, W i m H →
      ((Its z).stop i H ∧ Qd H) ∨ ((Its z).go i H ∧ ∃ Nx : Hp → Prop, (∀ H', Nx H' → ∃ m', m' < m ∧ W (i + 1) m' H') ∧ ∀ x H', (Its z).yld i H x H' → g x (wipe σ vs) H' fun σ2 H2 => wipe σ2 vs = wipe σ vs ∧ tt σ2 H2 fun b H3 =>
        if b = true then te σ2 H3 fun y H4 => ∃ acc, H4 D = some (.lst acc) ∧ acc.length < sizeLine ∧ Nx (upd H4 D (.lst (acc ++ [y]))) else Nx H3) := by
  refine ⟨fun i m H => m = z.cps.size - i ∧ i ≤ z.cps.size ∧ Pv i H, ⟨z.cps.size, by simp, Nat.zero_le _, h0⟩, ?_⟩
  rintro i m H ⟨rfl, hi, p⟩
  by_cases hlt : i < z.cps.size
  · refine .inr ⟨hlt, Pv (i + 1), fun H' p' => ⟨z.cps.size - (i + 1), by omega, rfl, hlt, p'⟩, fun x H' y => ?_⟩
    obtain ⟨rfl, c, hc, rfl⟩ := y
    exact hs i c _ hc p
  · have e : i = z.cps.size := by omega
    subst e
    exact .inl ⟨Nat.le_refl _, hd H p⟩
/-! ### plain data, for the law's own comparison -/
inductive J where
  | non
  | bl (b : Bool)
  | int (i : Int)
  | str (z : Str)
  | tup (js : List J)
  | lst (js : List J)
inductive RepJ (H : Hp) : V → J → Nat → Prop where
  | non {n : Nat} : RepJ H .non .non n
  | bl {n : Nat} (b : Bool) : RepJ H (.bl b) (.bl b) n
  | int {n : Nat} (i : Int) : RepJ H (.int i) (.int i) n
  | str {n : Nat} (z : Str) : RepJ H (.str z) (.str z) n
  | tup {n : Nat} {p : Addr} {xs : List V} {js : List J} (h : H p = some (.tup xs)) (z : xs.length ≤ 100000) (l : xs.length = js.length) (k : ∀ (i : Nat) (x : V) (j : J), xs[i]? = some x → js[i]? = some j → RepJ H x j n) : RepJ H (.ref p) (.tup js) (n + 1)
  | lst {n : Nat} {p : Addr} {xs : List V} {js : List J} (h : H p = some (.lst xs)) (z : xs.length ≤ 100000) (l : xs.length = js.length) (k : ∀ (i : Nat) (x : V) (j : J), xs[i]? = some x → js[i]? = some j → RepJ H x j n) : RepJ H (.ref p) (.lst js) (n + 1)
theorem RepJ.same {H H' : Hp} (s : Same H H') {v : V} {j : J} {n : Nat} (h : RepJ H v j n) : RepJ H' v j n := by
  induction h with
  | non => exact .non
  | bl b => exact .bl b
  | int i => exact .int i
  | str z => exact .str z
  | tup h z l _ ih => exact .tup (s _ _ h) z l ih
  | lst h z l _ ih => exact .lst (s _ _ h) z l ih
/-! ### the promises of the draws -/
def spStream (K : PySem.W.Frag) : Sp := fun vs H Q _ => ∃ (s : Addr) (ns : List Int), vs = [.ref s] ∧ SqL K H s (ns.map V.int) ∧ ns.length ≤ 63 ∧ ∀ a H', Same H H' → H a = none → Strm H' a → Q (.ref a) H'
def spNext : Sp := fun vs H Q _ => ∃ (a : Addr) (m : Int), vs = [.ref a, .int m] ∧ Strm H a ∧ 0 < m ∧ m < 1000000 ∧ ∀ d H', 0 ≤ d → d < m → Go a H H' → Q (.int d) H'
def spPick (K : PySem.W.Frag) : Sp := fun vs H Q _ => ∃ (a r : Addr) (xs : List V), vs = [.ref a, .ref r] ∧ Strm H a ∧ SqL K H r xs ∧ r ≠ a ∧ 0 < xs.length ∧ xs.length < 1000 ∧ ∀ v H', v ∈ xs → Go a H H' → Q v H'
theorem Go.seq {K : PySem.W.Frag} {a r : Addr} {H H' : Hp} {xs : List V} (g : Go a H H') (n : r ≠ a) (h : SqL K H r xs) : SqL K H' r xs := by
  rcases h with (h | ⟨o, h⟩) | h
  · exact .inl (.inl (g.keep _ _ h n))
  · exact .inl (.inr ⟨o, g.keep _ _ h n⟩)
  · exact .inr h
end My
namespace My
open PySem PySem.Spec PyProof.Rows L2
/-! ### letters and words -/
def isLet (z : Str) : Bool := match z.cps.toList with | [c] => decide (97 ≤ c) && decide (c ≤ 100) | _ => false
abbrev sJoin : Str := "join"
abbrev sOr : Str := "or"
abbrev sMaybe : Str := "maybe"
abbrev sMany : Str := "many"
abbrev sNo : Str := ""
theorem jo : ¬ sJoin = sOr := by decide +kernel
theorem jm : ¬ sJoin = sMaybe := by decide +kernel
theorem jn : ¬ sJoin = sMany := by decide +kernel
theorem je : ¬ sJoin = sNo := by decide +kernel
theorem om : ¬ sOr = sMaybe := by decide +kernel
theorem on : ¬ sOr = sMany := by decide +kernel
theorem oe : ¬ sOr = sNo := by decide +kernel
theorem mn : ¬ sMaybe = sMany := by decide +kernel
theorem lJ : sJoin.length = 4 := by decide +kernel
theorem lO : sOr.length = 2 := by decide +kernel
theorem lM : sMaybe.length = 5 := by decide +kernel
theorem lN : sMany.length = 4 := by decide +kernel
theorem lE : sNo.length = 0 := by decide +kernel
/-! ### the parts directly in a datum -/
def begins (w : Str) : D → Bool
  | .tup (.str x :: _) => decide (x = w)
  | _ => false
def rowOk (w : Str) : D → Bool
  | .tup ys => decide (2 ≤ ys.length) && !(ys.any (begins w))
  | _ => false
def rowItems : D → Option (List D)
  | .tup ys => some ys
  | _ => none
def innerPair (w : Str) (y : D) : Option (List D) := if w = sMaybe ∨ w = sMany then some [y] else if (w = sJoin ∨ w = sOr) ∧ rowOk w y = true then rowItems y else none
def inner : D → Option (List D)
  | .str z => if z = sNo ∨ isLet z = true then some [] else none
  | .tup [.str w, y] => innerPair w y
  | _ => none
theorem inner_pair (w : Str) (y : D) : inner (.tup [.str w, y]) = innerPair w y := rfl
/-- a part of a row does not begin with an object -/
def notObj : D → Bool
  | .tup _ => false
  | .lst => false
  | _ => true
def headFlat : D → Bool
  | .tup (x :: _) => notObj x
  | _ => true
def rowFlat : D → Bool
  | .tup ys => ys.all headFlat
  | _ => true
/-- what the looks at a datum ask: items of a row of parts begin flat -/
inductive Fl : D → Prop where
  | str (z : Str) : Fl (.str z)
  | tup {ds : List D} (h : ∀ w y, ds = [.str w, y] → w = sJoin ∨ w = sOr → rowFlat y = true) (k : ∀ d ∈ ds, Fl d) : Fl (.tup ds)
  | lst : Fl .lst
  | flat : Fl .flat
/-! ### sizes, for the loop's measure -/
def D.size : D → Nat
  | .str _ => 1
  | .tup ds => 1 + sizes ds
  | .lst => 1
  | .flat => 1
where sizes : List D → Nat
  | [] => 0
  | d :: ds => d.size + sizes ds
def places1 : D → Nat
  | .str z => z.length
  | _ => 0
abbrev Bnd := Nat × Nat × Nat
def within (b a : Bnd) : Bool := decide (a.1 ≤ b.1) && decide (a.2.1 ≤ b.2.1) && decide (a.2.2 ≤ b.2.2)
/-- the loop: n turns at most; the stack's last is looked at first -/
def look (b : Bnd) : Nat → List (D × Nat) → Bnd → Option Bnd
  | 0, _, _ => none
  | _ + 1, [], a => some a
  | n + 1, (d, k) :: st, a => match inner d with
    | none => none
    | some ys =>
      if within b (a.1 + places1 d, max a.2.1 k, a.2.2 + ys.length) = true then look b n ((ys.map fun y => (y, k + 1)).reverse ++ st) (a.1 + places1 d, max a.2.1 k, a.2.2 + ys.length) else none
def msr (st : List (D × Nat)) : Nat := (st.map fun p => p.1.size).sum
theorem sizes_eq (ds : List D) : D.size.sizes ds = (ds.map D.size).sum := by
  induction ds with
  | nil => rfl
  | cons d ds ih => rw [D.size.sizes, ih, List.map_cons, List.sum_cons]
theorem size_pos (d : D) : 0 < d.size := by
  cases d <;> (unfold D.size; omega)
theorem inner_size {d : D} {ys : List D} (h : inner d = some ys) : (ys.map D.size).sum < d.size := by
  unfold inner at h
  split at h
  · split at h
    · cases h
      exact size_pos _
    · cases h
  · rename_i w y
    unfold innerPair at h
    split at h
    · cases h
      simp only [D.size, D.size.sizes, List.map_cons, List.map_nil, List.sum_cons, List.sum_nil]
      omega
    · split at h
      · cases y with
        | tup zs =>
          cases h
          simp only [D.size, D.size.sizes, sizes_eq]
          omega
        | str z => cases h
        | lst => cases h
        | flat => cases h
      · cases h
  · cases h
theorem msr_step {d : D} {k : Nat} {st : List (D × Nat)} {ys : List D} (h : inner d = some ys) : msr ((ys.map fun y => (y, k + 1)).reverse ++ st) < msr ((d, k) :: st) := by
  unfold msr
  rw [List.map_append, List.sum_append, List.map_reverse, List.sum_reverse, List.map_map, List.map_cons, List.sum_cons]
  have e : ((fun p : D × Nat => p.1.size) ∘ fun y => (y, k + 1)) = D.size := rfl
  rw [e]
  have := inner_size h
  show _ < d.size + _
  omega

/-! ### expressions -/
inductive E where
  | eps
  | sym (c : Nat)
  | maybe (e : E)
  | many (e : E)
  | join (es : List E)
  | alt (es : List E)
def E.toD : E → D
  | .eps => .str sNo
  | .sym c => .str ⟨#[c]⟩
  | .maybe e => .tup [.str sMaybe, e.toD]
  | .many e => .tup [.str sMany, e.toD]
  | .join es => .tup [.str sJoin, .tup (toDs es)]
  | .alt es => .tup [.str sOr, .tup (toDs es)]
where toDs : List E → List D
  | [] => []
  | e :: es => e.toD :: toDs es
theorem toDs_eq (es : List E) : E.toD.toDs es = es.map E.toD := by
  induction es with
  | nil => rfl
  | cons e es ih => rw [E.toD.toDs, ih, List.map_cons]
def isJoin : E → Bool | .join _ => true | _ => false
def isAlt : E → Bool | .alt _ => true | _ => false
def E.ok : E → Bool
  | .eps => true
  | .sym c => decide (97 ≤ c) && decide (c ≤ 100)
  | .maybe e => e.ok
  | .many e => e.ok
  | .join es => decide (2 ≤ es.length) && oks es && !(es.any isJoin)
  | .alt es => decide (2 ≤ es.length) && oks es && !(es.any isAlt)
where oks : List E → Bool
  | [] => true
  | e :: es => e.ok && oks es
theorem oks_eq (es : List E) : E.ok.oks es = es.all E.ok := by
  induction es with
  | nil => rfl
  | cons e es ih => rw [E.ok.oks, ih, List.all_cons]
def E.places : E → Nat
  | .eps => 0
  | .sym _ => 1
  | .maybe e => e.places
  | .many e => e.places
  | .join es => placess es
  | .alt es => placess es
where placess : List E → Nat
  | [] => 0
  | e :: es => e.places + placess es
def E.depth : E → Nat
  | .eps => 0
  | .sym _ => 0
  | .maybe e => e.depth + 1
  | .many e => e.depth + 1
  | .join es => depths es + 1
  | .alt es => depths es + 1
where depths : List E → Nat
  | [] => 0
  | e :: es => max e.depth (depths es)
def E.parts : E → Nat
  | .eps => 1
  | .sym _ => 1
  | .maybe e => e.parts + 1
  | .many e => e.parts + 1
  | .join es => partss es + 1
  | .alt es => partss es + 1
where partss : List E → Nat
  | [] => 0
  | e :: es => e.parts + partss es
theorem placess_eq (es : List E) : E.places.placess es = (es.map E.places).sum := by
  induction es with
  | nil => rfl
  | cons e es ih => rw [E.places.placess, ih, List.map_cons, List.sum_cons]
theorem partss_eq (es : List E) : E.parts.partss es = (es.map E.parts).sum := by
  induction es with
  | nil => rfl
  | cons e es ih => rw [E.parts.partss, ih, List.map_cons, List.sum_cons]
theorem depths_le {es : List E} {n : Nat} (h : ∀ e ∈ es, e.depth ≤ n) : E.depth.depths es ≤ n := by
  induction es with
  | nil => exact Nat.zero_le _
  | cons e es ih =>
    rw [E.depth.depths]
    exact Nat.max_le.mpr ⟨h e (List.mem_cons_self ..), ih fun x hx => h x (List.mem_cons_of_mem _ hx)⟩
/-- the expressions directly in one -/
def E.kids : E → List E
  | .eps => []
  | .sym _ => []
  | .maybe e => [e]
  | .many e => [e]
  | .join es => es
  | .alt es => es
def E.own : E → Nat
  | .sym _ => 1
  | _ => 0
theorem parts_kids (e : E) : e.parts = (e.kids.map E.parts).sum + 1 := by
  cases e <;> simp [E.parts, E.kids, partss_eq]
theorem places_kids (e : E) : e.places = e.own + (e.kids.map E.places).sum := by
  cases e <;> simp [E.places, E.kids, E.own, placess_eq]
theorem ok_kids {e : E} (h : e.ok = true) : ∀ k ∈ e.kids, k.ok = true := by
  intro k hk
  cases e with
  | eps => cases hk
  | sym c => cases hk
  | maybe e => rw [E.kids, List.mem_singleton] at hk; subst hk; rw [E.ok] at h; exact h
  | many e => rw [E.kids, List.mem_singleton] at hk; subst hk; rw [E.ok] at h; exact h
  | join es =>
    rw [E.ok, oks_eq] at h
    simp only [Bool.and_eq_true, List.all_eq_true] at h
    exact h.1.2 k hk
  | alt es =>
    rw [E.ok, oks_eq] at h
    simp only [Bool.and_eq_true, List.all_eq_true] at h
    exact h.1.2 k hk
theorem begins_tup (w x : Str) (ys : List D) : begins w (.tup (.str x :: ys)) = decide (x = w) := rfl
theorem begins_join (e : E) : begins sJoin e.toD = isJoin e := by
  cases e with
  | eps => rfl
  | sym c => rfl
  | maybe e => rw [E.toD, begins_tup]; exact decide_eq_false (fun h => jm h.symm)
  | many e => rw [E.toD, begins_tup]; exact decide_eq_false (fun h => jn h.symm)
  | join es => rw [E.toD, begins_tup]; exact decide_eq_true rfl
  | alt es => rw [E.toD, begins_tup]; exact decide_eq_false (fun h => jo h.symm)
theorem begins_or (e : E) : begins sOr e.toD = isAlt e := by
  cases e with
  | eps => rfl
  | sym c => rfl
  | maybe e => rw [E.toD, begins_tup]; exact decide_eq_false (fun h => om h.symm)
  | many e => rw [E.toD, begins_tup]; exact decide_eq_false (fun h => on h.symm)
  | join es => rw [E.toD, begins_tup]; exact decide_eq_false (fun h => jo h)
  | alt es => rw [E.toD, begins_tup]; exact decide_eq_true rfl
theorem rowOk_tup (w : Str) (ys : List D) : rowOk w (.tup ys) = (decide (2 ≤ ys.length) && !(ys.any (begins w))) := rfl
theorem inner_toD {e : E} (h : e.ok = true) : inner e.toD = some (e.kids.map E.toD) := by
  cases e with
  | eps => rw [E.toD, inner, if_pos (.inl rfl)]; rfl
  | sym c =>
    have q : isLet ⟨#[c]⟩ = true := by
      rw [E.ok] at h
      exact h
    rw [E.toD, inner, if_pos (.inr q)]; rfl
  | maybe e => rw [E.toD, inner_pair, innerPair, if_pos (.inl rfl)]; rfl
  | many e => rw [E.toD, inner_pair, innerPair, if_pos (.inr rfl)]; rfl
  | join es =>
    rw [E.ok, oks_eq] at h
    simp only [Bool.and_eq_true, decide_eq_true_eq] at h
    have r : rowOk sJoin (.tup (E.toD.toDs es)) = true := by
      rw [rowOk_tup, toDs_eq, List.length_map, List.any_map]
      have z : (begins sJoin ∘ E.toD) = isJoin := funext begins_join
      rw [z, h.2, Bool.and_true]
      exact decide_eq_true h.1.1
    rw [E.toD, inner_pair, innerPair, if_neg (fun z => z.elim jm jn), if_pos ⟨.inl rfl, r⟩, toDs_eq]; rfl
  | alt es =>
    rw [E.ok, oks_eq] at h
    simp only [Bool.and_eq_true, decide_eq_true_eq] at h
    have r : rowOk sOr (.tup (E.toD.toDs es)) = true := by
      rw [rowOk_tup, toDs_eq, List.length_map, List.any_map]
      have z : (begins sOr ∘ E.toD) = isAlt := funext begins_or
      rw [z, h.2, Bool.and_true]
      exact decide_eq_true h.1.1
    rw [E.toD, inner_pair, innerPair, if_neg (fun z => z.elim om on), if_pos ⟨.inr rfl, r⟩, toDs_eq]; rfl
theorem places1_toD (e : E) : places1 e.toD = e.own := by
  cases e <;> rw [E.toD] <;> first | rfl | exact lE
theorem depth_kids (e : E) : ∀ k ∈ e.kids, k.depth + 1 ≤ e.depth := by
  have a : ∀ (es : List E), ∀ k ∈ es, k.depth ≤ E.depth.depths es := by
    intro es
    induction es with
    | nil => intro k h; cases h
    | cons e es ih =>
      intro k h
      rw [E.depth.depths]
      rcases List.mem_cons.mp h with rfl | h
      · exact Nat.le_max_left _ _
      · exact Nat.le_trans (ih k h) (Nat.le_max_right _ _)
  intro k hk
  cases e with
  | eps => cases hk
  | sym c => cases hk
  | maybe e => rw [E.kids, List.mem_singleton] at hk; subst hk; rw [E.depth]; omega
  | many e => rw [E.kids, List.mem_singleton] at hk; subst hk; rw [E.depth]; omega
  | join es => have := a es k hk; rw [E.depth]; omega
  | alt es => have := a es k hk; rw [E.depth]; omega
theorem depth_by {e : E} {n : Nat} (h : ∀ k ∈ e.kids, k.depth + 1 ≤ n) : e.depth ≤ n ∨ (e.kids = [] ∧ e.depth = 0) ∨ e.depth = 1 := by
  cases e with
  | eps => exact .inr (.inl ⟨rfl, rfl⟩)
  | sym c => exact .inr (.inl ⟨rfl, rfl⟩)
  | maybe e => exact .inl (h e (List.mem_singleton.mpr rfl))
  | many e => exact .inl (h e (List.mem_singleton.mpr rfl))
  | join es =>
    cases es with
    | nil => exact .inr (.inr rfl)
    | cons x r =>
      refine .inl ?_
      rw [E.depth]
      cases n with
      | zero => have := h x (List.mem_cons_self ..); omega
      | succ n => exact Nat.succ_le_succ (depths_le fun k hk => Nat.le_of_succ_le_succ (h k hk))
  | alt es =>
    cases es with
    | nil => exact .inr (.inr rfl)
    | cons x r =>
      refine .inl ?_
      rw [E.depth]
      cases n with
      | zero => have := h x (List.mem_cons_self ..); omega
      | succ n => exact Nat.succ_le_succ (depths_le fun k hk => Nat.le_of_succ_le_succ (h k hk))
/-! ### what the look gives -/
abbrev Stk := List (E × Nat)
def sD (st : Stk) : List (D × Nat) := st.map fun p => (p.1.toD, p.2)
/-- the greatest depth on the stack, from m on -/
def deepE (st : Stk) (m : Nat) : Nat := st.foldr (fun p m => max (p.2 + p.1.depth) m) m
def totE (st : Stk) (a : Bnd) : Bnd := (a.1 + (st.map fun p => p.1.places).sum, deepE st a.2.1, a.2.2 + (st.map fun p => p.1.parts - 1).sum)
theorem deepE_app (s t : Stk) (m : Nat) : deepE (s ++ t) m = deepE s (deepE t m) := by
  unfold deepE
  rw [List.foldr_append]
theorem deepE_max (s : Stk) (m : Nat) : m ≤ deepE s m := by
  induction s with
  | nil => exact Nat.le_refl _
  | cons p s ih => exact Nat.le_trans ih (Nat.le_max_right _ _)
theorem deepE_le {s : Stk} {m n : Nat} : deepE s m ≤ n ↔ m ≤ n ∧ ∀ p ∈ s, p.2 + p.1.depth ≤ n := by
  induction s with
  | nil => exact ⟨fun h => ⟨h, fun p hp => by cases hp⟩, fun h => h.1⟩
  | cons p s ih =>
    show max (p.2 + p.1.depth) (deepE s m) ≤ n ↔ _
    rw [Nat.max_le, ih]
    constructor
    · rintro ⟨h1, h2, h3⟩
      refine ⟨h2, fun q hq => ?_⟩
      rcases List.mem_cons.mp hq with rfl | hq
      · exact h1
      · exact h3 q hq
    · rintro ⟨h1, h2⟩
      exact ⟨h2 p (List.mem_cons_self ..), h1, fun q hq => h2 q (List.mem_cons_of_mem _ hq)⟩
theorem within_iff {b a : Bnd} : within b a = true ↔ a.1 ≤ b.1 ∧ a.2.1 ≤ b.2.1 ∧ a.2.2 ≤ b.2.2 := by
  unfold within
  simp only [Bool.and_eq_true, decide_eq_true_eq, and_assoc]
theorem depth_parts (e : E) (k : Nat) (n : Nat) (h0 : k ≤ n) (h : ∀ q ∈ e.kids, k + 1 + q.depth ≤ n) (hk : e.kids = [] → e.depth = 0) : k + e.depth ≤ n := by
  rcases depth_by (e := e) (n := n - k) (fun q hq => by have := h q hq; omega) with a | ⟨_, a⟩ | a
  · omega
  · omega
  · cases e with
    | eps => have : E.depth E.eps = 0 := rfl; omega
    | sym c => have : E.depth (E.sym c) = 0 := rfl; omega
    | maybe e => have := h e (List.mem_singleton.mpr rfl); omega
    | many e => have := h e (List.mem_singleton.mpr rfl); omega
    | join es =>
      cases es with
      | nil => have := hk rfl; omega
      | cons x r => have := h x (List.mem_cons_self ..); omega
    | alt es =>
      cases es with
      | nil => have := hk rfl; omega
      | cons x r => have := h x (List.mem_cons_self ..); omega
theorem kids_nil {e : E} (h : e.ok = true) (k : e.kids = []) : e.depth = 0 := by
  cases e with
  | eps => rfl
  | sym c => rfl
  | maybe e => cases k
  | many e => cases k
  | join es =>
    rw [E.kids] at k
    subst k
    cases h
  | alt es =>
    rw [E.kids] at k
    subst k
    cases h
theorem parts_pos (e : E) : 1 ≤ e.parts := by
  rw [parts_kids]
  omega
theorem sum_pred (es : List E) : (es.map fun e => e.parts - 1).sum + es.length = (es.map E.parts).sum := by
  induction es with
  | nil => rfl
  | cons e es ih =>
    have := parts_pos e
    simp only [List.map_cons, List.sum_cons, List.length_cons]
    omega
/-- one look at an expression -/
theorem tot_step {b : Bnd} {e : E} {k : Nat} {st : Stk} {a : Bnd} (h : e.ok = true) :
    totE ((e.kids.map fun y => (y, k + 1)).reverse ++ st) (a.1 + e.own, max a.2.1 k, a.2.2 + e.kids.length) = totE ((e, k) :: st) a := by
  have hp := places_kids e
  have hq := parts_kids e
  have hs := sum_pred e.kids
  unfold totE
  refine Prod.ext ?_ (Prod.ext ?_ ?_)
  · show a.1 + e.own + _ = a.1 + _
    rw [List.map_append, List.sum_append, List.map_reverse, List.sum_reverse, List.map_map, List.map_cons, List.sum_cons]
    show a.1 + e.own + ((e.kids.map E.places).sum + _) = a.1 + (e.places + _)
    omega
  · show deepE _ (max a.2.1 k) = deepE ((e, k) :: st) a.2.1
    refine Nat.le_antisymm (deepE_le.mpr ⟨?_, ?_⟩) (deepE_le.mpr ⟨?_, ?_⟩)
    · refine Nat.max_le.mpr ⟨deepE_max _ _, ?_⟩
      exact Nat.le_trans (Nat.le_add_right _ _) ((deepE_le.mp (Nat.le_refl _)).2 (e, k) (List.mem_cons_self ..))
    · intro p hp
      rcases List.mem_append.mp hp with hp | hp
      · rw [List.mem_reverse, List.mem_map] at hp
        obtain ⟨y, hy, rfl⟩ := hp
        have := depth_kids e y hy
        have q := (deepE_le.mp (Nat.le_refl (deepE ((e, k) :: st) a.2.1))).2 (e, k) (List.mem_cons_self ..)
        show k + 1 + y.depth ≤ _
        have q' : k + e.depth ≤ deepE ((e, k) :: st) a.2.1 := q
        omega
      · exact (deepE_le.mp (Nat.le_refl (deepE ((e, k) :: st) a.2.1))).2 p (List.mem_cons_of_mem _ hp)
    · exact Nat.le_trans (Nat.le_max_left _ _) (deepE_max _ _)
    · intro p hp
      have L := (deepE_le.mp (Nat.le_refl (deepE ((e.kids.map fun y => (y, k + 1)).reverse ++ st) (max a.2.1 k))))
      rcases List.mem_cons.mp hp with rfl | hp
      · refine depth_parts e k _ (Nat.le_trans (Nat.le_max_right _ _) L.1) (fun q hq => ?_) (kids_nil h)
        exact L.2 (q, k + 1) (List.mem_append_left _ (List.mem_reverse.mpr (List.mem_map.mpr ⟨q, hq, rfl⟩)))
      · exact L.2 p (List.mem_append_right _ hp)
  · show a.2.2 + e.kids.length + _ = a.2.2 + _
    rw [List.map_append, List.sum_append, List.map_reverse, List.sum_reverse, List.map_map, List.map_cons, List.sum_cons]
    show a.2.2 + e.kids.length + ((e.kids.map fun e => e.parts - 1).sum + _) = a.2.2 + ((e.parts - 1) + _)
    omega
theorem tot_ge (st : Stk) (a : Bnd) : a.1 ≤ (totE st a).1 ∧ a.2.1 ≤ (totE st a).2.1 ∧ a.2.2 ≤ (totE st a).2.2 := ⟨Nat.le_add_right _ _, deepE_max _ _, Nat.le_add_right _ _⟩
theorem sD_step (e : E) (k : Nat) (st : Stk) : ((e.kids.map E.toD).map fun y => (y, k + 1)).reverse ++ sD st = sD ((e.kids.map fun y => (y, k + 1)).reverse ++ st) := by
  unfold sD
  rw [List.map_append, List.map_reverse, List.map_map, List.map_map]
  rfl
theorem look_ok {b : Bnd} : ∀ (n : Nat) (st : Stk) (a : Bnd), msr (sD st) < n → (∀ p ∈ st, p.1.ok = true) → within b a = true → look b n (sD st) a = if within b (totE st a) = true then some (totE st a) else none
  | 0, st, a, h, _, _ => absurd h (Nat.not_lt_zero _)
  | n + 1, [], a, _, _, hw => by
    have e : totE [] a = a := rfl
    rw [e, if_pos hw]
    rfl
  | n + 1, (e, k) :: st, a, hm, ho, hw => by
    have h := ho (e, k) (List.mem_cons_self ..)
    have hi := inner_toD h
    show (match inner e.toD with | none => none | some ys => if within b (a.1 + places1 e.toD, max a.2.1 k, a.2.2 + ys.length) = true then look b n ((ys.map fun y => (y, k + 1)).reverse ++ sD st) (a.1 + places1 e.toD, max a.2.1 k, a.2.2 + ys.length) else none) = _
    rw [hi]
    show (if within b (a.1 + places1 e.toD, max a.2.1 k, a.2.2 + (e.kids.map E.toD).length) = true then look b n (((e.kids.map E.toD).map fun y => (y, k + 1)).reverse ++ sD st) (a.1 + places1 e.toD, max a.2.1 k, a.2.2 + (e.kids.map E.toD).length) else none) = _
    rw [places1_toD, List.length_map, sD_step]
    have ts := tot_step (b := b) (k := k) (st := st) (a := a) h
    by_cases c : within b (a.1 + e.own, max a.2.1 k, a.2.2 + e.kids.length) = true
    · have m1 : msr (sD ((e.kids.map fun y => (y, k + 1)).reverse ++ st)) < n := by
        have := msr_step (k := k) (st := sD st) hi
        rw [sD_step] at this
        have hm' : msr ((e.toD, k) :: sD st) < n + 1 := hm
        exact Nat.lt_of_lt_of_le this (Nat.le_of_lt_succ hm')
      rw [if_pos c, look_ok n _ _ m1 (fun p hp => ?_) c, ts]
      rcases List.mem_append.mp hp with hp | hp
      · rw [List.mem_reverse, List.mem_map] at hp
        obtain ⟨y, hy, rfl⟩ := hp
        exact ok_kids h y hy
      · exact ho p (List.mem_cons_of_mem _ hp)
    · rw [if_neg c, if_neg]
      intro z
      rw [← ts] at z
      apply c
      have g := tot_ge ((e.kids.map fun y => (y, k + 1)).reverse ++ st) (a.1 + e.own, max a.2.1 k, a.2.2 + e.kids.length)
      rw [within_iff] at z ⊢
      exact ⟨Nat.le_trans g.1 z.1, Nat.le_trans g.2.1 z.2.1, Nat.le_trans g.2.2 z.2.2⟩
/-- something wrong within -/
inductive Bad : D → Prop where
  | here {d : D} (h : inner d = none) : Bad d
  | inn {d y : D} {ys : List D} (h : inner d = some ys) (m : y ∈ ys) (b : Bad y) : Bad d
theorem look_bad {b : Bnd} : ∀ (n : Nat) (st : List (D × Nat)) (a : Bnd), (∃ p ∈ st, Bad p.1) → look b n st a = none
  | 0, _, _, _ => rfl
  | n + 1, [], _, h => by
    obtain ⟨p, hp, _⟩ := h
    cases hp
  | n + 1, (d, k) :: st, a, h => by
    show (match inner d with | none => none | some ys => if within b (a.1 + places1 d, max a.2.1 k, a.2.2 + ys.length) = true then look b n ((ys.map fun y => (y, k + 1)).reverse ++ st) (a.1 + places1 d, max a.2.1 k, a.2.2 + ys.length) else none) = none
    cases hi : inner d with
    | none => rfl
    | some ys =>
      show (if within b (a.1 + places1 d, max a.2.1 k, a.2.2 + ys.length) = true then look b n ((ys.map fun y => (y, k + 1)).reverse ++ st) (a.1 + places1 d, max a.2.1 k, a.2.2 + ys.length) else none) = none
      split
      · refine look_bad n _ _ ?_
        obtain ⟨p, hp, hb⟩ := h
        rcases List.mem_cons.mp hp with rfl | hp
        · cases hb with
          | here z => rw [z] at hi; cases hi
          | inn z m hb =>
            rw [z] at hi
            cases hi
            exact ⟨(_, k + 1), List.mem_append_left _ (List.mem_reverse.mpr (List.mem_map.mpr ⟨_, m, rfl⟩)), hb⟩
        · exact ⟨p, List.mem_append_right _ hp, hb⟩
      · rfl
/-- what sizes_within gives of a datum -/
def sizesOf (b : Bnd) (d : D) : Option Bnd := look b (d.size + 1) [(d, 0)] (0, 0, 1)
theorem sizes_ok {b : Bnd} {e : E} (h : e.ok = true) (hb : 1 ≤ b.2.2) : sizesOf b e.toD = if within b (e.places, e.depth, e.parts) = true then some (e.places, e.depth, e.parts) else none := by
  have q := look_ok (b := b) (e.toD.size + 1) [(e, 0)] (0, 0, 1) (by show msr [(e.toD, 0)] < _; unfold msr; simp) (fun p hp => by rw [List.mem_singleton] at hp; subst hp; exact h) (within_iff.mpr ⟨Nat.zero_le _, Nat.zero_le _, hb⟩)
  have t : totE [(e, 0)] (0, 0, 1) = (e.places, e.depth, e.parts) := by
    have := parts_pos e
    refine Prod.ext ?_ (Prod.ext ?_ ?_)
    · show 0 + (e.places + 0) = e.places
      omega
    · show max (0 + e.depth) 0 = e.depth
      omega
    · show 1 + (e.parts - 1 + 0) = e.parts
      omega
  rw [t] at q
  exact q
theorem sizes_bad {b : Bnd} {d : D} (h : Bad d) : sizesOf b d = none := look_bad _ _ _ ⟨(d, 0), List.mem_singleton.mpr rfl, h⟩
theorem headFlat_toD (e : E) : headFlat e.toD = true := by
  cases e <;> rw [E.toD] <;> rfl
theorem rowFlat_toDs (es : List E) : rowFlat (.tup (E.toD.toDs es)) = true := by
  rw [toDs_eq]
  show (es.map E.toD).all headFlat = true
  rw [List.all_eq_true]
  intro d hd
  rw [List.mem_map] at hd
  obtain ⟨e, _, rfl⟩ := hd
  exact headFlat_toD e
theorem fl_pair {w : Str} {y : D} (h : w = sJoin ∨ w = sOr → rowFlat y = true) (k : Fl y) : Fl (.tup [.str w, y]) := by
  refine .tup (fun w' y' e => ?_) fun d hd => ?_
  · cases e
    exact h
  · rcases List.mem_cons.mp hd with rfl | hd
    · exact .str _
    · rw [List.mem_singleton] at hd
      subst hd
      exact k
theorem toD_str {e : E} {w : Str} (h : e.toD = .str w) : ¬ (w = sJoin ∨ w = sOr) := by
  cases e with
  | eps =>
    rw [E.toD] at h
    cases h
    rintro (h | h)
    · exact je h.symm
    · exact oe h.symm
  | sym c =>
    rw [E.toD] at h
    cases h
    rintro (h | h)
    · have := congrArg Str.length h
      rw [lJ] at this
      cases this
    · have := congrArg Str.length h
      rw [lO] at this
      cases this
  | maybe e => rw [E.toD] at h; cases h
  | many e => rw [E.toD] at h; cases h
  | join es => rw [E.toD] at h; cases h
  | alt es => rw [E.toD] at h; cases h
mutual
theorem fl_toD : ∀ e : E, Fl e.toD
  | .eps => .str _
  | .sym c => .str _
  | .maybe e => by
    rw [E.toD]
    exact fl_pair (fun h => (h.elim (fun h => jm h.symm) fun h => om h.symm).elim) (fl_toD e)
  | .many e => by
    rw [E.toD]
    exact fl_pair (fun h => (h.elim (fun h => jn h.symm) fun h => on h.symm).elim) (fl_toD e)
  | .join es => by
    rw [E.toD]
    exact fl_pair (fun _ => rowFlat_toDs es) (fl_toDs es)
  | .alt es => by
    rw [E.toD]
    exact fl_pair (fun _ => rowFlat_toDs es) (fl_toDs es)
theorem fl_toDs : ∀ es : List E, Fl (.tup (E.toD.toDs es))
  | [] => .tup (fun w y h => by cases h) fun d hd => by cases hd
  | e :: es => by
    have h := fl_toDs es
    have h0 := fl_toD e
    refine .tup (fun w y z hw => ?_) fun d hd => ?_
    · rw [E.toD.toDs] at z
      have z1 : e.toD = .str w := (List.cons.inj z).1
      exact absurd hw (toD_str z1)
    · rw [E.toD.toDs] at hd
      rcases List.mem_cons.mp hd with rfl | hd
      · exact h0
      · cases h with
        | tup _ k => exact k d hd
end
end My
namespace My
open PySem PySem.Spec PyProof.Rows L2
/-! ### which places come first, last, behind one another -/
structure Gl where
  nul : Bool
  fst : List Nat
  lst : List Nat
  fol : List (Nat × Nat)
def prodL (xs ys : List Nat) : List (Nat × Nat) := (xs.map fun i => ys.map fun j => (i, j)).flatten
theorem mem_prodL {xs ys : List Nat} {i j : Nat} : (i, j) ∈ prodL xs ys ↔ i ∈ xs ∧ j ∈ ys := by
  unfold prodL
  rw [List.mem_flatten]
  constructor
  · rintro ⟨l, hl, h⟩
    obtain ⟨a, ha, rfl⟩ := List.mem_map.mp hl
    obtain ⟨b, hb, e⟩ := List.mem_map.mp h
    cases e
    exact ⟨ha, hb⟩
  · rintro ⟨h1, h2⟩
    exact ⟨_, List.mem_map.mpr ⟨i, h1, rfl⟩, List.mem_map.mpr ⟨j, h2, rfl⟩⟩
def Gl.one : Gl := ⟨true, [], [], []⟩
def Gl.non : Gl := ⟨false, [], [], []⟩
def Gl.seq (a b : Gl) : Gl := ⟨a.nul && b.nul, a.fst ++ (if a.nul then b.fst else []), (if b.nul then a.lst else []) ++ b.lst, a.fol ++ (prodL a.lst b.fst ++ b.fol)⟩
def Gl.par (a b : Gl) : Gl := ⟨a.nul || b.nul, a.fst ++ b.fst, a.lst ++ b.lst, a.fol ++ b.fol⟩
def gl : E → Nat → Gl
  | .eps, _ => .one
  | .sym _, o => ⟨false, [o], [o], []⟩
  | .maybe e, o => ⟨true, (gl e o).fst, (gl e o).lst, (gl e o).fol⟩
  | .many e, o => ⟨true, (gl e o).fst, (gl e o).lst, (gl e o).fol ++ prodL (gl e o).lst (gl e o).fst⟩
  | .join es, o => glJ es o
  | .alt es, o => glA es o
where
  glJ : List E → Nat → Gl
    | [], _ => .one
    | e :: es, o => (gl e o).seq (glJ es (o + e.places))
  glA : List E → Nat → Gl
    | [], _ => .non
    | e :: es, o => (gl e o).par (glA es (o + e.places))
/-- the same but for the sequence of the pairs -/
structure Eqv (a b : Gl) : Prop where
  nul : a.nul = b.nul
  fst : a.fst = b.fst
  lst : a.lst = b.lst
  fol : ∀ x, x ∈ a.fol ↔ x ∈ b.fol
theorem Eqv.refl (a : Gl) : Eqv a a := ⟨rfl, rfl, rfl, fun _ => Iff.rfl⟩
theorem Eqv.trans {a b c : Gl} (x : Eqv a b) (y : Eqv b c) : Eqv a c := ⟨x.nul.trans y.nul, x.fst.trans y.fst, x.lst.trans y.lst, fun z => (x.fol z).trans (y.fol z)⟩
theorem Eqv.seq {a b c : Gl} (h : Eqv b c) : Eqv (a.seq b) (a.seq c) where
  nul := by unfold Gl.seq; rw [h.nul]
  fst := by unfold Gl.seq; rw [h.fst]
  lst := by unfold Gl.seq; rw [h.lst, h.nul]
  fol x := by
    unfold Gl.seq
    simp only [List.mem_append]
    rw [h.fst, h.fol]
theorem seq_one (a : Gl) : Eqv (a.seq .one) a where
  nul := Bool.and_true _
  fst := by show a.fst ++ (if a.nul = true then [] else []) = _; split <;> simp
  lst := by show (if true = true then a.lst else []) ++ [] = _; simp
  fol x := by
    show x ∈ a.fol ++ (prodL a.lst [] ++ []) ↔ _
    obtain ⟨i, j⟩ := x
    rw [List.mem_append, List.append_nil, mem_prodL]
    simp
theorem one_seq (a : Gl) : Eqv (Gl.one.seq a) a where
  nul := rfl
  fst := rfl
  lst := by show (if a.nul = true then [] else []) ++ a.lst = _; split <;> rfl
  fol x := Iff.rfl
theorem seq_assoc (a b c : Gl) : Eqv ((a.seq b).seq c) (a.seq (b.seq c)) where
  nul := Bool.and_assoc ..
  fst := by
    show (a.fst ++ (if a.nul = true then b.fst else [])) ++ (if (a.nul && b.nul) = true then c.fst else []) = a.fst ++ (if a.nul = true then b.fst ++ (if b.nul = true then c.fst else []) else [])
    cases a.nul <;> cases b.nul <;> simp
  lst := by
    show (if c.nul = true then (if b.nul = true then a.lst else []) ++ b.lst else []) ++ c.lst = (if (b.nul && c.nul) = true then a.lst else []) ++ ((if c.nul = true then b.lst else []) ++ c.lst)
    cases b.nul <;> cases c.nul <;> simp
  fol x := by
    obtain ⟨i, j⟩ := x
    unfold Gl.seq
    simp only [List.mem_append, mem_prodL]
    cases a.nul <;> cases b.nul <;> cases c.nul <;> simp <;> grind
theorem par_assoc (a b c : Gl) : (a.par b).par c = a.par (b.par c) := by
  unfold Gl.par
  simp [Bool.or_assoc, List.append_assoc]
theorem par_non (a : Gl) : a.par .non = a := by
  unfold Gl.par Gl.non
  simp
theorem non_par (a : Gl) : Gl.non.par a = a := by
  unfold Gl.par Gl.non
  simp
theorem sumP_cons (e : E) (es : List E) : ((e :: es).map E.places).sum = e.places + (es.map E.places).sum := by
  rw [List.map_cons, List.sum_cons]
theorem glJ_snoc (es : List E) (e : E) : ∀ o, Eqv (gl.glJ (es ++ [e]) o) ((gl.glJ es o).seq (gl e (o + (es.map E.places).sum))) := by
  induction es with
  | nil =>
    intro o
    show Eqv ((gl e o).seq Gl.one) (Gl.one.seq (gl e (o + 0)))
    rw [Nat.add_zero]
    refine (seq_one _).trans ?_
    have := one_seq (gl e o)
    exact ⟨this.nul.symm, this.fst.symm, this.lst.symm, fun x => (this.fol x).symm⟩
  | cons a es ih =>
    intro o
    show Eqv ((gl a o).seq (gl.glJ (es ++ [e]) (o + a.places))) (((gl a o).seq (gl.glJ es (o + a.places))).seq _)
    refine ((ih (o + a.places)).seq).trans ?_
    have h := seq_assoc (gl a o) (gl.glJ es (o + a.places)) (gl e (o + a.places + (es.map E.places).sum))
    rw [sumP_cons, ← Nat.add_assoc]
    exact ⟨h.nul.symm, h.fst.symm, h.lst.symm, fun x => (h.fol x).symm⟩
theorem glA_snoc (es : List E) (e : E) : ∀ o, gl.glA (es ++ [e]) o = (gl.glA es o).par (gl e (o + (es.map E.places).sum)) := by
  induction es with
  | nil =>
    intro o
    show (gl e o).par Gl.non = Gl.non.par (gl e (o + 0))
    rw [Nat.add_zero, par_non, non_par]
  | cons a es ih =>
    intro o
    show (gl a o).par (gl.glA (es ++ [e]) (o + a.places)) = ((gl a o).par (gl.glA es (o + a.places))).par _
    rw [ih, par_assoc, sumP_cons, ← Nat.add_assoc]
/-- all places that are told lie within the expression's own -/
structure Within (g : Gl) (o n : Nat) : Prop where
  fst : ∀ i ∈ g.fst, o ≤ i ∧ i < o + n
  lst : ∀ i ∈ g.lst, o ≤ i ∧ i < o + n
  fol : ∀ i j, (i, j) ∈ g.fol → (o ≤ i ∧ i < o + n) ∧ o ≤ j ∧ j < o + n
theorem Within.wide {g : Gl} {o n o' n' : Nat} (h : Within g o n) (h1 : o' ≤ o) (h2 : o + n ≤ o' + n') : Within g o' n' where
  fst i hi := by have := h.fst i hi; omega
  lst i hi := by have := h.lst i hi; omega
  fol i j hi := by have := h.fol i j hi; omega
theorem Within.seq {a b : Gl} {o n : Nat} (x : Within a o n) (y : Within b o n) : Within (a.seq b) o n where
  fst i hi := by
    rcases List.mem_append.mp hi with h | h
    · exact x.fst i h
    · split at h
      · exact y.fst i h
      · cases h
  lst i hi := by
    rcases List.mem_append.mp hi with h | h
    · split at h
      · exact x.lst i h
      · cases h
    · exact y.lst i h
  fol i j hi := by
    rcases List.mem_append.mp hi with h | h
    · exact x.fol i j h
    · rcases List.mem_append.mp h with h | h
      · have := mem_prodL.mp h
        exact ⟨x.lst i this.1, y.fst j this.2⟩
      · exact y.fol i j h
theorem Within.par {a b : Gl} {o n : Nat} (x : Within a o n) (y : Within b o n) : Within (a.par b) o n where
  fst i hi := (List.mem_append.mp hi).elim (x.fst i) (y.fst i)
  lst i hi := (List.mem_append.mp hi).elim (x.lst i) (y.lst i)
  fol i j hi := (List.mem_append.mp hi).elim (x.fol i j) (y.fol i j)
mutual
theorem gl_within : ∀ (e : E) (o : Nat), Within (gl e o) o e.places
  | .eps, o => ⟨(fun i h => by cases h), (fun i h => by cases h), (fun i j h => by cases h)⟩
  | .sym c, o => ⟨(fun i h => by rw [gl, List.mem_singleton] at h; rw [E.places]; omega), (fun i h => by rw [gl, List.mem_singleton] at h; rw [E.places]; omega), (fun i j h => by cases h)⟩
  | .maybe e, o => by
    have h := gl_within e o
    rw [gl, E.places]
    exact ⟨h.fst, h.lst, h.fol⟩
  | .many e, o => by
    have h := gl_within e o
    rw [gl, E.places]
    refine ⟨h.fst, h.lst, fun i j hi => ?_⟩
    rcases List.mem_append.mp hi with c | c
    · exact h.fol i j c
    · have := mem_prodL.mp c
      exact ⟨h.lst i this.1, h.fst j this.2⟩
  | .join es, o => by
    rw [gl, E.places]
    exact glJ_within es o
  | .alt es, o => by
    rw [gl, E.places]
    exact glA_within es o
theorem glJ_within : ∀ (es : List E) (o : Nat), Within (gl.glJ es o) o (E.places.placess es)
  | [], o => ⟨(fun i h => by cases h), (fun i h => by cases h), (fun i j h => by cases h)⟩
  | e :: es, o => by
    rw [gl.glJ, E.places.placess]
    exact ((gl_within e o).wide (Nat.le_refl _) (by omega)).seq ((glJ_within es (o + e.places)).wide (by omega) (by omega))
theorem glA_within : ∀ (es : List E) (o : Nat), Within (gl.glA es o) o (E.places.placess es)
  | [], o => ⟨(fun i h => by cases h), (fun i h => by cases h), (fun i j h => by cases h)⟩
  | e :: es, o => by
    rw [gl.glA, E.places.placess]
    exact ((gl_within e o).wide (Nat.le_refl _) (by omega)).par ((glA_within es (o + e.places)).wide (by omega) (by omega))
end
/-! ### the letters of the places -/
def E.letters : E → List Nat
  | .eps => []
  | .sym c => [c]
  | .maybe e => e.letters
  | .many e => e.letters
  | .join es => letterss es
  | .alt es => letterss es
where letterss : List E → List Nat
  | [] => []
  | e :: es => e.letters ++ letterss es
theorem letterss_snoc (es : List E) (e : E) : E.letters.letterss (es ++ [e]) = E.letters.letterss es ++ e.letters := by
  induction es with
  | nil => show e.letters ++ [] = [] ++ e.letters; simp
  | cons a es ih =>
    show a.letters ++ E.letters.letterss (es ++ [e]) = (a.letters ++ E.letters.letterss es) ++ e.letters
    rw [ih, List.append_assoc]
mutual
theorem letters_len : ∀ e : E, e.letters.length = e.places
  | .eps => rfl
  | .sym c => rfl
  | .maybe e => by rw [E.letters, E.places]; exact letters_len e
  | .many e => by rw [E.letters, E.places]; exact letters_len e
  | .join es => by rw [E.letters, E.places]; exact letterss_len es
  | .alt es => by rw [E.letters, E.places]; exact letterss_len es
theorem letterss_len : ∀ es : List E, (E.letters.letterss es).length = E.places.placess es
  | [] => rfl
  | e :: es => by rw [E.letters.letterss, E.places.placess, List.length_append, letters_len e, letterss_len es]
end
structure Short (g : Gl) (n : Nat) : Prop where
  fst : g.fst.length ≤ n
  lst : g.lst.length ≤ n
theorem Short.seq {a b : Gl} {m n : Nat} (x : Short a m) (y : Short b n) : Short (a.seq b) (m + n) where
  fst := by
    show (a.fst ++ (if a.nul = true then b.fst else [])).length ≤ _
    rw [List.length_append]
    have := x.fst
    have := y.fst
    split
    · omega
    · show _ + 0 ≤ _; omega
  lst := by
    show ((if b.nul = true then a.lst else []) ++ b.lst).length ≤ _
    rw [List.length_append]
    have := x.lst
    have := y.lst
    split
    · omega
    · show 0 + _ ≤ _; omega
theorem Short.par {a b : Gl} {m n : Nat} (x : Short a m) (y : Short b n) : Short (a.par b) (m + n) where
  fst := by
    show (a.fst ++ b.fst).length ≤ _
    rw [List.length_append]
    have := x.fst
    have := y.fst
    omega
  lst := by
    show (a.lst ++ b.lst).length ≤ _
    rw [List.length_append]
    have := x.lst
    have := y.lst
    omega
mutual
theorem gl_len : ∀ (e : E) (o : Nat), Short (gl e o) e.places
  | .eps, o => ⟨Nat.zero_le _, Nat.zero_le _⟩
  | .sym c, o => ⟨Nat.le_refl _, Nat.le_refl _⟩
  | .maybe e, o => by
    rw [gl, E.places]
    exact ⟨(gl_len e o).fst, (gl_len e o).lst⟩
  | .many e, o => by
    rw [gl, E.places]
    exact ⟨(gl_len e o).fst, (gl_len e o).lst⟩
  | .join es, o => by
    rw [gl, E.places]
    exact glJ_len es o
  | .alt es, o => by
    rw [gl, E.places]
    exact glA_len es o
theorem glJ_len : ∀ (es : List E) (o : Nat), Short (gl.glJ es o) (E.places.placess es)
  | [], o => ⟨Nat.zero_le _, Nat.zero_le _⟩
  | e :: es, o => by
    rw [gl.glJ, E.places.placess]
    exact (gl_len e o).seq (glJ_len es (o + e.places))
theorem glA_len : ∀ (es : List E) (o : Nat), Short (gl.glA es o) (E.places.placess es)
  | [], o => ⟨Nat.zero_le _, Nat.zero_le _⟩
  | e :: es, o => by
    rw [gl.glA, E.places.placess]
    exact (gl_len e o).par (glA_len es (o + e.places))
end
end My
namespace My
open PySem PySem.Spec PyProof.Rows L2
def keysD (ms : List Int) : List (Key × V) := ms.map fun x => (Sum.inl x, V.bl true)
theorem putK_keys (ms : List Int) (x : Int) : putK (keysD ms) (Sum.inl x : Key) (V.bl true) = keysD (if x ∈ ms then ms else ms ++ [x]) := by
  unfold putK keysD
  have e1 : ((ms.map fun x => ((Sum.inl x : Key), V.bl true)).any fun kv => decide (kv.1 = Sum.inl x)) = decide (x ∈ ms) := by
    induction ms with
    | nil => simp
    | cons m ms ih =>
      rw [List.map_cons, List.any_cons, ih]
      by_cases c : m = x
      · subst c
        simp
      · have : ¬ ((Sum.inl m : Key) = Sum.inl x) := fun h => c (Sum.inl.inj h)
        rw [decide_eq_false this, Bool.false_or]
        by_cases d : x ∈ ms
        · rw [decide_eq_true d, decide_eq_true (List.mem_cons_of_mem _ d)]
        · rw [decide_eq_false d, decide_eq_false]
          intro h
          rcases List.mem_cons.mp h with h | h
          · exact c h.symm
          · exact d h
  rw [e1]
  by_cases c : x ∈ ms
  · rw [if_pos (decide_eq_true c), if_pos c, List.map_map]
    refine List.map_congr_left fun y _ => ?_
    show (if (Sum.inl y : Key) = Sum.inl x then ((Sum.inl y : Key), V.bl true) else ((Sum.inl y : Key), V.bl true)) = _
    split <;> rfl
  · rw [if_neg (by rw [decide_eq_false c]; exact Bool.false_ne_true), if_neg c, List.map_append]
    rfl
theorem keysD_vals (ms : List Int) : (keysD ms).map (fun kv => kV kv.1) = ms.map V.int := by
  unfold keysD
  rw [List.map_map]
  rfl
theorem keysD_len (ms : List Int) : (keysD ms).length = ms.length := List.length_map _
/-- a new key beside the others, once -/
def addK (ms : List Int) (x : Int) : List Int := if x ∈ ms then ms else ms ++ [x]
theorem mem_addK {ms : List Int} {x y : Int} : y ∈ addK ms x ↔ y ∈ ms ∨ y = x := by
  unfold addK
  split
  · rename_i h
    constructor
    · exact .inl
    · rintro (c | rfl)
      · exact c
      · exact h
  · rw [List.mem_append, List.mem_singleton]
theorem nodup_addK {ms : List Int} {x : Int} (h : ms.Nodup) : (addK ms x).Nodup := by
  unfold addK
  split
  · exact h
  · rename_i c
    rw [List.nodup_append]
    exact ⟨h, by simp, fun a ha b hb e => c (by rw [List.mem_singleton] at hb; rw [← hb, ← e]; exact ha)⟩
theorem len_addK (ms : List Int) (x : Int) : (addK ms x).length ≤ ms.length + 1 := by
  unfold addK
  split
  · omega
  · rw [List.length_append]; exact Nat.le_refl _
theorem nodup_len : ∀ (n : Nat) (l : List Int), l.Nodup → (∀ x ∈ l, 0 ≤ x ∧ x < n) → l.length ≤ n
  | 0, l, _, h => by
    cases l with
    | nil => exact Nat.le_refl _
    | cons x l =>
      have := h x (List.mem_cons_self ..)
      omega
  | n + 1, l, hd, h => by
    by_cases c : (n : Int) ∈ l
    · have h1 := nodup_len n (l.erase (n : Int)) (hd.erase _) fun x hx => by
        have h2 := h x (List.mem_of_mem_erase hx)
        have h3 : x ≠ (n : Int) := fun e => by
          rw [e] at hx
          exact (List.Nodup.not_mem_erase hd) hx
        omega
      have h4 := List.length_erase_of_mem c
      omega
    · have h1 := nodup_len n l hd fun x hx => by
        have h2 := h x hx
        have h3 : x ≠ (n : Int) := fun e => c (e ▸ hx)
        omega
      omega
theorem take_snoc {α : Type} {l : List α} {i : Nat} {x : α} (h : l[i]? = some x) : l.take (i + 1) = l.take i ++ [x] := by
  rw [List.take_add_one, h]
  rfl
end My
namespace My
open PySem PySem.Spec PyProof.Rows L2
/-! ### ways through the places, and words -/
def lastN : Nat → List Nat → Nat
  | x, [] => x
  | _, y :: ys => lastN y ys
def chn (F : List (Nat × Nat)) : Nat → List Nat → Prop
  | _, [] => True
  | x, y :: ys => (x, y) ∈ F ∧ chn F y ys
def Sfx (g : Gl) (x : Nat) (xs : List Nat) : Prop := chn g.fol x xs ∧ lastN x xs ∈ g.lst
def Acc (g : Gl) : List Nat → Prop
  | [] => g.nul = true
  | x :: xs => x ∈ g.fst ∧ Sfx g x xs
/-- any number of words that are not empty, one behind the other -/
inductive Star {α : Type} (L : List α → Prop) : List α → Prop where
  | nil : Star L []
  | cons {u v : List α} (h : L u) (n : u ≠ []) (t : Star L v) : Star L (u ++ v)
theorem Star.mono {α : Type} {L M : List α → Prop} (k : ∀ u, L u → M u) {w : List α} (h : Star L w) : Star M w := by
  induction h with
  | nil => exact .nil
  | cons h n _ ih => exact .cons (k _ h) n ih
def MP : E → Nat → List Nat → Prop
  | .eps, _, ps => ps = []
  | .sym _, o, ps => ps = [o]
  | .maybe e, o, ps => ps = [] ∨ MP e o ps
  | .many e, o, ps => Star (MP e o) ps
  | .join es, o, ps => mpJ es o ps
  | .alt es, o, ps => mpA es o ps
where
  mpJ : List E → Nat → List Nat → Prop
    | [], _, ps => ps = []
    | e :: es, o, ps => ∃ us vs, ps = us ++ vs ∧ MP e o us ∧ mpJ es (o + e.places) vs
  mpA : List E → Nat → List Nat → Prop
    | [], _, _ => False
    | e :: es, o, ps => MP e o ps ∨ mpA es (o + e.places) ps
def MW : E → List Nat → Prop
  | .eps, w => w = []
  | .sym c, w => w = [c]
  | .maybe e, w => w = [] ∨ MW e w
  | .many e, w => Star (MW e) w
  | .join es, w => mwJ es w
  | .alt es, w => mwA es w
where
  mwJ : List E → List Nat → Prop
    | [], w => w = []
    | e :: es, w => ∃ us vs, w = us ++ vs ∧ MW e us ∧ mwJ es vs
  mwA : List E → List Nat → Prop
    | [], _ => False
    | e :: es, w => MW e w ∨ mwA es w
theorem mp_eps (o : Nat) (ps : List Nat) : MP .eps o ps ↔ ps = [] := Iff.rfl
theorem mp_sym (c o : Nat) (ps : List Nat) : MP (.sym c) o ps ↔ ps = [o] := Iff.rfl
/-! #### one behind the other -/
theorem chn_mono {F G : List (Nat × Nat)} (k : ∀ x, x ∈ F → x ∈ G) : ∀ (ys : List Nat) (x : Nat), chn F x ys → chn G x ys
  | [], _, _ => trivial
  | y :: ys, x, h => ⟨k _ h.1, chn_mono k ys y h.2⟩
theorem chn_app {F : List (Nat × Nat)} : ∀ (us : List Nat) (x y : Nat) (vs : List Nat), chn F x us → (lastN x us, y) ∈ F → chn F y vs → chn F x (us ++ y :: vs)
  | [], _, _, _, _, h2, h3 => ⟨h2, h3⟩
  | _ :: us, _, _, _, h1, h2, h3 => ⟨h1.1, chn_app us _ _ _ h1.2 h2 h3⟩
theorem lastN_app : ∀ (us : List Nat) (x y : Nat) (vs : List Nat), lastN x (us ++ y :: vs) = lastN y vs
  | [], _, _, _ => rfl
  | u :: us, _, y, vs => lastN_app us u y vs
theorem lastN_app0 (x : Nat) (us : List Nat) : lastN x (us ++ []) = lastN x us := by rw [List.append_nil]
/-- a way that is within the later part stays there -/
theorem seq_right {a b : Gl} {o n m : Nat} (wa : Within a o n) (wb : Within b (o + n) m) : ∀ (xs : List Nat) (x : Nat), o + n ≤ x → Sfx (a.seq b) x xs → Sfx b x xs
  | [], x, hx, h => by
    refine ⟨trivial, ?_⟩
    have h2 : x ∈ (if b.nul = true then a.lst else []) ++ b.lst := h.2
    rcases List.mem_append.mp h2 with h2 | h2
    · split at h2
      · have := wa.lst x h2; omega
      · cases h2
    · exact h2
  | y :: ys, x, hx, h => by
    obtain ⟨⟨h1, h2⟩, h3⟩ := h
    have h1' : (x, y) ∈ a.fol ++ (prodL a.lst b.fst ++ b.fol) := h1
    rcases List.mem_append.mp h1' with c | c
    · have := (wa.fol x y c).1; omega
    · rcases List.mem_append.mp c with c | c
      · have := wa.lst x (mem_prodL.mp c).1; omega
      · have hy := (wb.fol x y c).2
        have r := seq_right wa wb ys y hy.1 ⟨h2, h3⟩
        exact ⟨⟨c, r.1⟩, r.2⟩
theorem seq_left {a b : Gl} {o n m : Nat} (wa : Within a o n) (wb : Within b (o + n) m) : ∀ (xs : List Nat) (x : Nat), x < o + n → Sfx (a.seq b) x xs → ∃ us vs, xs = us ++ vs ∧ Sfx a x us ∧ Acc b vs
  | [], x, hx, h => by
    have h2 : x ∈ (if b.nul = true then a.lst else []) ++ b.lst := h.2
    rcases List.mem_append.mp h2 with h2 | h2
    · split at h2
      · rename_i c
        exact ⟨[], [], rfl, ⟨trivial, h2⟩, c⟩
      · cases h2
    · have := wb.lst x h2; omega
  | y :: ys, x, hx, h => by
    obtain ⟨⟨h1, h2⟩, h3⟩ := h
    have h1' : (x, y) ∈ a.fol ++ (prodL a.lst b.fst ++ b.fol) := h1
    rcases List.mem_append.mp h1' with c | c
    · have hy := (wa.fol x y c).2
      obtain ⟨us, vs, e, r1, r2⟩ := seq_left wa wb ys y hy.2 ⟨h2, h3⟩
      subst e
      exact ⟨y :: us, vs, rfl, ⟨⟨c, r1.1⟩, r1.2⟩, r2⟩
    · rcases List.mem_append.mp c with c | c
      · obtain ⟨c1, c2⟩ := mem_prodL.mp c
        exact ⟨[], y :: ys, rfl, ⟨trivial, c1⟩, c2, seq_right wa wb ys y (wb.fst y c2).1 ⟨h2, h3⟩⟩
      · have := (wb.fol x y c).1; omega
theorem acc_seq {a b : Gl} {o n m : Nat} (wa : Within a o n) (wb : Within b (o + n) m) (ps : List Nat) : Acc (a.seq b) ps ↔ ∃ us vs, ps = us ++ vs ∧ Acc a us ∧ Acc b vs := by
  constructor
  · intro h
    cases ps with
    | nil =>
      have h' : (a.nul && b.nul) = true := h
      rw [Bool.and_eq_true] at h'
      exact ⟨[], [], rfl, h'.1, h'.2⟩
    | cons x xs =>
      obtain ⟨h1, h2⟩ := h
      have h1' : x ∈ a.fst ++ (if a.nul = true then b.fst else []) := h1
      rcases List.mem_append.mp h1' with c | c
      · obtain ⟨us, vs, e, r1, r2⟩ := seq_left wa wb xs x (wa.fst x c).2 h2
        subst e
        exact ⟨x :: us, vs, rfl, ⟨c, r1⟩, r2⟩
      · split at c
        · rename_i hn
          exact ⟨[], x :: xs, rfl, hn, c, seq_right wa wb xs x (wb.fst x c).1 h2⟩
        · cases c
  · rintro ⟨us, vs, rfl, h1, h2⟩
    cases us with
    | nil =>
      have h1' : a.nul = true := h1
      cases vs with
      | nil =>
        have h2' : b.nul = true := h2
        show (a.nul && b.nul) = true
        rw [h1', h2']
        rfl
      | cons y ys =>
        refine ⟨?_, chn_mono (fun x hx => List.mem_append_right _ (List.mem_append_right _ hx)) ys y h2.2.1, List.mem_append_right _ h2.2.2⟩
        show y ∈ a.fst ++ (if a.nul = true then b.fst else [])
        rw [if_pos h1']
        exact List.mem_append_right _ h2.1
    | cons x xs =>
      have ca := chn_mono (G := (a.seq b).fol) (fun z hz => List.mem_append_left _ hz) xs x h1.2.1
      cases vs with
      | nil =>
        have h2' : b.nul = true := h2
        rw [List.append_nil]
        refine ⟨List.mem_append_left _ h1.1, ca, ?_⟩
        show _ ∈ (if b.nul = true then a.lst else []) ++ b.lst
        rw [if_pos h2']
        exact List.mem_append_left _ h1.2.2
      | cons y ys =>
        refine ⟨List.mem_append_left _ h1.1, chn_app xs x y ys ca ?_ (chn_mono (fun z hz => List.mem_append_right _ (List.mem_append_right _ hz)) ys y h2.2.1), ?_⟩
        · exact List.mem_append_right _ (List.mem_append_left _ (mem_prodL.mpr ⟨h1.2.2, h2.1⟩))
        · show lastN x (xs ++ y :: ys) ∈ _
          rw [lastN_app]
          exact List.mem_append_right _ h2.2.2
/-! #### one or the other -/
theorem par_left {a b : Gl} {o n m : Nat} (wa : Within a o n) (wb : Within b (o + n) m) : ∀ (xs : List Nat) (x : Nat), x < o + n → Sfx (a.par b) x xs → Sfx a x xs
  | [], x, hx, h => by
    refine ⟨trivial, ?_⟩
    have h2 : x ∈ a.lst ++ b.lst := h.2
    rcases List.mem_append.mp h2 with h2 | h2
    · exact h2
    · have := wb.lst x h2; omega
  | y :: ys, x, hx, h => by
    obtain ⟨⟨h1, h2⟩, h3⟩ := h
    have h1' : (x, y) ∈ a.fol ++ b.fol := h1
    rcases List.mem_append.mp h1' with c | c
    · have r := par_left wa wb ys y (wa.fol x y c).2.2 ⟨h2, h3⟩
      exact ⟨⟨c, r.1⟩, r.2⟩
    · have := (wb.fol x y c).1; omega
theorem par_right {a b : Gl} {o n m : Nat} (wa : Within a o n) (wb : Within b (o + n) m) : ∀ (xs : List Nat) (x : Nat), o + n ≤ x → Sfx (a.par b) x xs → Sfx b x xs
  | [], x, hx, h => by
    refine ⟨trivial, ?_⟩
    have h2 : x ∈ a.lst ++ b.lst := h.2
    rcases List.mem_append.mp h2 with h2 | h2
    · have := wa.lst x h2; omega
    · exact h2
  | y :: ys, x, hx, h => by
    obtain ⟨⟨h1, h2⟩, h3⟩ := h
    have h1' : (x, y) ∈ a.fol ++ b.fol := h1
    rcases List.mem_append.mp h1' with c | c
    · have := (wa.fol x y c).1; omega
    · have r := par_right wa wb ys y (wb.fol x y c).2.1 ⟨h2, h3⟩
      exact ⟨⟨c, r.1⟩, r.2⟩
theorem acc_par {a b : Gl} {o n m : Nat} (wa : Within a o n) (wb : Within b (o + n) m) (ps : List Nat) : Acc (a.par b) ps ↔ Acc a ps ∨ Acc b ps := by
  cases ps with
  | nil =>
    show (a.nul || b.nul) = true ↔ _
    rw [Bool.or_eq_true]
    exact Iff.rfl
  | cons x xs =>
    constructor
    · rintro ⟨h1, h2⟩
      have h1' : x ∈ a.fst ++ b.fst := h1
      rcases List.mem_append.mp h1' with c | c
      · exact .inl ⟨c, par_left wa wb xs x (wa.fst x c).2 h2⟩
      · exact .inr ⟨c, par_right wa wb xs x (wb.fst x c).1 h2⟩
    · rintro (⟨h1, h2, h3⟩ | ⟨h1, h2, h3⟩)
      · exact ⟨List.mem_append_left _ h1, chn_mono (fun z hz => List.mem_append_left _ hz) xs x h2, List.mem_append_left _ h3⟩
      · exact ⟨List.mem_append_right _ h1, chn_mono (fun z hz => List.mem_append_right _ hz) xs x h2, List.mem_append_right _ h3⟩
/-! #### again and again -/
def Gl.rep (a : Gl) : Gl := ⟨true, a.fst, a.lst, a.fol ++ prodL a.lst a.fst⟩
theorem rep_sfx {a : Gl} : ∀ (xs : List Nat) (x : Nat), Sfx a.rep x xs → ∃ us vs, xs = us ++ vs ∧ Sfx a x us ∧ Star (Acc a) vs
  | [], x, h => ⟨[], [], rfl, ⟨trivial, h.2⟩, .nil⟩
  | y :: ys, x, h => by
    obtain ⟨⟨h1, h2⟩, h3⟩ := h
    obtain ⟨us, vs, e, r1, r2⟩ := rep_sfx ys y ⟨h2, h3⟩
    subst e
    have h1' : (x, y) ∈ a.fol ++ prodL a.lst a.fst := h1
    rcases List.mem_append.mp h1' with c | c
    · exact ⟨y :: us, vs, rfl, ⟨⟨c, r1.1⟩, r1.2⟩, r2⟩
    · obtain ⟨c1, c2⟩ := mem_prodL.mp c
      refine ⟨[], y :: (us ++ vs), rfl, ⟨trivial, c1⟩, ?_⟩
      have : Star (Acc a) ((y :: us) ++ vs) := .cons (u := y :: us) ⟨c2, r1⟩ (by simp) r2
      exact this
theorem rep_star {a : Gl} {ps : List Nat} (h : Star (Acc a) ps) : Acc a.rep ps := by
  induction h with
  | nil => rfl
  | @cons u v hu hn _ ih =>
    cases u with
    | nil => exact absurd rfl hn
    | cons x xs =>
      have ca := chn_mono (G := a.rep.fol) (fun z hz => List.mem_append_left _ hz) xs x hu.2.1
      cases v with
      | nil =>
        rw [List.append_nil]
        exact ⟨hu.1, ca, hu.2.2⟩
      | cons y ys =>
        refine ⟨hu.1, chn_app xs x y ys ca (List.mem_append_right _ (mem_prodL.mpr ⟨hu.2.2, ih.1⟩)) ih.2.1, ?_⟩
        show lastN x (xs ++ y :: ys) ∈ _
        rw [lastN_app]
        exact ih.2.2
theorem acc_rep (a : Gl) (ps : List Nat) : Acc a.rep ps ↔ Star (Acc a) ps := by
  refine ⟨fun h => ?_, rep_star⟩
  cases ps with
  | nil => exact .nil
  | cons x xs =>
    obtain ⟨us, vs, e, r1, r2⟩ := rep_sfx xs x h.2
    subst e
    exact .cons (u := x :: us) ⟨h.1, r1⟩ (by simp) r2
mutual
theorem acc_mp : ∀ (e : E) (o : Nat) (ps : List Nat), Acc (gl e o) ps ↔ MP e o ps
  | .eps, o, ps => by
    rw [gl, MP]
    cases ps with
    | nil => exact ⟨fun _ => rfl, fun _ => rfl⟩
    | cons x xs => exact ⟨fun h => (by cases h.1), fun h => by cases h⟩
  | .sym c, o, ps => by
    rw [gl, MP]
    cases ps with
    | nil => exact ⟨fun h => (by cases h), fun h => by cases h⟩
    | cons x xs =>
      constructor
      · rintro ⟨h1, h2, h3⟩
        have h1' := List.mem_singleton.mp h1
        subst h1'
        cases xs with
        | nil => rfl
        | cons y ys => exact absurd h2.1 (by intro c; cases c)
      · intro h
        cases h
        exact ⟨List.mem_singleton.mpr rfl, trivial, List.mem_singleton.mpr rfl⟩
  | .maybe e, o, ps => by
    have ih := acc_mp e o ps
    rw [gl, MP, ← ih]
    cases ps with
    | nil => exact ⟨fun _ => .inl rfl, fun _ => rfl⟩
    | cons x xs => exact ⟨fun h => .inr h, fun h => h.elim (fun c => by cases c) id⟩
  | .many e, o, ps => by
    have ih := acc_mp e o
    have e1 : Star (MP e o) ps ↔ Star (Acc (gl e o)) ps := ⟨Star.mono fun u h => (ih u).mpr h, Star.mono fun u h => (ih u).mp h⟩
    rw [MP, e1, ← acc_rep]
    exact Iff.rfl
  | .join es, o, ps => by
    rw [gl, MP]
    exact acc_mpJ es o ps
  | .alt es, o, ps => by
    rw [gl, MP]
    exact acc_mpA es o ps
theorem acc_mpJ : ∀ (es : List E) (o : Nat) (ps : List Nat), Acc (gl.glJ es o) ps ↔ MP.mpJ es o ps
  | [], o, ps => by
    rw [MP.mpJ]
    cases ps with
    | nil => exact ⟨fun _ => rfl, fun _ => rfl⟩
    | cons x xs => exact ⟨fun h => (by cases h.1), fun h => by cases h⟩
  | e :: es, o, ps => by
    rw [gl.glJ, MP.mpJ, acc_seq (gl_within e o) (glJ_within es (o + e.places))]
    exact exists_congr fun us => exists_congr fun vs => and_congr Iff.rfl (and_congr (acc_mp e o us) (acc_mpJ es _ vs))
theorem acc_mpA : ∀ (es : List E) (o : Nat) (ps : List Nat), Acc (gl.glA es o) ps ↔ MP.mpA es o ps
  | [], o, ps => by
    rw [MP.mpA]
    cases ps with
    | nil => exact ⟨fun h => (by cases h), fun h => h.elim⟩
    | cons x xs => exact ⟨fun h => (by cases h.1), fun h => h.elim⟩
  | e :: es, o, ps => by
    rw [gl.glA, MP.mpA, acc_par (gl_within e o) (glA_within es (o + e.places))]
    exact or_congr (acc_mp e o ps) (acc_mpA es _ ps)
end
/-! #### from places to letters -/
theorem map_split {α β : Type} {f : α → β} : ∀ {ps : List α} {u v : List β}, ps.map f = u ++ v → ∃ p1 p2, ps = p1 ++ p2 ∧ p1.map f = u ∧ p2.map f = v := by
  intro ps u v h
  exact ⟨ps.take u.length, ps.drop u.length, (List.take_append_drop ..).symm, by rw [List.map_take, h]; simp, by rw [List.map_drop, h]; simp⟩
theorem some_inj {u v : List Nat} (h : u.map some = v.map some) : u = v := by
  have := congrArg (List.map fun (o : Option Nat) => o.getD 0) h
  rw [List.map_map, List.map_map] at this
  have e : ((fun (o : Option Nat) => o.getD 0) ∘ some) = id := rfl
  rw [e, List.map_id, List.map_id] at this
  exact this
mutual
theorem mw_mp : ∀ (e : E) (o : Nat) (f : Nat → Option Nat), (∀ i, i < e.places → f (o + i) = e.letters[i]?) → ∀ w, MW e w ↔ ∃ ps, MP e o ps ∧ ps.map f = w.map some
  | .eps, o, f, hf, w => by
    rw [MW]
    constructor
    · rintro rfl
      exact ⟨[], rfl, rfl⟩
    · rintro ⟨ps, h, e⟩
      have h' : ps = [] := h
      subst h'
      cases w with
      | nil => rfl
      | cons c w => cases e
  | .sym c, o, f, hf, w => by
    have h0 := hf 0 (by rw [E.places]; exact Nat.one_pos)
    rw [Nat.add_zero] at h0
    have h0' : f o = some c := h0
    rw [MW]
    constructor
    · rintro rfl
      exact ⟨[o], rfl, by rw [List.map_singleton, List.map_singleton, h0']⟩
    · rintro ⟨ps, h, e⟩
      have h' : ps = [o] := h
      subst h'
      rw [List.map_singleton, h0'] at e
      exact (some_inj (u := [c]) e).symm
  | .maybe e, o, f, hf, w => by
    have ih := mw_mp e o f hf w
    rw [MW, ih]
    constructor
    · rintro (rfl | ⟨ps, h, e⟩)
      · exact ⟨[], .inl rfl, rfl⟩
      · exact ⟨ps, .inr h, e⟩
    · rintro ⟨ps, h | h, e⟩
      · subst h
        cases w with
        | nil => exact .inl rfl
        | cons c w => cases e
      · exact .inr ⟨ps, h, e⟩
  | .many e, o, f, hf, w => by
    have ih := mw_mp e o f hf
    rw [MW]
    constructor
    · intro h
      induction h with
      | nil => exact ⟨[], .nil, rfl⟩
      | cons h n _ ihv =>
        obtain ⟨p1, h1, e1⟩ := (ih _).mp h
        obtain ⟨p2, h2, e2⟩ := ihv
        refine ⟨p1 ++ p2, .cons h1 (fun c => n ?_) h2, by rw [List.map_append, List.map_append, e1, e2]⟩
        subst c
        exact some_inj e1.symm
    · rintro ⟨ps, h, e⟩
      have h' : Star (MP _ o) ps := h
      clear h
      induction h' generalizing w with
      | nil =>
        cases w with
        | nil => exact .nil
        | cons c w => cases e
      | @cons u v hu hn _ ihv =>
        rw [List.map_append] at e
        obtain ⟨w1, w2, rfl, e1, e2⟩ := map_split e.symm
        refine .cons ((ih _).mpr ⟨u, hu, e1.symm⟩) (fun c => hn ?_) (ihv w2 e2.symm)
        subst c
        cases u with
        | nil => rfl
        | cons x u => cases e1
  | .join es, o, f, hf, w => by
    rw [MW]
    exact mw_mpJ es o f hf w
  | .alt es, o, f, hf, w => by
    rw [MW]
    exact mw_mpA es o f hf w
theorem mw_mpJ : ∀ (es : List E) (o : Nat) (f : Nat → Option Nat), (∀ i, i < E.places.placess es → f (o + i) = (E.letters.letterss es)[i]?) → ∀ w, MW.mwJ es w ↔ ∃ ps, MP.mpJ es o ps ∧ ps.map f = w.map some
  | [], o, f, hf, w => by
    rw [MW.mwJ]
    constructor
    · rintro rfl
      exact ⟨[], rfl, rfl⟩
    · rintro ⟨ps, h, e⟩
      have h' : ps = [] := h
      subst h'
      cases w with
      | nil => rfl
      | cons c w => cases e
  | e :: es, o, f, hf, w => by
    have hl := letters_len e
    have i1 := mw_mp e o f (fun i hi => by
      rw [hf i (by rw [E.places.placess]; omega), E.letters.letterss, List.getElem?_append_left (by omega)])
    have i2 := mw_mpJ es (o + e.places) f (fun i hi => by
      rw [Nat.add_assoc, hf (e.places + i) (by rw [E.places.placess]; omega), E.letters.letterss, List.getElem?_append_right (by omega), hl, Nat.add_sub_cancel_left])
    rw [MW.mwJ]
    constructor
    · rintro ⟨us, vs, rfl, h1, h2⟩
      obtain ⟨p1, g1, e1⟩ := (i1 _).mp h1
      obtain ⟨p2, g2, e2⟩ := (i2 _).mp h2
      exact ⟨p1 ++ p2, ⟨p1, p2, rfl, g1, g2⟩, by rw [List.map_append, List.map_append, e1, e2]⟩
    · rintro ⟨ps, ⟨p1, p2, rfl, g1, g2⟩, ee⟩
      rw [List.map_append] at ee
      obtain ⟨w1, w2, rfl, e1, e2⟩ := map_split ee.symm
      exact ⟨w1, w2, rfl, (i1 _).mpr ⟨p1, g1, e1.symm⟩, (i2 _).mpr ⟨p2, g2, e2.symm⟩⟩
theorem mw_mpA : ∀ (es : List E) (o : Nat) (f : Nat → Option Nat), (∀ i, i < E.places.placess es → f (o + i) = (E.letters.letterss es)[i]?) → ∀ w, MW.mwA es w ↔ ∃ ps, MP.mpA es o ps ∧ ps.map f = w.map some
  | [], o, f, hf, w => by
    rw [MW.mwA]
    exact ⟨fun h => h.elim, fun ⟨_, h, _⟩ => h.elim⟩
  | e :: es, o, f, hf, w => by
    have hl := letters_len e
    have i1 := mw_mp e o f (fun i hi => by
      rw [hf i (by rw [E.places.placess]; omega), E.letters.letterss, List.getElem?_append_left (by omega)]) w
    have i2 := mw_mpA es (o + e.places) f (fun i hi => by
      rw [Nat.add_assoc, hf (e.places + i) (by rw [E.places.placess]; omega), E.letters.letterss, List.getElem?_append_right (by omega), hl, Nat.add_sub_cancel_left]) w
    rw [MW.mwA, i1, i2]
    constructor
    · rintro (⟨ps, h, e⟩ | ⟨ps, h, e⟩)
      · exact ⟨ps, .inl h, e⟩
      · exact ⟨ps, .inr h, e⟩
    · rintro ⟨ps, h | h, e⟩
      · exact .inl ⟨ps, h, e⟩
      · exact .inr ⟨ps, h, e⟩
end
/-- a word is right: some way through the places has its letters -/
theorem mw_acc (e : E) (w : List Nat) : MW e w ↔ ∃ ps, Acc (gl e 0) ps ∧ ps.map (fun p => e.letters[p]?) = w.map some := by
  rw [mw_mp e 0 (fun p => e.letters[p]?) (fun i _ => by rw [Nat.zero_add])]
  exact exists_congr fun ps => and_congr (acc_mp e 0 ps).symm Iff.rfl
end My
namespace My
open PySem PySem.Spec PyProof.Rows L2
/-! ### words, listed -/
theorem str_ext {a b : Str} (h : a.cps.toList = b.cps.toList) : a = b := by
  obtain ⟨⟨x⟩⟩ := a
  obtain ⟨⟨y⟩⟩ := b
  have e : x = y := h
  rw [e]
theorem cps_app (a b : Str) : (a ++ b).cps.toList = a.cps.toList ++ b.cps.toList := by
  show (a.cps ++ b.cps).toList = _
  simp
theorem len_app (a b : Str) : (a ++ b).length = a.length + b.length := by
  show (a.cps ++ b.cps).size = _
  rw [Array.size_append]
  rfl
theorem len_cps (z : Str) : z.length = z.cps.toList.length := Array.length_toList.symm
theorem cps_no : sNo.cps.toList = [] := by decide +kernel
theorem no_of_cps {z : Str} (h : z.cps.toList = []) : z = sNo := str_ext (h.trans cps_no.symm)
theorem len_no : sNo.length = 0 := by decide +kernel
/-- at most so many words, snoc by snoc -/
def Pw (L : List Nat → Prop) : Nat → List Nat → Prop
  | 0, w => w = []
  | n + 1, w => Pw L n w ∨ ∃ u v, w = u ++ v ∧ Pw L n u ∧ L v
theorem Pw.up {L : List Nat → Prop} {n : Nat} {w : List Nat} (h : Pw L n w) : ∀ k, Pw L (n + k) w
  | 0 => h
  | k + 1 => .inl (Pw.up h k)
theorem Pw.le {L : List Nat → Prop} {n m : Nat} {w : List Nat} (h : Pw L n w) (l : n ≤ m) : Pw L m w := by
  have := h.up (m - n)
  rw [show n + (m - n) = m by omega] at this
  exact this
theorem Pw.cons {L : List Nat → Prop} {u : List Nat} (hu : L u) : ∀ (n : Nat) (w : List Nat), Pw L n w → Pw L (n + 1) (u ++ w)
  | 0, w, h => by
    have h' : w = [] := h
    subst h'
    exact .inr ⟨[], u, by simp, rfl, hu⟩
  | n + 1, w, h => by
    rcases h with h | ⟨a, b, rfl, h1, h2⟩
    · exact .inl (Pw.cons hu n w h)
    · exact .inr ⟨u ++ a, b, by simp, Pw.cons hu n a h1, h2⟩
theorem star_snoc {L : List Nat → Prop} {u v : List Nat} (h : Star L u) (hv : L v) : Star L (u ++ v) := by
  induction h with
  | nil =>
    by_cases c : v = []
    · subst c
      exact .nil
    · have : Star L (v ++ []) := .cons hv c .nil
      rw [List.append_nil] at this
      exact this
  | cons h n _ ih =>
    rw [List.append_assoc]
    exact .cons h n ih
theorem star_pw {L : List Nat → Prop} {w : List Nat} (h : Star L w) : Pw L w.length w := by
  induction h with
  | nil => rfl
  | @cons u v h n _ ih =>
    have : 0 < u.length := List.length_pos_iff.mpr n
    refine (Pw.cons h _ v ih).le ?_
    rw [List.length_append]
    omega
theorem pw_star {L : List Nat → Prop} : ∀ (n : Nat) (w : List Nat), Pw L n w → Star L w
  | 0, w, h => by
    have h' : w = [] := h
    subst h'
    exact .nil
  | n + 1, w, h => by
    rcases h with h | ⟨a, b, rfl, h1, h2⟩
    · exact pw_star n w h
    · exact star_snoc (pw_star n a h1) h2
theorem star_iff {L : List Nat → Prop} {w : List Nat} {n : Nat} (h : w.length ≤ n) : Star L w ↔ Pw L n w := ⟨fun s => (star_pw s).le h, pw_star n w⟩
theorem mwJ_snoc (e : E) : ∀ (es : List E) (w : List Nat), MW.mwJ (es ++ [e]) w ↔ ∃ u v, w = u ++ v ∧ MW.mwJ es u ∧ MW e v
  | [], w => by
    show (∃ us vs, w = us ++ vs ∧ MW e us ∧ vs = []) ↔ ∃ u v, w = u ++ v ∧ u = [] ∧ MW e v
    constructor
    · rintro ⟨us, vs, rfl, h, rfl⟩
      exact ⟨[], us, by simp, rfl, h⟩
    · rintro ⟨u, v, rfl, rfl, h⟩
      exact ⟨v, [], by simp, h, rfl⟩
  | k :: es, w => by
    show (∃ us vs, w = us ++ vs ∧ MW k us ∧ MW.mwJ (es ++ [e]) vs) ↔ ∃ u v, w = u ++ v ∧ (∃ us vs, u = us ++ vs ∧ MW k us ∧ MW.mwJ es vs) ∧ MW e v
    constructor
    · rintro ⟨us, vs, rfl, h, g⟩
      obtain ⟨x, y, rfl, h1, h2⟩ := (mwJ_snoc e es vs).mp g
      exact ⟨us ++ x, y, by simp, ⟨us, x, rfl, h, h1⟩, h2⟩
    · rintro ⟨u, v, rfl, ⟨us, vs, rfl, h, g⟩, h2⟩
      exact ⟨us, vs ++ v, by simp, h, (mwJ_snoc e es _).mpr ⟨vs, v, rfl, g, h2⟩⟩
theorem mwA_iff : ∀ (es : List E) (w : List Nat), MW.mwA es w ↔ ∃ e ∈ es, MW e w
  | [], w => ⟨fun h => h.elim, fun ⟨_, h, _⟩ => by cases h⟩
  | k :: es, w => by
    show (MW k w ∨ MW.mwA es w) ↔ _
    rw [mwA_iff es w]
    simp
/-! #### the letters of right words -/
mutual
theorem mw_lets : ∀ (e : E), e.ok = true → ∀ w, MW e w → ∀ c ∈ w, c ∈ e.letters ∧ 97 ≤ c ∧ c ≤ 100
  | .eps, _, w, h, c, hc => by
    rw [MW] at h
    subst h
    cases hc
  | .sym d, ho, w, h, c, hc => by
    rw [MW] at h
    subst h
    rw [List.mem_singleton] at hc
    subst hc
    rw [E.ok] at ho
    simp only [Bool.and_eq_true, decide_eq_true_eq] at ho
    exact ⟨List.mem_singleton.mpr rfl, ho⟩
  | .maybe e, ho, w, h, c, hc => by
    rw [MW] at h
    rcases h with rfl | h
    · cases hc
    · exact mw_lets e (by rw [E.ok] at ho; exact ho) w h c hc
  | .many e, ho, w, h, c, hc => by
    rw [MW] at h
    have ih := mw_lets e (by rw [E.ok] at ho; exact ho)
    induction h with
    | nil => cases hc
    | cons h n _ ih2 =>
      rcases List.mem_append.mp hc with hc | hc
      · exact ih _ h c hc
      · exact ih2 hc
  | .join es, ho, w, h, c, hc => by
    rw [MW] at h
    rw [E.ok, oks_eq] at ho
    simp only [Bool.and_eq_true] at ho
    exact mw_letsJ es ho.1.2 w h c hc
  | .alt es, ho, w, h, c, hc => by
    rw [MW] at h
    rw [E.ok, oks_eq] at ho
    simp only [Bool.and_eq_true] at ho
    exact mw_letsA es ho.1.2 w h c hc
theorem mw_letsJ : ∀ (es : List E), es.all E.ok = true → ∀ w, MW.mwJ es w → ∀ c ∈ w, c ∈ E.letters.letterss es ∧ 97 ≤ c ∧ c ≤ 100
  | [], _, w, h, c, hc => by
    rw [MW.mwJ] at h
    subst h
    cases hc
  | e :: es, ho, w, h, c, hc => by
    rw [List.all_cons, Bool.and_eq_true] at ho
    obtain ⟨u, v, rfl, h1, h2⟩ := h
    rw [E.letters.letterss, List.mem_append]
    rcases List.mem_append.mp hc with hc | hc
    · have := mw_lets e ho.1 u h1 c hc
      exact ⟨.inl this.1, this.2⟩
    · have := mw_letsJ es ho.2 v h2 c hc
      exact ⟨.inr this.1, this.2⟩
theorem mw_letsA : ∀ (es : List E), es.all E.ok = true → ∀ w, MW.mwA es w → ∀ c ∈ w, c ∈ E.letters.letterss es ∧ 97 ≤ c ∧ c ≤ 100
  | [], _, w, h, c, hc => h.elim
  | e :: es, ho, w, h, c, hc => by
    rw [List.all_cons, Bool.and_eq_true] at ho
    rw [E.letters.letterss, List.mem_append]
    rcases h with h | h
    · have := mw_lets e ho.1 w h c hc
      exact ⟨.inl this.1, this.2⟩
    · have := mw_letsA es ho.2 w h c hc
      exact ⟨.inr this.1, this.2⟩
end
/-! #### how many words there are -/
def codeW : List Nat → Nat
  | [] => 0
  | c :: w => (c - 96) + 5 * codeW w
theorem codeW_lt : ∀ (w : List Nat), (∀ c ∈ w, 97 ≤ c ∧ c ≤ 100) → codeW w < 5 ^ w.length
  | [], _ => by show 0 < 1; omega
  | c :: w, h => by
    have := codeW_lt w fun x hx => h x (List.mem_cons_of_mem _ hx)
    have := h c (List.mem_cons_self ..)
    show (c - 96) + 5 * codeW w < 5 ^ (w.length + 1)
    rw [Nat.pow_succ]
    omega
theorem codeW_inj : ∀ (u w : List Nat), (∀ c ∈ u, 97 ≤ c ∧ c ≤ 100) → (∀ c ∈ w, 97 ≤ c ∧ c ≤ 100) → codeW u = codeW w → u = w
  | [], [], _, _, _ => rfl
  | [], c :: w, _, h, e => by
    have := h c (List.mem_cons_self ..)
    have e' : 0 = (c - 96) + 5 * codeW w := e
    omega
  | c :: u, [], h, _, e => by
    have := h c (List.mem_cons_self ..)
    have e' : (c - 96) + 5 * codeW u = 0 := e
    omega
  | c :: u, d :: w, h, g, e => by
    have h1 := h c (List.mem_cons_self ..)
    have g1 := g d (List.mem_cons_self ..)
    have e' : (c - 96) + 5 * codeW u = (d - 96) + 5 * codeW w := e
    have e2 : codeW u = codeW w := by omega
    have e3 : c = d := by omega
    rw [e3, codeW_inj u w (fun x hx => h x (List.mem_cons_of_mem _ hx)) (fun x hx => g x (List.mem_cons_of_mem _ hx)) e2]
def LetW (z : Str) : Prop := ∀ c ∈ z.cps.toList, 97 ≤ c ∧ c ≤ 100
theorem words_len {ms : List Str} (nd : ms.Nodup) (hl : ∀ z ∈ ms, z.length ≤ 5) (hc : ∀ z ∈ ms, LetW z) : ms.length ≤ 3125 := by
  have h := nodup_len 3125 (ms.map fun z => ((codeW z.cps.toList : Nat) : Int)) ?_ ?_
  · rw [List.length_map] at h
    exact h
  · refine (List.pairwise_map.mpr (List.Pairwise.imp_of_mem (fun {a b} ha hb hab e => hab ?_) nd))
    have e' : codeW a.cps.toList = codeW b.cps.toList := by exact_mod_cast e
    exact str_ext (codeW_inj _ _ (hc a ha) (hc b hb) e')
  · intro x hx
    obtain ⟨z, hz, rfl⟩ := List.mem_map.mp hx
    have h1 := codeW_lt _ (hc z hz)
    have h2 := hl z hz
    rw [len_cps] at h2
    have h3 : 5 ^ z.cps.toList.length ≤ 5 ^ 5 := Nat.pow_le_pow_right (by decide) h2
    constructor
    · exact Int.ofNat_nonneg _
    · have : codeW z.cps.toList < 3125 := Nat.lt_of_lt_of_le h1 h3
      exact_mod_cast this
/-- the right words of at most so many letters, each once -/
structure WordsOf (L : List Nat → Prop) (most : Nat) (ms : List Str) : Prop where
  nd : ms.Nodup
  mem : ∀ x, x ∈ ms ↔ x.length ≤ most ∧ L x.cps.toList
theorem WordsOf.len {L : List Nat → Prop} {most : Nat} {ms : List Str} (h : WordsOf L most ms) (hm : most ≤ 5) (hL : ∀ w, L w → ∀ c ∈ w, 97 ≤ c ∧ c ≤ 100) : ms.length ≤ 3125 :=
  words_len h.nd (fun z hz => Nat.le_trans ((h.mem z).mp hz).1 hm) fun z hz => hL _ ((h.mem z).mp hz).2
def addA {α : Type} [DecidableEq α] (ms : List α) (x : α) : List α := if x ∈ ms then ms else ms ++ [x]
theorem mem_addA {α : Type} [DecidableEq α] {ms : List α} {x y : α} : y ∈ addA ms x ↔ y ∈ ms ∨ y = x := by
  unfold addA
  split
  · rename_i h
    constructor
    · exact .inl
    · rintro (c | rfl)
      · exact c
      · exact h
  · rw [List.mem_append, List.mem_singleton]
theorem nodup_addA {α : Type} [DecidableEq α] {ms : List α} {x : α} (h : ms.Nodup) : (addA ms x).Nodup := by
  unfold addA
  split
  · exact h
  · rename_i c
    rw [List.nodup_append]
    exact ⟨h, by simp, fun a ha b hb e => c (by rw [List.mem_singleton] at hb; rw [← hb, ← e]; exact ha)⟩
theorem len_addA {α : Type} [DecidableEq α] (ms : List α) (x : α) : (addA ms x).length ≤ ms.length + 1 := by
  unfold addA
  split
  · omega
  · rw [List.length_append]; exact Nat.le_refl _
def keysS (ms : List Str) : List (Key × V) := ms.map fun x => (Sum.inr x, V.bl true)
theorem putK_keysS (ms : List Str) (x : Str) : putK (keysS ms) (Sum.inr x : Key) (V.bl true) = keysS (addA ms x) := by
  unfold putK keysS addA
  have e1 : ((ms.map fun x => ((Sum.inr x : Key), V.bl true)).any fun kv => decide (kv.1 = Sum.inr x)) = decide (x ∈ ms) := by
    induction ms with
    | nil => simp
    | cons m ms ih =>
      rw [List.map_cons, List.any_cons, ih]
      by_cases c : m = x
      · subst c
        simp
      · have : ¬ ((Sum.inr m : Key) = Sum.inr x) := fun h => c (Sum.inr.inj h)
        rw [decide_eq_false this, Bool.false_or]
        by_cases d : x ∈ ms
        · rw [decide_eq_true d, decide_eq_true (List.mem_cons_of_mem _ d)]
        · rw [decide_eq_false d, decide_eq_false]
          intro h
          rcases List.mem_cons.mp h with h | h
          · exact c h.symm
          · exact d h
  rw [e1]
  by_cases c : x ∈ ms
  · rw [if_pos (decide_eq_true c), if_pos c, List.map_map]
    refine List.map_congr_left fun y _ => ?_
    show (if (Sum.inr y : Key) = Sum.inr x then ((Sum.inr y : Key), V.bl true) else ((Sum.inr y : Key), V.bl true)) = _
    split <;> rfl
  · rw [if_neg (by rw [decide_eq_false c]; exact Bool.false_ne_true), if_neg c, List.map_append]
    rfl
theorem keysS_vals (ms : List Str) : (keysS ms).map (fun kv => kV kv.1) = ms.map V.str := by
  unfold keysS
  rw [List.map_map]
  rfl
theorem keysS_len (ms : List Str) : (keysS ms).length = ms.length := List.length_map _
end My
namespace My
open PySem PySem.Spec PyProof.Rows L2
/-! ### turned and renamed -/
def turnE : E → E
  | .eps => .eps
  | .sym c => .sym c
  | .maybe e => .maybe (turnE e)
  | .many e => .many (turnE e)
  | .join es => .join (turns es)
  | .alt es => .alt (turns es)
where turns : List E → List E
  | [] => []
  | e :: es => turns es ++ [turnE e]
theorem turns_eq (es : List E) : turnE.turns es = (es.map turnE).reverse := by
  induction es with
  | nil => rfl
  | cons e es ih => rw [turnE.turns, ih, List.map_cons, List.reverse_cons]
def renE (f : Nat → Nat) : E → E
  | .eps => .eps
  | .sym c => .sym (f c)
  | .maybe e => .maybe (renE f e)
  | .many e => .many (renE f e)
  | .join es => .join (rens es)
  | .alt es => .alt (rens es)
where rens : List E → List E
  | [] => []
  | e :: es => renE f e :: rens es
theorem rens_eq (f : Nat → Nat) (es : List E) : renE.rens f es = es.map (renE f) := by
  induction es with
  | nil => rfl
  | cons e es ih => rw [renE.rens, ih, List.map_cons]
theorem turn_kids (e : E) : (turnE e).kids = (e.kids.map turnE).reverse := by
  cases e <;> simp [turnE, E.kids, turns_eq]
theorem ren_kids (f : Nat → Nat) (e : E) : (renE f e).kids = e.kids.map (renE f) := by
  cases e <;> simp [renE, E.kids, rens_eq]
/-- induction over an expression and those directly in it -/
theorem E.ind {Pr : E → Prop} (h : ∀ e, (∀ k ∈ e.kids, Pr k) → Pr e) : ∀ e, Pr e := by
  have A : ∀ n (e : E), e.parts ≤ n → Pr e := by
    intro n
    induction n with
    | zero =>
      intro e hn
      have := parts_pos e
      omega
    | succ n ih =>
      intro e hn
      refine h e fun k hk => ih k ?_
      have hp := parts_kids e
      have : k.parts ≤ (e.kids.map E.parts).sum := by
        generalize e.kids = l at hk
        induction l with
        | nil => cases hk
        | cons a l ih =>
          rw [List.map_cons, List.sum_cons]
          rcases List.mem_cons.mp hk with rfl | hk
          · omega
          · have := ih hk
            omega
      omega
  exact fun e => A e.parts e (Nat.le_refl _)
theorem sum_map_eq {α : Type} (f g : α → Nat) (l : List α) (h : ∀ x ∈ l, f x = g x) : (l.map f).sum = (l.map g).sum := by
  rw [List.map_congr_left h]
theorem depths_ge {es : List E} {k : E} (h : k ∈ es) : k.depth ≤ E.depth.depths es := by
  induction es with
  | nil => cases h
  | cons e es ih =>
    rw [E.depth.depths]
    rcases List.mem_cons.mp h with rfl | h
    · exact Nat.le_max_left _ _
    · exact Nat.le_trans (ih h) (Nat.le_max_right _ _)
theorem turn_sizes : ∀ e : E, (turnE e).places = e.places ∧ (turnE e).parts = e.parts ∧ (turnE e).depth = e.depth := by
  refine E.ind fun e ih => ?_
  have h1 := places_kids (turnE e)
  have h2 := parts_kids (turnE e)
  rw [turn_kids, List.map_reverse, List.sum_reverse, List.map_map] at h1 h2
  have p : (e.kids.map (E.places ∘ turnE)).sum = (e.kids.map E.places).sum := sum_map_eq _ _ _ fun k hk => (ih k hk).1
  have q : (e.kids.map (E.parts ∘ turnE)).sum = (e.kids.map E.parts).sum := sum_map_eq _ _ _ fun k hk => (ih k hk).2.1
  rw [p] at h1
  rw [q] at h2
  have o : (turnE e).own = e.own := by cases e <;> rfl
  refine ⟨by rw [h1, o, ← places_kids], by rw [h2, ← parts_kids], ?_⟩
  have d : ∀ es : List E, (∀ k ∈ es, (turnE k).depth = k.depth) → E.depth.depths ((es.map turnE).reverse) = E.depth.depths es := by
    intro es hes
    refine Nat.le_antisymm (depths_le fun k hk => ?_) (depths_le fun k hk => ?_)
    · rw [List.mem_reverse, List.mem_map] at hk
      obtain ⟨x, hx, rfl⟩ := hk
      rw [hes x hx]
      exact depths_ge hx
    · have : turnE k ∈ (es.map turnE).reverse := List.mem_reverse.mpr (List.mem_map.mpr ⟨k, hk, rfl⟩)
      have := depths_ge this
      rw [hes k hk] at this
      exact this
  cases e with
  | eps => rfl
  | sym c => rfl
  | maybe k =>
    have := (ih k (List.mem_singleton.mpr rfl)).2.2
    rw [turnE, E.depth, E.depth, this]
  | many k =>
    have := (ih k (List.mem_singleton.mpr rfl)).2.2
    rw [turnE, E.depth, E.depth, this]
  | join es => rw [turnE, turns_eq, E.depth, E.depth, d es fun k hk => (ih k hk).2.2]
  | alt es => rw [turnE, turns_eq, E.depth, E.depth, d es fun k hk => (ih k hk).2.2]
theorem isJoin_turn (e : E) : isJoin (turnE e) = isJoin e := by cases e <;> rfl
theorem isAlt_turn (e : E) : isAlt (turnE e) = isAlt e := by cases e <;> rfl
theorem any_congr {α : Type} {p q : α → Bool} (l : List α) (h : ∀ x ∈ l, p x = q x) : l.any p = l.any q := by
  induction l with
  | nil => rfl
  | cons a l ih => rw [List.any_cons, List.any_cons, h a (List.mem_cons_self ..), ih fun x hx => h x (List.mem_cons_of_mem _ hx)]
theorem turn_ok : ∀ e : E, e.ok = true → (turnE e).ok = true := by
  refine E.ind fun e ih ho => ?_
  have hk := ok_kids ho
  have row : ∀ (p : E → Bool) (es : List E), (∀ e, p (turnE e) = p e) → (∀ k ∈ es, (turnE k).ok = true) → (decide (2 ≤ es.length) && E.ok.oks es && !(es.any p)) = true → (decide (2 ≤ ((es.map turnE).reverse).length) && E.ok.oks ((es.map turnE).reverse) && !(((es.map turnE).reverse).any p)) = true := by
    intro p es hp hes h
    rw [oks_eq] at h ⊢
    simp only [Bool.and_eq_true, decide_eq_true_eq, List.all_eq_true] at h ⊢
    refine ⟨⟨by rw [List.length_reverse, List.length_map]; exact h.1.1, fun x hx => ?_⟩, ?_⟩
    · rw [List.mem_reverse, List.mem_map] at hx
      obtain ⟨k, hk, rfl⟩ := hx
      exact hes k hk
    · rw [List.any_reverse, List.any_map]
      have : es.any (p ∘ turnE) = es.any p := any_congr es fun x _ => hp x
      rw [this]
      exact h.2
  cases e with
  | eps => rfl
  | sym c => exact ho
  | maybe k =>
    rw [turnE, E.ok]
    exact ih k (List.mem_singleton.mpr rfl) (hk k (List.mem_singleton.mpr rfl))
  | many k =>
    rw [turnE, E.ok]
    exact ih k (List.mem_singleton.mpr rfl) (hk k (List.mem_singleton.mpr rfl))
  | join es =>
    rw [E.ok] at ho
    rw [turnE, turns_eq, E.ok]
    exact row isJoin es isJoin_turn (fun k h => ih k h (hk k h)) ho
  | alt es =>
    rw [E.ok] at ho
    rw [turnE, turns_eq, E.ok]
    exact row isAlt es isAlt_turn (fun k h => ih k h (hk k h)) ho
theorem turn_turn : ∀ e : E, turnE (turnE e) = e := by
  refine E.ind fun e ih => ?_
  have row : ∀ es : List E, (∀ k ∈ es, turnE (turnE k) = k) → (((es.map turnE).reverse).map turnE).reverse = es := by
    intro es h
    rw [List.map_reverse, List.reverse_reverse, List.map_map]
    have : es.map (turnE ∘ turnE) = es.map id := List.map_congr_left h
    rw [this, List.map_id]
  cases e with
  | eps => rfl
  | sym c => rfl
  | maybe k => rw [turnE, turnE, ih k (List.mem_singleton.mpr rfl)]
  | many k => rw [turnE, turnE, ih k (List.mem_singleton.mpr rfl)]
  | join es => rw [turnE, turnE, turns_eq, turns_eq, row es ih]
  | alt es => rw [turnE, turnE, turns_eq, turns_eq, row es ih]
/-- the turned one matches the words read from the end -/
theorem star_rev {L M : List Nat → Prop} (h : ∀ w, L w ↔ M w.reverse) {w : List Nat} (s : Star L w) : Star M w.reverse := by
  induction s with
  | nil => exact .nil
  | cons hu n _ ih =>
    rw [List.reverse_append]
    exact star_snoc ih ((h _).mp hu)
theorem mw_turn : ∀ (e : E) (w : List Nat), MW (turnE e) w ↔ MW e w.reverse := by
  refine E.ind fun e ih => ?_
  cases e with
  | eps =>
    intro w
    show w = [] ↔ w.reverse = []
    rw [List.reverse_eq_nil_iff]
  | sym c =>
    intro w
    rw [turnE, MW]
    constructor
    · rintro rfl
      rfl
    · intro h
      have := congrArg List.reverse h
      rw [List.reverse_reverse] at this
      exact this
  | maybe k =>
    intro w
    rw [turnE, MW, MW, List.reverse_eq_nil_iff, ih k (List.mem_singleton.mpr rfl)]
  | many k =>
    intro w
    have hk := ih k (List.mem_singleton.mpr rfl)
    rw [turnE, MW, MW]
    constructor
    · exact fun s => star_rev hk s
    · intro s
      have := star_rev (L := MW k) (M := MW (turnE k)) (fun u => by rw [hk, List.reverse_reverse]) s
      rw [List.reverse_reverse] at this
      exact this
  | join es =>
    have row : ∀ es : List E, (∀ k ∈ es, ∀ w, MW (turnE k) w ↔ MW k w.reverse) → ∀ w, MW.mwJ ((es.map turnE).reverse) w ↔ MW.mwJ es w.reverse := by
      intro es
      induction es with
      | nil =>
        intro _ w
        show w = [] ↔ w.reverse = []
        rw [List.reverse_eq_nil_iff]
      | cons a es ih2 =>
        intro h w
        rw [List.map_cons, List.reverse_cons, mwJ_snoc]
        have hr := ih2 fun k hk => h k (List.mem_cons_of_mem _ hk)
        have ha := h a (List.mem_cons_self ..)
        constructor
        · rintro ⟨u, v, rfl, h1, h2⟩
          exact ⟨v.reverse, u.reverse, List.reverse_append, (ha v).mp h2, (hr u).mp h1⟩
        · rintro ⟨u, v, e, h1, h2⟩
          refine ⟨v.reverse, u.reverse, ?_, (hr _).mpr (by rw [List.reverse_reverse]; exact h2), (ha _).mpr (by rw [List.reverse_reverse]; exact h1)⟩
          have := congrArg List.reverse e
          rw [List.reverse_reverse, List.reverse_append] at this
          exact this
    intro w
    rw [turnE, turns_eq, MW, MW]
    exact row es ih w
  | alt es =>
    intro w
    rw [turnE, turns_eq, MW, MW, mwA_iff, mwA_iff]
    constructor
    · rintro ⟨x, hx, h⟩
      rw [List.mem_reverse, List.mem_map] at hx
      obtain ⟨k, hk, rfl⟩ := hx
      exact ⟨k, hk, (ih k hk w).mp h⟩
    · rintro ⟨k, hk, h⟩
      exact ⟨turnE k, List.mem_reverse.mpr (List.mem_map.mpr ⟨k, hk, rfl⟩), (ih k hk w).mpr h⟩
/-! #### renamed -/
theorem ren_sizes (f : Nat → Nat) : ∀ e : E, (renE f e).places = e.places ∧ (renE f e).parts = e.parts ∧ (renE f e).depth = e.depth := by
  refine E.ind fun e ih => ?_
  have h1 := places_kids (renE f e)
  have h2 := parts_kids (renE f e)
  rw [ren_kids, List.map_map] at h1 h2
  have p : (e.kids.map (E.places ∘ renE f)).sum = (e.kids.map E.places).sum := sum_map_eq _ _ _ fun k hk => (ih k hk).1
  have q : (e.kids.map (E.parts ∘ renE f)).sum = (e.kids.map E.parts).sum := sum_map_eq _ _ _ fun k hk => (ih k hk).2.1
  rw [p] at h1
  rw [q] at h2
  have o : (renE f e).own = e.own := by cases e <;> rfl
  refine ⟨by rw [h1, o, ← places_kids], by rw [h2, ← parts_kids], ?_⟩
  have d : ∀ es : List E, (∀ k ∈ es, (renE f k).depth = k.depth) → E.depth.depths (es.map (renE f)) = E.depth.depths es := by
    intro es hes
    refine Nat.le_antisymm (depths_le fun k hk => ?_) (depths_le fun k hk => ?_)
    · rw [List.mem_map] at hk
      obtain ⟨x, hx, rfl⟩ := hk
      rw [hes x hx]
      exact depths_ge hx
    · have := depths_ge (List.mem_map.mpr ⟨k, hk, rfl⟩ : renE f k ∈ es.map (renE f))
      rw [hes k hk] at this
      exact this
  cases e with
  | eps => rfl
  | sym c => rfl
  | maybe k =>
    have := (ih k (List.mem_singleton.mpr rfl)).2.2
    rw [renE, E.depth, E.depth, this]
  | many k =>
    have := (ih k (List.mem_singleton.mpr rfl)).2.2
    rw [renE, E.depth, E.depth, this]
  | join es => rw [renE, rens_eq, E.depth, E.depth, d es fun k hk => (ih k hk).2.2]
  | alt es => rw [renE, rens_eq, E.depth, E.depth, d es fun k hk => (ih k hk).2.2]
theorem isJoin_ren (f : Nat → Nat) (e : E) : isJoin (renE f e) = isJoin e := by cases e <;> rfl
theorem isAlt_ren (f : Nat → Nat) (e : E) : isAlt (renE f e) = isAlt e := by cases e <;> rfl
theorem ren_ok (f : Nat → Nat) (hf : ∀ c, 97 ≤ c ∧ c ≤ 100 → 97 ≤ f c ∧ f c ≤ 100) : ∀ e : E, e.ok = true → (renE f e).ok = true := by
  refine E.ind fun e ih ho => ?_
  have hk := ok_kids ho
  have row : ∀ (p : E → Bool) (es : List E), (∀ e, p (renE f e) = p e) → (∀ k ∈ es, (renE f k).ok = true) → (decide (2 ≤ es.length) && E.ok.oks es && !(es.any p)) = true → (decide (2 ≤ (es.map (renE f)).length) && E.ok.oks (es.map (renE f)) && !((es.map (renE f)).any p)) = true := by
    intro p es hp hes h
    rw [oks_eq] at h ⊢
    simp only [Bool.and_eq_true, decide_eq_true_eq, List.all_eq_true] at h ⊢
    refine ⟨⟨by rw [List.length_map]; exact h.1.1, fun x hx => ?_⟩, ?_⟩
    · rw [List.mem_map] at hx
      obtain ⟨k, hk, rfl⟩ := hx
      exact hes k hk
    · rw [List.any_map]
      have : es.any (p ∘ renE f) = es.any p := any_congr es fun x _ => hp x
      rw [this]
      exact h.2
  cases e with
  | eps => rfl
  | sym c =>
    rw [E.ok] at ho
    simp only [Bool.and_eq_true, decide_eq_true_eq] at ho
    rw [renE, E.ok]
    simp only [Bool.and_eq_true, decide_eq_true_eq]
    exact hf c ho
  | maybe k =>
    rw [renE, E.ok]
    exact ih k (List.mem_singleton.mpr rfl) (hk k (List.mem_singleton.mpr rfl))
  | many k =>
    rw [renE, E.ok]
    exact ih k (List.mem_singleton.mpr rfl) (hk k (List.mem_singleton.mpr rfl))
  | join es =>
    rw [E.ok] at ho
    rw [renE, rens_eq, E.ok]
    exact row isJoin es (isJoin_ren f) (fun k h => ih k h (hk k h)) ho
  | alt es =>
    rw [E.ok] at ho
    rw [renE, rens_eq, E.ok]
    exact row isAlt es (isAlt_ren f) (fun k h => ih k h (hk k h)) ho
theorem mw_ren (f : Nat → Nat) : ∀ (e : E) (w : List Nat), MW e w → MW (renE f e) (w.map f) := by
  refine E.ind fun e ih => ?_
  cases e with
  | eps =>
    intro w h
    rw [MW] at h
    subst h
    rfl
  | sym c =>
    intro w h
    rw [MW] at h
    subst h
    rfl
  | maybe k =>
    intro w h
    rw [renE, MW]
    rw [MW] at h
    rcases h with rfl | h
    · exact .inl rfl
    · exact .inr (ih k (List.mem_singleton.mpr rfl) w h)
  | many k =>
    intro w h
    rw [renE, MW]
    rw [MW] at h
    induction h with
    | nil => exact .nil
    | cons hu n _ ih2 =>
      rw [List.map_append]
      refine .cons (ih k (List.mem_singleton.mpr rfl) _ hu) (fun c => n ?_) ih2
      exact List.map_eq_nil_iff.mp c
  | join es =>
    have row : ∀ es : List E, (∀ k ∈ es, ∀ w, MW k w → MW (renE f k) (w.map f)) → ∀ w, MW.mwJ es w → MW.mwJ (es.map (renE f)) (w.map f) := by
      intro es
      induction es with
      | nil =>
        intro _ w h
        have h' : w = [] := h
        subst h'
        rfl
      | cons a es ih2 =>
        rintro h w ⟨u, v, rfl, h1, h2⟩
        exact ⟨u.map f, v.map f, List.map_append, h a (List.mem_cons_self ..) u h1, ih2 (fun k hk => h k (List.mem_cons_of_mem _ hk)) v h2⟩
    intro w h
    rw [renE, rens_eq, MW]
    rw [MW] at h
    exact row es ih w h
  | alt es =>
    intro w h
    rw [renE, rens_eq, MW, mwA_iff]
    rw [MW, mwA_iff] at h
    obtain ⟨k, hk, h⟩ := h
    exact ⟨renE f k, List.mem_map.mpr ⟨k, hk, rfl⟩, ih k hk w h⟩
theorem ren_ren (f g : Nat → Nat) (hg : ∀ c, 97 ≤ c ∧ c ≤ 100 → g (f c) = c) : ∀ e : E, e.ok = true → renE g (renE f e) = e := by
  refine E.ind fun e ih ho => ?_
  have hk := ok_kids ho
  have row : ∀ es : List E, (∀ k ∈ es, renE g (renE f k) = k) → (es.map (renE f)).map (renE g) = es := by
    intro es h
    rw [List.map_map]
    have : es.map (renE g ∘ renE f) = es.map id := List.map_congr_left h
    rw [this, List.map_id]
  cases e with
  | eps => rfl
  | sym c =>
    rw [E.ok] at ho
    simp only [Bool.and_eq_true, decide_eq_true_eq] at ho
    rw [renE, renE, hg c ho]
  | maybe k => rw [renE, renE, ih k (List.mem_singleton.mpr rfl) (hk k (List.mem_singleton.mpr rfl))]
  | many k => rw [renE, renE, ih k (List.mem_singleton.mpr rfl) (hk k (List.mem_singleton.mpr rfl))]
  | join es => rw [renE, renE, rens_eq, rens_eq, row es fun k h => ih k h (hk k h)]
  | alt es => rw [renE, renE, rens_eq, rens_eq, row es fun k h => ih k h (hk k h)]
theorem mw_ren_iff (f g : Nat → Nat) (hg : ∀ c, 97 ≤ c ∧ c ≤ 100 → g (f c) = c) {e : E} (ho : e.ok = true) {w : List Nat} (hw : ∀ c ∈ w, 97 ≤ c ∧ c ≤ 100) : MW (renE f e) (w.map f) ↔ MW e w := by
  refine ⟨fun h => ?_, mw_ren f e w⟩
  have := mw_ren g _ _ h
  rw [ren_ren f g hg e ho, List.map_map] at this
  have e1 : w.map (g ∘ f) = w.map id := List.map_congr_left fun c hc => hg c (hw c hc)
  rw [e1, List.map_id] at this
  exact this
end My
namespace My
open PySem PySem.Spec PyProof.Rows L2
/-! ### a tuple or a text, from its end: x[::-1] -/
section
variable {prog : Program} {w : World} {A : Around} {E : Value → Shared → Prop} {s : Shared}
theorem rv_adjust (n : Nat) : Builtin.Slice.sliceAdjust none none (-1) (n : Int) = ((n : Int) - 1, -1) := rfl
theorem rv_places (n : Nat) : Builtin.Slice.slicePlaces ((n : Int) - 1) (-1) (-1) = n := by
  unfold Builtin.Slice.slicePlaces
  have no : ¬ ((-1 : Int) > 0) := by omega
  have one : (- -1 : Int) = 1 := rfl
  rw [if_neg no, one, Int.ediv_one]
  split <;> omega
theorem fm_congr {α β : Type} {f g : α → Option β} : ∀ (l : List α), (∀ m ∈ l, f m = g m) → l.filterMap f = l.filterMap g
  | [], _ => rfl
  | m :: l, h => by
    have h1 := h m (List.mem_cons_self ..)
    have h2 := fm_congr l fun x hx => h x (List.mem_cons_of_mem _ hx)
    rw [List.filterMap_cons, List.filterMap_cons, h1, h2]
theorem rv_pick (xs : Array Value) : ((List.range xs.size).filterMap fun (m : Nat) => xs[(((xs.size : Int) - 1) + (m : Int) * -1).toNat]?).toArray = xs.toList.reverse.toArray := by
  have e1 : ((List.range xs.size).filterMap fun (m : Nat) => xs[(((xs.size : Int) - 1) + (m : Int) * -1).toNat]?) = ((List.range xs.size).map fun m => xs.size - 1 - m).filterMap (xs[·]?) := by
    rw [List.filterMap_map]
    refine fm_congr _ fun m hm => ?_
    have lt := List.mem_range.mp hm
    have e2 : (((xs.size : Int) - 1) + (m : Int) * -1).toNat = xs.size - 1 - m := by omega
    rw [e2]
    rfl
  rw [e1, PySem.W.krv_range, List.filterMap_reverse, PySem.W.krv_all]
theorem rv_applied {sl : Addr} {step : Value} {n : Nat} {Q : Int × Int × Nat → Shared → Prop} (isS : s.heap.IsSliceOf sl .none .none step) (pS : IsPart step (some (-1))) (fin : Q ((n : Int) - 1, -1, n) s) : wpAny (model prog w) A (Builtin.Slice.sliceApplied (.ref sl) (pure (n : Int))) Q E s := by
  obtain ⟨ob, ob1, ob2, ob3⟩ := id isS
  unfold Builtin.Slice.sliceApplied Builtin.Slice.sliceFields
  refine wpAny_bind (wpAny_bind (wpAny_field ob1 ob3 (x := .none) rfl ?_))
  refine wpAny_bind (wpAny_field ob1 ob3 (x := .none) rfl ?_)
  refine wpAny_bind (wpAny_field ob1 ob3 (x := step) rfl ?_)
  refine wpAny_pure (wpAny_bind (HT.slicePart_ pS ?_))
  show wpAny _ _ (if ((-1 : Int) == 0) = true then _ else _) _ _ s
  rw [if_neg (by decide)]
  refine wpAny_bind (HT.slicePart_ IsPart.none ?_)
  refine wpAny_bind (HT.slicePart_ IsPart.none ?_)
  refine wpAny_bind (wpAny_pure ?_)
  show wpAny _ _ (pure ((n : Int) - 1, (-1 : Int), Builtin.Slice.slicePlaces ((n : Int) - 1) (-1) (-1))) _ _ s
  rw [rv_places]
  exact wpAny_pure fin
theorem rv_tuple {t sl : Addr} {xs : Array Value} {step : Value} {Q : Value → Shared → Prop} (isT : IsTup s.heap t xs) (isS : s.heap.IsSliceOf sl .none .none step) (pS : IsPart step (some (-1))) (sz : xs.size ≤ sizeLine)
    (fin : Q (.ref s.heap.objs.size) { s with heap := s.heap.push { cls := .type "tuple", data := .seq xs.toList.reverse.toArray } }) : wpAny (model prog w) A (getItem (.ref t) (.ref sl)) Q E s := by
  have fits : sizeOk (.seq xs.toList.reverse.toArray) := by
    show xs.toList.reverse.toArray.size ≤ sizeLine
    rw [List.size_toArray, List.length_reverse]
    exact sz
  obtain ⟨ob, ob1, ob2, ob3⟩ := id isS
  have tyS : s.TypeIs (.ref sl) "slice" := ⟨ob, ob1, ob2⟩
  unfold getItem
  try with_reducible apply wpAny_holding
  try apply wpAny_bind (wpAny_pure _)
  refine wpAny_bind (wpAny_sequenceKey isT.typeIs (by decide) ?_)
  refine wpAny_bind (wpAny_callSpecial?_slot (name := Str.ofString "__getitem__") isT.typeIs PyProof.Rows.slot_tuple_getitem (wpAny_call_entry PyProof.Rows.slot_tuple_getitem isT.typeIs entry_tuple_getitem ?_ (args_tuple_getitem _ _)))
  show wpAny _ _ (Builtin.Tuple.tupleItemsOf (.ref t) >>= _) _ _ _
  refine wpAny_bind (tupleItemsOf_ isT ?_)
  refine wpAny_bind (wpAny_typeOf tyS ?_)
  rw [if_pos (by decide)]
  refine wpAny_bind (rv_applied isS pS ?_)
  have no : ¬ ((((xs.size : Int) - 1 == 0) && ((-1 : Int) == 1) && (xs.size == xs.size)) = true) := by
    intro c
    rw [Bool.and_eq_true, Bool.and_eq_true] at c
    exact absurd c.1.2 (by decide)
  show wpAny _ _ (if ((((xs.size : Int) - 1 == 0) && ((-1 : Int) == 1) && (xs.size == xs.size)) = true) then _ else _) _ _ _
  rw [if_neg no, rv_pick]
  first
    | exact wpAny_bind (m := Builtin.Tuple.tupleExact _) (wpAny_newObj_type (wpAny_pure ⟨_, rfl, wpAny_pure fin⟩) fits)
    | exact wpAny_bind (m := Builtin.Tuple.tupleExact _) (wpAny_newObj_type (wpAny_bind (wpAny_pure (wpAny_pure ⟨_, rfl, wpAny_pure fin⟩))) fits)
    | exact wpAny_bind (wpAny_bind (m := Builtin.Tuple.tupleExact _) (wpAny_newObj_type (wpAny_pure (wpAny_pure ⟨_, rfl, wpAny_pure fin⟩)) fits))
    | exact wpAny_bind (wpAny_bind (m := Builtin.Tuple.tupleExact _) (wpAny_newObj_type (wpAny_pure ⟨_, rfl, wpAny_pure fin⟩) fits))
end
section
variable {X : Cx}
/-- what x[::-1] gives of x -/
def RvR (X : Cx) (r : V → Hp → VK → Prop) : Prop := ∀ (pns : List (Addr × Obj)) (s : Shared) (σ : L2.St) (H : Hp) (x : V) (u st : Value) (sl : Addr) (Q : VK), Inv X pns σ H s → RelV x u → s.heap.IsSliceOf sl .none .none st → IsPart st (some (-1)) → r x H Q →
  ∃ T id, typeLookup (.type T) "__getitem__" = pure (some (.builtin id)) ∧ s.TypeIs u T ∧ wpAny (model X.prog X.w) X.A (getItem u (.ref sl)) (EP X pns σ Q) X.xe s
def tRv (r : V → Hp → VK → Prop) (te : TE) : TE := fun σ H Q => te σ H fun x H1 => r x H1 Q
theorem pe_rev {r : V → Hp → VK → Prop} (hr : RvR X r) {e : Expr} {te : TE} {k : Nat} {p1 p2 p3 pos : Pos} (ee : PE X e te) : PE X (.Subscript e (.Slice none none (some (.UnaryOp .USub (.Constant (.int 1) k p1) p2)) p3) pos) (tRv r te) := by
  constructor
  intro pns s0 σ H Q Iv hh
  refine Subscript_ (thn (ee.run pns s0 σ H _ Iv hh) ?_)
  rintro u s1 ⟨x, H1, I1, r1, q1⟩
  have less : PO X (some (.UnaryOp .USub (.Constant (.int 1) k p1) p2)) (tPart (tUn (rU fun i => .int (-i)) (tC (.int 1)))) := po_some (pe_un un_neg pe_int)
  refine wpAny_Slice (thn (po_none.run pns s1 σ H1 (fun o Hx => o = none ∧ Hx = H1) I1 ⟨rfl, rfl⟩) ?_)
  rintro ul s2 ⟨l, H2, I2, pl, el, e2⟩
  subst el e2
  refine thn (po_none.run pns s2 σ H2 (fun o Hx => o = none ∧ Hx = H2) I2 ⟨rfl, rfl⟩) ?_
  rintro uh s3 ⟨h, H3, I3, ph, eh, e3⟩
  subst eh e3
  refine thn (less.run pns s3 σ H3 (fun o Hx => o = some (-1) ∧ Hx = H3) I3 ⟨1, rfl, -1, rfl, rfl, rfl⟩) ?_
  rintro us s4 ⟨o, H4, I4, pz, eo, e4⟩
  subst eo e4
  cases pl
  cases ph
  have I5 : Inv X pns σ H4 { s4 with heap := s4.heap.push { cls := .type "slice", data := .fields #[.none, .none, us] } } := I4.kept (t' := s4.toks) fun b ob z => Heap.get?_push_of_some _ z
  obtain ⟨T, id, hT, ht, hg⟩ := hr pns { s4 with heap := s4.heap.push { cls := .type "slice", data := .fields #[.none, .none, us] } } σ H4 x u us s4.heap.objs.size Q I5 r1 (Heap.IsSliceOf.new ..) pz q1
  exact tail_any (ops := [u, .ref s4.heap.objs.size]) ht hT hg (by with_unfolding_all rfl)
def rRvT (K : PySem.W.Frag) : V → Hp → VK → Prop := fun x H Q => ∃ a xs, x = .ref a ∧ SqT K H a xs ∧ ∀ p, H p = none → Q (.ref p) (upd H p (.tup xs.reverse))
theorem rv_tup {K : PySem.W.Frag} (hK : X.K = K) : RvR X (rRvT K) := by
  subst hK
  intro pns s σ H x u st sl Q Iv rx hs ps h
  obtain ⟨a, xs, rfl, hx, q⟩ := h
  cases rx
  obtain ⟨its, r, ht, hz⟩ := Iv.tuple hx
  have hl : its.toArray.size = xs.length := by rw [List.size_toArray]; exact r.length.symm
  refine ⟨"tuple", _, PyProof.Rows.slot_tuple_getitem.lookup, ht.typeIs, rv_tuple ht hs ps (by rw [hl]; exact hz) ?_⟩
  refine ⟨.ref s.heap.objs.size, _, Iv.laid (t' := s.toks) (o := .tup xs.reverse) (fun b ob z => Heap.get?_push_of_some _ z) (Nat.le_refl _) ?_, rfl, q _ (Iv.hok.fresh (Nat.le_refl _))⟩
  exact ⟨by rw [List.length_reverse]; exact hz, _, r.reverse, IsTup.new _ _⟩
theorem pe_bmB {K : PySem.W.Frag} (hK : X.K = K) {o e : Expr} {es : List Expr} {to : TE} {t : TA} {name : Str} {apos cpos : Pos} {T id : String} {r : V → List V → Hp → VK → Prop} (pa : PlainAttrs T) (sl : Slot T name id) (ty : typeOf (.builtin id) = pure (.type "method_descriptor")) (mt : MtR X id r) (ho : PE X o to) (ha : PA X (e :: es) t)
    (h1 : attributeBase o name X.env (eval o X.env) = eval o X.env := by rfl) (h2 : (((backTo cpos (starEach (e :: es) X.env)).all fun x => !x.fst) && (backToKw cpos (keywordEach [] X.env)).all (fun x => x.fst.isSome) && decide (((e :: es).length + ([] : List Keyword).length + if ([] : List Keyword).isEmpty = true then 0 else 1) < 30)) = true := by rfl) (h3 : (apos.endLine == cpos.line) = true := by rfl)
    (h4 : starEach (e :: es) X.env = (false, eval e X.env) :: starEach es X.env := by rfl) (h5 : ((backTo cpos (starEach es X.env)).any fun x => x.fst) = false := by rfl) : PE X (.Call (.Attribute o name apos) (e :: es) [] cpos) (tBM K T r to t) := by
  subst hK
  exact pe_bm pa sl ty mt ho ha h1 h2 h3 h4 h5
def revS (z : Str) : Str := ⟨z.cps.toList.reverse.toArray⟩
theorem revS_cps (z : Str) : (revS z).cps.toList = z.cps.toList.reverse := by
  show z.cps.toList.reverse.toArray.toList = _
  simp
theorem revS_picked (z : Str) (t : Tok) : ((PySem.slicePicked z none none (some (-1, t))).filterMap (z.cps[·]?)).toArray = z.cps.toList.reverse.toArray := by
  show ((Builtin.Str.strSliceIndices none none (-1) z.length).filterMap (z.cps[·]?)).toArray = _
  rw [picked_rev]
  show (((List.range z.cps.size).map fun k => z.cps.size - 1 - k).filterMap (z.cps[·]?)).toArray = _
  rw [PySem.W.krv_range, List.filterMap_reverse, PySem.W.krv_all]
def rRvS : V → Hp → VK → Prop := fun x H Q => ∃ z : Str, x = .str z ∧ z.length ≤ sizeLine ∧ Q (.str (revS z)) H
theorem rv_str : RvR X rRvS := by
  intro pns s σ H x u st sl Q Iv rx hs ps h
  obtain ⟨z, rfl, hz, q⟩ := h
  obtain ⟨t, rfl⟩ := rx
  obtain ⟨ob, ob1, ob2, ob3⟩ := hs
  cases ps with
  | int i ts =>
  refine ⟨"str", _, F.slot_str_getitem.lookup, typeIs_str _ _ _, ?_⟩
  refine wpAny_getItem_str_slice (l := none) (u := none) (st := some (-1, ts)) ⟨ob, ob1, ob2, ob3⟩ rfl ?_
  have e : sliceMade z t none none (some (-1, ts)) = .str (revS z) := by
    unfold sliceMade
    rw [if_neg (by
      intro c
      rw [Bool.and_eq_true] at c
      exact absurd (show ((-1 : Int) == 1) = true from c.1) (by decide)), revS_picked]
    rfl
  rw [e]
  refine ⟨?_, .str _, H, Iv.tok _, ⟨_, rfl⟩, q⟩
  have e2 : (revS z).length = z.length := by
    have e3 : (revS z).length = (revS z).cps.toList.length := Array.length_toList.symm
    have e4 : z.length = z.cps.toList.length := Array.length_toList.symm
    rw [e3, e4, revS_cps, List.length_reverse]
  rw [e2]
  exact hz
end
end My
namespace My
open PySem PySem.Spec PyProof.Rows L2
/-! ### least and greatest lengths -/
def minL : List Nat → Nat
  | [] => 0
  | [a] => a
  | a :: b :: r => min a (minL (b :: r))
def maxL : List Nat → Nat
  | [] => 0
  | a :: r => max a (maxL r)
def allO : List (Option Nat) → Option (List Nat)
  | [] => some []
  | none :: _ => none
  | some a :: r => (allO r).map (a :: ·)
def E.least : E → Nat
  | .eps => 0
  | .sym _ => 1
  | .maybe _ => 0
  | .many _ => 0
  | .join es => (leastl es).sum
  | .alt es => minL (leastl es)
where leastl : List E → List Nat
  | [] => []
  | e :: es => e.least :: leastl es
def E.greatest : E → Option Nat
  | .eps => some 0
  | .sym _ => some 1
  | .maybe e => e.greatest
  | .many e => if e.greatest = some 0 then some 0 else none
  | .join es => (allO (greatl es)).map List.sum
  | .alt es => (allO (greatl es)).map maxL
where greatl : List E → List (Option Nat)
  | [] => []
  | e :: es => e.greatest :: greatl es
def E.pos : E → Bool
  | .eps => false
  | .sym _ => true
  | .maybe e => e.pos
  | .many e => e.pos
  | .join es => poss es
  | .alt es => poss es
where poss : List E → Bool
  | [] => false
  | e :: es => e.pos || poss es
def E.grows : E → Bool
  | .eps => false
  | .sym _ => false
  | .maybe e => e.grows
  | .many e => e.pos || e.grows
  | .join es => growss es
  | .alt es => growss es
where growss : List E → Bool
  | [] => false
  | e :: es => e.grows || growss es
theorem leastl_eq (es : List E) : E.least.leastl es = es.map E.least := by
  induction es with
  | nil => rfl
  | cons e es ih => rw [E.least.leastl, ih, List.map_cons]
theorem greatl_eq (es : List E) : E.greatest.greatl es = es.map E.greatest := by
  induction es with
  | nil => rfl
  | cons e es ih => rw [E.greatest.greatl, ih, List.map_cons]
theorem minL_app : ∀ (l : List Nat) (b : Nat), l ≠ [] → minL (l ++ [b]) = min (minL l) b
  | [], _, h => absurd rfl h
  | [a], b, _ => rfl
  | a :: c :: r, b, _ => by
    have ih := minL_app (c :: r) b (by intro e; cases e)
    show min a (minL (c :: r ++ [b])) = min (min a (minL (c :: r))) b
    rw [ih]
    omega
end My
namespace My
open PySem PySem.Spec PyProof.Rows L2 PySem.Calls
/-! ### list.extend by a tuple -/
theorem extend_tupM (l : Addr) (items : Array Value) (n : Nat) (b : Addr) (items2 : Array Value) (n2 : Nat) (dd : Option Addr) (sl : Array (Option Value)) (hs0 : ¬(!items.isEmpty && Builtin.List.listTooLong (items.size + items2.size)) = true) (hs1 : items.size ≤ sizeLine) (hs2 : items.size + items2.size ≤ sizeLine + 1) :
    Meets (Builtin.«list.extend» ⟨[.ref l, .ref b], []⟩) (fun _ R s => s.heap.get? l = some { cls := .type "list", dict := none, data := .seq items n, slots := #[] } ∧ s.heap.get? b = some { cls := .type "tuple", dict := dd, data := .seq items2 n2, slots := sl } ∧ R (.ok (.ret Value.none)) { s with heap := s.heap.update l (Obj.mapSeq fun x => x ++ items2), toks := s.toks }) :=
  .of_wp fun prog w A R s h => by
    obtain ⟨hp, g, d, tk, os⟩ := s; obtain ⟨hl, hb, h⟩ := h; have f1 := PySem.AutoSeq1.idx_int; have f2 := PySem.AutoSeq1.sub_tuple_tuple; have f3 := PySem.AutoSeq1.sub_list_list; have f4 := PySem.AutoSeq1.sub_tuple_list; have f5 := PySem.AutoSeq1.sub_list_tuple;
    have hz' : (items ++ items2).size ≤ sizeLine + 1 := by rw [Array.size_append]; exact hs2
    wp_walk using (wpAny_updateSeq hl rfl (hz := hs1) (_hz' := hz')), PySem.AutoSeq1.wpAny_loadPart' hl, PySem.AutoSeq1.wpAny_loadPart' hb; exact ⟨_, rfl, h⟩
def rExtendT (K : PySem.W.Frag) : V → List V → Hp → VK → Prop := fun x vs H Q => ∃ l b xs zs, x = .ref l ∧ vs = [.ref b] ∧ H l = some (.lst xs) ∧ SqT K H b zs ∧ xs.length + zs.length ≤ sizeLine ∧ Q .non (upd H l (.lst (xs ++ zs)))
variable {X : Cx}
theorem mt_extendT : MtM X "list.extend" (rExtendT X.K) := by
  intro pins s σ H x vs v us Q I rx rv h
  obtain ⟨l, b, xs, zs, rfl, rfl, hH, hB, hz, q⟩ := h
  cases rx
  obtain ⟨u, rfl, ru⟩ := rv.one
  cases ru
  obtain ⟨z, its, n, r, hl, e⟩ := I.lstM hH
  obtain ⟨its2, r2, ⟨⟨cls, dd, dat, sl⟩, ho, hc, n2, hd⟩, hl2⟩ := I.tuple hB
  simp only at hc hd
  subst hc hd
  have e1 := r.length
  have e2 := r2.length
  have hsz : its.toArray.size + its2.toArray.size ≤ sizeLine := by rw [List.size_toArray, List.size_toArray]; omega
  have hlong : ¬ (!its.toArray.isEmpty && Builtin.List.listTooLong (its.toArray.size + its2.toArray.size)) = true := by
    rw [notLongL hsz, Bool.and_false]
    exact Bool.false_ne_true
  refine call_meets F.slot_list_extend ⟨_, e, rfl⟩ F.entry_list_extend (F.args_list_extend_2 _ _)
    (extend_tupM l its.toArray n b its2.toArray n2 dd sl hlong (by rw [List.size_toArray]; omega) (by omega)) ⟨e, ho, ?_⟩
  refine ⟨.non, _, I.lset (its' := its ++ its2) hH e (by simp) (r.append r2) ?_, rfl, q⟩
  rw [List.length_append]
  omega
end My
namespace My
open PySem PySem.Spec PyProof.Rows L2
/-! ### defs that errors leave -/
structure ClX (P : Program) (w : World) (K : PySem.W.Frag) (mg : Str → Option Value) (base : Heap) (k : Nat) (x : Str) (ps : List Str) (sp : Sp) : Prop where
  ex : ∃ (f : Addr) (fd : FuncData), FnOk P w K mg base (L2.CX P w) k f fd ps sp ∧ Binds K fd ps [] ∧ mg x = some (.ref f) ∧ PySem.W.keepIn K (.ref f) = true
theorem Df.clX {P : Program} {w : World} {K : PySem.W.Frag} {mg : Str → Option Value} {base : Heap} {x : Str} {st : Stmt} {ps : List Str} {f : Addr} {fd : FuncData} {k : Nat} {sp : Sp} (D : Df K mg x st ps f fd) (h : FnOk P w K mg base (L2.CX P w) k f fd ps sp) : ClX P w K mg base k x ps sp :=
  ⟨f, fd, h, D.b, D.g, D.F.kp⟩
theorem pe_clS {X : Cx} {W : WX} {k : Nat} {x : Str} {ps : List Str} {sp : Sp} {p pos : Pos} {e : Expr} {es : List Expr} {t : TA} (C : ClX X.prog X.w X.K X.mg X.base k x ps sp) (tk : Takes X W) (hr : Room k X.A) (hg : L2.Gl X x) (ha : PA X (e :: es) t)
    (hdb : (x == ("__debug__" : Str)) = false := by decide) (he : starEach (e :: es) X.env = (false, eval e X.env) :: starEach es X.env := by rfl) (hpl : (backTo pos (starEach es X.env)).any (·.1) = false := by rfl) :
    PE X (.Call (.Name x p) (e :: es) [] pos) (tCallS sp (WE W) t) := by
  obtain ⟨f, fd, F, b, m, kp⟩ := C.ex
  exact pe_callS F hr hg m kp b (fun σ => passAt tk σ) ha hdb he hpl
end My
namespace My
open PySem PySem.Spec PyProof.Rows L2
/-! ### promises put together -/
theorem fn_toX {P : Program} {w : World} {K : PySem.W.Frag} {mg : Str → Option Value} {base : Heap} {k : Nat} {f : Addr} {fd : FuncData} {ps : List Str} {sp : Sp} (F : FnOk P w K mg base CX0 k f fd ps sp) : FnOk P w K mg base (L2.CX P w) k f fd ps sp :=
  ⟨F.len, fun A outer s H args us vs Q E hr he hb hv hs => codeAny_mono (F.run A outer s H args us vs Q E hr he hb hv hs) fun r s' h => by
    cases r with
    | ok x => cases x <;> exact h
    | error e => exact h.elim⟩
theorem fn_or {P : Program} {w : World} {K : PySem.W.Frag} {mg : Str → Option Value} {base : Heap} {X : CXT} {k : Nat} {f : Addr} {fd : FuncData} {ps : List Str} {sp1 sp2 sp : Sp} (F1 : FnOk P w K mg base X k f fd ps sp1) (F2 : FnOk P w K mg base X k f fd ps sp2) (h : ∀ vs H Q E, sp vs H Q E → sp1 vs H Q E ∨ sp2 vs H Q E) : FnOk P w K mg base X k f fd ps sp :=
  ⟨fun vs H Q E q => (h vs H Q E q).elim (F1.len vs H Q E) (F2.len vs H Q E), fun A outer s H args us vs Q E hr he hb hv hs => (h vs H Q E hs).elim (F1.run A outer s H args us vs Q E hr he hb hv) (F2.run A outer s H args us vs Q E hr he hb hv)⟩
end My
set_option maxHeartbeats 2000000
/-! ### the error BadValue -/
namespace ExBadValue
open PySem PySem.W PySem.Calls PyProof.Rows PySem.HandSPX
def prm (p1 p2 : Pos) : Arguments := { posonlyargs := [], args := [{ arg := "self", annotation := none, pos := p1 }, { arg := "name", annotation := none, pos := p2 }], vararg := none, kwonlyargs := [], kw_defaults := [], kwarg := none, defaults := [] }
def say (a4 a5 a6 a7 : Pos) : Expr := .JoinedStr [.Constant (.str "wrong value: ") 0 a4, .FormattedValue (.Name "name" a5) (-1) none a6] a7
def bod (a1 a2 a3 a4 a5 a6 a7 a8 a9 b1 b2 b3 b4 : Pos) : List Stmt := [.Expr (.Call (.Attribute (.Call (.Name "super" a1) [] [] a2) "__init__" a3) [say a4 a5 a6 a7] [] a8) a9, .Assign [.Attribute (.Name "self" b1) "name" b2] (.Name "name" b3) b4]
def scp : Scope := { kind := .function, names := [(PySem.Str.ofString "self", .local), (PySem.Str.ofString "name", .local), (PySem.Str.ofString "__class__", .free), (PySem.Str.ofString "super", .globalImplicit)], isGenerator := false, isCoroutine := false, more := [] }
/-- what the written part says of the class, at C, and of its __init__, at fI -/
structure Txt (K : Frag) (mg : Str → Option Value) (C fI : Addr) : Prop where
  gC : mg "BadValue" = some (.ref C)
  cls : ∃ nm q N bs bm sn sub ab col dd k0 k1 k2 k3 k5, K.lookup C = some (excClassObj nm q C N bs bm true sn sub ab col dd k0 k1 k2 k3 k5 "ValueError.__new__") ∧ refsVE bm = true
  sa : findIn K (.ref C) "__setattr__" = some (some (.builtin "object.__setattr__"))
  ga : findIn K (.ref C) "__getattribute__" = some (some (.builtin "BaseException.__getattribute__"))
  gg : findIn K (.ref C) "__getattr__" = some none
  noN : findIn K (.ref C) "name" = some none
  iC : findIn K (.ref C) "__init__" = some (some (.ref fI))
  tC : typeIn K (.ref fI) = some (.type "function")
  kC : keepIn K (.ref C) = true
  exC : subIn K (.ref C) (.type "BaseException") = some true
  tyC : typeIn K (.ref C) = some (.type "type")
  hdC : hasDictIn K C = true
  up : ks_superIn K C C "__init__" = some (some (.builtin "ValueError.__init__"))
  sC : mroIn K C (.ref C) = some true
  sV : subIn K (.ref C) (.type "ValueError") = some true
  sS : subIn K (.ref C) (.ref C) = some true
  op : nsIn K cStatics "thirdparty.any" = some none
  gS : mg "super" = none
  fn : ∃ (oc : Value) (od : Option Addr) (doc pm : Value) (an : Option Addr) (cda cc : Addr) (ct : Value) (osl : Array (Option Value)) (p1 p2 a1 a2 a3 a4 a5 a6 a7 a8 a9 b1 b2 b3 b4 : Pos),
    K.lookup fI = some ⟨oc, od, .func (ksFn "__init__" "BadValue.__init__" (prm p1 p2) (bod a1 a2 a3 a4 a5 a6 a7 a8 a9 b1 b2 b3 b4) scp .none .none doc pm an (.ref cda) ct cc), osl⟩ ∧ codeIn K (.ref cda) "BadValue.__init__" = true ∧
    (∃ (o1 : Value) (o2 : Option Addr) (vs : Array Value) (o3 : Array (Option Value)) (file : Str) (tf : Tok), K.lookup cda = some ⟨o1, o2, .fields vs, o3⟩ ∧ vs[2]? = some (.str file tf) ∧ file = "/claim/cut.py") ∧
    (∃ (o1 : Value) (o2 : Option Addr) (o3 : Array (Option Value)), K.lookup cc = some ⟨o1, o2, .cell (some (.ref C)), o3⟩) ∧ (a3.endLine == a8.line) = true
/-- what the program's text says -/
structure Prg (P : Program) : Prop where
  file : P.main.file = "/claim/cut.py"
  sup : (P.main.scope.names.lookup ("super" : Str)).isSome = false
structure Made1 (h h' : Heap) (x C dx t1 : Addr) (v : Value) : Prop where
  keep : ∀ b o, b ≠ x → h.get? b = some o → h'.get? b = some o
  obj : h'.get? x = some { cls := .ref C, dict := some dx, data := .fields #[.ref t1, .none, .none, .none, .bool false, .none] }
  big : h.objs.size ≤ dx
  ne : dx ≠ x
  ns : h'.Ns1 dx (fun y => if y = "name" then some v else none)
structure Made2 (h h' : Heap) (e C d : Addr) (v : Value) : Prop where
  keep : ∀ b o, h.get? b = some o → h'.get? b = some o
  new : h.objs.size ≤ e
  obj : ∃ oe vs, h'.get? e = some oe ∧ oe.cls = .ref C ∧ oe.dict = some d ∧ oe.data = .fields vs ∧ vs[1]? = some .none
  big : h.objs.size ≤ d
  ne : d ≠ e
  ns : h'.Ns1 d (fun y => if y = "name" then some v else none)
theorem ldE {M : Model} {A : Around} {E : Value → Shared → Prop} {s : Shared} {env : Env} {m : Str → Option Value} {x : Str} {pos : Pos} {v : Value} {Q : Value → Shared → Prop} (hn : s.heap.Ns env.locals m) (hv : m x = some v) (h : Q v s)
    (hk : env.scope.kind = .function := by rfl) (hl : env.kindOf x = some .local := by rfl) (hd : (x == ("__debug__" : Str)) = false := by decide) : wpAny M A (eval (.Name x pos) env) Q E s := wpAny_Name (wpAny_loadName_local hk hl hn hv h) hd
section
variable {prog : Program} {w : World} {A : Around} {E : Value → Shared → Prop} {s : Shared} {C : Addr}
variable {nm q : Str} {N : Addr} {bs bm : List Value} {hdct : Bool} {sn : List Str} {sub : List Value} {ab : Bool} {col : Option Bool} {dd : Option Addr} {k0 k1 k2 k3 k5 : Option Value}
/-- the bound ValueError.__init__ of a fresh error, called -/
theorem bound_init {u x t0 : Addr} {y : Value} {Q : Value → Shared → Prop} (hC : s.heap.get? C = some (excClassObj nm q C N bs bm hdct sn sub ab col dd k0 k1 k2 k3 k5 "ValueError.__new__")) (hx : s.heap.get? x = some (excO C t0)) (hu : s.heap.get? u = some (kxs_mw "ValueError.__init__" x))
    (k : ∀ h' t1, (∀ b o, b ≠ x → s.heap.get? b = some o → h'.get? b = some o) → h'.get? x = some (excO C t1) → Q .none { s with heap := h' }) :
    wpAny (model prog w) A (call (.ref u) [y]) Q E s := by
  obtain ⟨h, g, d, t, os⟩ := s
  have FB := F.excBase_ValueError
  refine wpAny_call (codeAny_of_tree ?_)
  show wpAny _ A.in1 (callAny (.ref u) ⟨[y], []⟩) _ _ _
  simp only [callAny]
  refine wpAny_bind (wpAny_load hu ?_)
  simp only [kxs_mw, show (Value.type "method-wrapper" == Value.type "method" || Value.type "method-wrapper" == Value.type "builtin_function_or_method" || Value.type "method-wrapper" == Value.type "method-wrapper") = true by decide, if_true]
  refine KFB.if_so (by decide) ?_
  refine wpAny_bind (check_bound_init FB.toExcCallFacts hC hx rfl ?_)
  refine wpAny_bind (wpAny_pure (wpAny_pure ?_))
  refine ⟨Code.quiet_builtin _ (by decide +kernel), codeAny_builtin FB.initEntry ?_⟩
  rw [Around.under_plainId FB.init.plain _]
  wp_walk
  refine k _ h.objs.size (fun b o hb ho => ?_) ?_
  · rw [Heap.get?_update_other _ _ (Ne.symm hb)]
    exact Heap.get?_push_of_some _ ho
  · rw [Heap.get?_update_self _ (Heap.get?_push_of_some _ hx) rfl]
    rfl
end
theorem call_eq (a1 a2 a3 a4 a5 a6 a7 a8 : Pos) (env : Env) (h : (a3.endLine == a8.line) = true) : ∃ pl : Sem Bool, eval (.Call (.Attribute (.Call (.Name "super" a1) [] [] a2) "__init__" a3) [say a4 a5 a6 a7] [] a8) env = (do
      let ov ← attributeBase (.Call (.Name "super" a1) [] [] a2) "__init__" env (eval (.Call (.Name "super" a1) [] [] a2) env)
      standAt a3.atName
      let (f, first) ← holding [ov] (getMethod ov "__init__" pl)
      callWith a8 f first (backTo a8 (starEach [say a4 a5 a6 a7] env)) []) := by
  refine ⟨(do return (← importBound (.Call (.Name "super" a1) [] [] a2) env).getD true), ?_⟩
  have e0 : eval (.Call (.Attribute (.Call (.Name "super" a1) [] [] a2) "__init__" a3) [say a4 a5 a6 a7] [] a8) env = (do
      let ov ← attributeBase (.Call (.Name "super" a1) [] [] a2) "__init__" env (eval (.Call (.Name "super" a1) [] [] a2) env)
      standAt a3.atName
      methodCall (.Call (.Name "super" a1) [] [] a2) "__init__" a3 a8 env ov 1 (backTo a8 (starEach [say a4 a5 a6 a7] env)) []) := by rfl
  have few : methodCallForm 1 (backTo a8 (starEach [say a4 a5 a6 a7] env)) [] = true := by rfl
  have e1 : methodCallPos true (.Call (.Name "super" a1) [] [] a2) env a3 a8 = pure a8 := by
    unfold methodCallPos
    rw [if_pos (by rw [h]; rfl)]
  rw [e0]
  congr 1
  funext ov
  congr 1
  funext _
  unfold methodCall
  rw [few, e1]
  rfl
section
variable {prog : Program} {w : World} {A : Around} {E : Value → Shared → Prop} {s : Shared}
theorem callW {u x : Addr} {a4 a5 a6 a7 a8 : Pos} {env : Env} {Q : Value → Shared → Prop} (h : wpAny (model prog w) A (spliced (backTo a8 (starEach [say a4 a5 a6 a7] env))) (fun vs s₁ => KxsAt "ValueError.__init__" u x s₁.heap ∧ wpAny (model prog w) A (call (.ref u) vs) Q E s₁) E s) :
    wpAny (model prog w) A (callWith a8 (.ref u) [] (backTo a8 (starEach [say a4 a5 a6 a7] env)) []) Q E s := by
  have hs : starEach [say a4 a5 a6 a7] env = (false, eval (say a4 a5 a6 a7) env) :: starEach [] env := by rfl
  rw [hs] at h ⊢
  refine kxs_callWith (i := "ValueError.__init__") (x := x) (by rfl) ?_
  exact evalArgs_plain h
theorem say_args {m : Str → Option Value} {v : Str} {tv : Tok} {a4 a5 a6 a7 a8 : Pos} {env : Env} {Q : List Value → Shared → Prop} (hn : s.heap.Ns env.locals m) (hm : m "name" = some (.str v tv)) (hk : env.scope.kind = .function) (hl : env.kindOf "name" = some .local) (hv : v.length ≤ 1000000)
    (h : ∀ y tk, Q [y] { s with toks := tk }) : wpAny (model prog w) A (spliced (backTo a8 (starEach [say a4 a5 a6 a7] env))) Q E s := by
  have hs : starEach [say a4 a5 a6 a7] env = (false, eval (say a4 a5 a6 a7) env) :: starEach [] env := by rfl
  refine args_cons ?_ hs
  unfold say
  refine wpAny_JoinedStr ?_
  have e0 : evalEach [.Constant (.str "wrong value: ") 0 a4, .FormattedValue (.Name "name" a5) (-1) none a6] env = [eval (.Constant (.str "wrong value: ") 0 a4) env, eval (.FormattedValue (.Name "name" a5) (-1) none a6) env] := by rfl
  rw [e0]
  have hp : (Str.empty ++ ("wrong value: " : Str)).length = 13 := by decide +kernel
  have hl2 : ((Str.empty ++ ("wrong value: " : Str)) ++ v).length ≤ sizeLine := by
    have e : ((Str.empty ++ ("wrong value: " : Str)) ++ v).length = (Str.empty ++ ("wrong value: " : Str)).length + v.length := Array.size_append
    rw [e, sizeLine_eq, hp]
    omega
  refine wpAny_Constant_str ⟨"wrong value: ", _, rfl, by rw [hp, sizeLine_eq]; decide, ?_⟩
  refine wpAny_FormattedValue_plain (ldE (v := .str v tv) hn hm ?_ hk hl)
  refine wpAny_formatField_str ⟨v, tv, rfl, hl2, hl2, args_nil (h _ _)⟩ ⟨v, _, rfl, hl2, hl2, args_nil (h _ _)⟩ ?_
  rw [sizeLine_eq]
  omega
end
section
variable {prog : Program} {w : World} {A : Around} {E : Value → Shared → Prop} {R : Result → Shared → Prop} {s : Shared} {K : Frag} {mg mb : Str → Option Value} {C fI : Addr}
theorem init1 (T : Txt K mg C fI) (G : Prg prog) {x t0 : Addr} {v : Str} {tv : Tok} (X : K.In s.heap) (hG : s.heap.Ns mainGlobals mg) (hB : s.heap.Ns builtinsNs mb) (hb : mb "super" = some (.type "super")) (hlim : s.heap.NoLimit) (hx : s.heap.get? x = some (excO C t0)) (hnx : ∀ o, K.lookup x ≠ some o) (hroom : A.depth < recursionLimit) (hv : v.length ≤ 1000000)
    (hq : ∀ h' tk dx t1, Made1 s.heap h' x C dx t1 (.str v tv) → R (.ok (.ret .none)) { s with heap := h', toks := tk }) :
    codeAny (model prog w) A (.call (.ref fI) ⟨[.ref x, .str v tv], []⟩) R s := by
  obtain ⟨oc, od, doc, pm, an, cda, cc, ct, osl, p1, p2, a1, a2, a3, a4, a5, a6, a7, a8, a9, b1, b2, b3, b4, ho, hcd, ⟨o1, o2, vs, o3, file, tf, hcode, hvs, rfl⟩, ⟨o4, o5, o6, hcell⟩, hpos⟩ := T.fn
  obtain ⟨nm, q, N, bs, bm, sn, sub, ab, col, dd, k0, k1, k2, k3, k5, hC, hbm⟩ := T.cls
  have hcl : clsIn K C = some { name := nm, bases := bs, mro := .ref C :: bm, ns := N, qualname := q, hasDict := true, slotNames := sn, subclasses := sub, abstract := ab, collection := col, hasDel := false } := by unfold clsIn; rw [hC] <;> rfl
  have hxC : x ≠ C := fun e => by
    have z := X _ _ hC
    rw [← e, hx] at z
    cases z
  refine ks_codeAny_call_defAt (fd := ksFn "__init__" "BadValue.__init__" (prm p1 p2) (bod a1 a2 a3 a4 a5 a6 a7 a8 a9 b1 b2 b3 b4) scp .none .none doc pm an (.ref cda) ct cc) (body := bod a1 a2 a3 a4 a5 a6 a7 a8 a9 b1 b2 b3 b4) (binds := [("self", .ref x), ("name", .str v tv)]) hroom (X _ _ ho) rfl hlim (codeRec_of X hcd) rfl (BindsTo.of_eq (by first | rfl | with_unfolding_all rfl)) (show ∀ y ∈ scp.names, y.2 ≠ NameKind.cell by decide) (fun y hy => by
    rcases List.mem_cons.mp hy with rfl | hy
    · rfl
    · rw [List.mem_singleton.mp hy]
      rfl) (fun h₁ hns hk => ?_)
  have X1 : K.In h₁ := X.keeps hk
  have hx1 := hk _ _ hx
  have hL : s.heap.objs.size ≠ x := Nat.ne_of_gt (Heap.lt_size hx)
  obtain ⟨hp, g, d, t, os⟩ := s
  obtain ⟨pl, he⟩ := call_eq a1 a2 a3 a4 a5 a6 a7 a8 (callEnv (ksFn "__init__" "BadValue.__init__" (prm p1 p2) (bod a1 a2 a3 a4 a5 a6 a7 a8 a9 b1 b2 b3 b4) scp .none .none doc pm an (.ref cda) ct cc) hp.objs.size fI) hpos
  refine ks_wpAt_execs_cons (ks_wpAt_Expr_any (ks_wpAt_MethodCall (pl := pl) ?_ he))
  refine ks_wpAt_super_base rfl rfl (by decide) rfl (X1 _ _ ho) rfl rfl rfl (X1 _ _ hcode) rfl hvs (by rw [G.file]; exact beq_self_eq_true _) G.sup ?_
  refine ks_loadName_global rfl rfl (loadGlobal_builtin (hG.keeps hk) T.gS (hB.keeps hk) hb ⟨rfl, ?_⟩)
  refine wpAny_loadName_free rfl rfl rfl ⟨_, X1 _ _ hcell, rfl⟩ ?_
  refine wpAny_loadName_local rfl rfl hns (by first | rfl | with_unfolding_all rfl) ?_
  refine ks_wpAny_isType_cls (X1 _ _ hC) rfl ⟨rfl, ?_⟩
  refine ks_wpAny_call_super (X1 _ _ hC) rfl hx1 rfl (fun c e => by cases e) (looks_mroIn X1 T.sC) (fun h₂ e2 kk2 => ?_)
  have X2 : K.In h₂ := X1.keeps kk2
  have hx2 := kk2 _ _ hx1
  have up := T.up
  unfold ks_superIn at up
  rw [hcl] at up
  have I2 : InstAt h₂ x (excO C t0) C none := ⟨hx2, rfl, rfl, trivial⟩
  refine kxs_getMethod kxs_ValueError e2 (looks_opaque X2 T.op) (l₀ := .ref C :: bm) (fun A Q E s k q => wpAny_bind ((looks_clsIn X2 hcl) A _ E s k (wpAny_pure q))) rfl X2 up (I2.type.andThen (looks_subIn X2 T.sV)) hxC (by decide) ?_
  show wpAny _ _ (callWith a8 (.ref h₂.objs.size) [] (backTo a8 (starEach [say a4 a5 a6 a7] _)) []) _ _ _
  have hx3 : (h₂.push (kxs_mw "ValueError.__init__" x)).get? x = some (excO C t0) := Heap.get?_push_of_some _ hx2
  have hu3 : (h₂.push (kxs_mw "ValueError.__init__" x)).get? h₂.objs.size = some (kxs_mw "ValueError.__init__" x) := Heap.get?_push_at rfl rfl
  have kk3 : ∀ b o, h₁.get? b = some o → (h₂.push (kxs_mw "ValueError.__init__" x)).get? b = some o := fun b o e => Heap.get?_push_of_some _ (kk2 b o e)
  have hns3 := hns.keeps kk3
  have hC3 := X2.keeps (fun b o e => Heap.get?_push_of_some (kxs_mw "ValueError.__init__" x) e) _ _ hC
  revert hx3 hu3 kk3 hns3 hC3
  generalize hu0 : h₂.objs.size = u
  generalize (h₂.push (kxs_mw "ValueError.__init__" x)) = h₃
  intro hx3 hu3 kk3 hns3 hC3
  have hul : hp.objs.size < u := by
    rw [← hu0]
    have z := hns
    obtain ⟨oL, es, ep, hL1, _⟩ := z
    exact Heap.lt_size (kk2 _ _ hL1)
  refine callW (x := x) (say_args hns3 (by first | rfl | with_unfolding_all rfl) rfl rfl hv fun y tk => ⟨hu3, ?_⟩)
  refine bound_init (s := ⟨h₃, g, d, tk, os⟩) hC3 hx3 hu3 fun h₄ t1 k4 hx4 => ?_
  have kk4 : ∀ b o, b ≠ x → hp.get? b = some o → h₄.get? b = some o := fun b o nb e => k4 b o nb (kk3 _ _ (hk b o e))
  have X4 : K.In h₄ := fun b o e => k4 b o (fun z => by
    have z1 := X b o e
    rw [z, hx] at z1
    exact hnx o (by rw [← z]; exact e)) (kk3 _ _ (hk b o (X b o e)))
  have hns4 := hns3.at fun o e => k4 _ o hL e
  show _root_.PySem.wpAt _ _ _ (execs [Stmt.Assign [.Attribute (.Name "self" b1) "name" b2] (.Name "name" b3) b4] _) _ _ _
  refine wpAt_of_wpAny (wpAny_execs_cons (plainObj_wpAny_Assign_Attribute ?_))
  refine ldE (v := .str v tv) hns4 (by first | rfl | with_unfolding_all rfl) (ldE (v := .ref x) hns4 (by first | rfl | with_unfolding_all rfl) ?_)
  refine set_plain X4 (ox := excO C t1) (od := none) ⟨hx4, rfl, rfl, trivial⟩ T.sa ?_
  refine exc_osa X4 hx4 hcl (show refsVE (.ref C :: bm) = true from hbm) rfl T.noN (fun h₅ tk₅ dx k5 dn dne hx5 hn5 => ?_)
  show wpAny _ _ (execs _ _) _ _ _
  have z : hp.objs.size < h₄.objs.size := hns4.lt
  exact wpAny_execs_nil (hq h₅ tk₅ dx t1 ⟨fun b o hb e => k5 b o hb (kk4 b o hb e), hx5, Nat.le_of_lt (Nat.lt_of_lt_of_le z dn), dne, hn5⟩)
theorem made (T : Txt K mg C fI) (G : Prg prog) {v : Str} {tv : Tok} (X : K.In s.heap) (hG : s.heap.Ns mainGlobals mg) (hB : s.heap.Ns builtinsNs mb) (hb : mb "super" = some (.type "super")) (hlim : s.heap.NoLimit) (hroom : A.depth + 1 < recursionLimit) (hv : v.length ≤ 1000000)
    (hq : ∀ h' tk e d, Made2 s.heap h' e C d (.str v tv) → R (.ok (.ret (.ref e))) { s with heap := h', toks := tk }) :
    codeAny (model prog w) A (.call (.ref C) ⟨[.str v tv], []⟩) R s := by
  obtain ⟨nm, q, N, bs, bm, sn, sub, ab, col, dd, k0, k1, k2, k3, k5, hC, hbm⟩ := T.cls
  obtain ⟨hp, g, dr, tk, os⟩ := s
  have k : ∀ b o, hp.get? b = some o → ((hp.push (kdv_tup [.str v tv])).push (excO C hp.objs.size)).get? b = some o := fun b o e => Heap.get?_push_of_some _ (Heap.get?_push_of_some _ e)
  have hget : ((hp.push (kdv_tup [.str v tv])).push (excO C hp.objs.size)).get? (hp.objs.size + 1) = some (excO C hp.objs.size) := by heap_get
  have hnx : ∀ o, K.lookup (hp.objs.size + 1) ≠ some o := fun o e => by
    have z : hp.get? (hp.objs.size + 1) = some o := X _ _ e
    exact absurd (Nat.lt_of_succ_lt (Heap.lt_size z)) (Nat.lt_irrefl _)
  refine call_own F.excBase_ValueError (fun X => refsVE_contains X bm hbm) (X _ _ hC) (looks_findIn X T.iC) (fun self => bind_fn X self T.tC) (by rw [sizeLine_eq]; exact (by decide : 1 ≤ 16777216)) ?_
  refine init1 (s := ⟨(hp.push (kdv_tup [.str v tv])).push (excO C hp.objs.size), g, dr, tk, os⟩) T G (X.keeps k) (hG.keeps k) (hB.keeps k) hb (hlim.keeps k) hget hnx ?_ hv fun h' tk' dx t1 M => ?_
  · show A.depth + 1 < recursionLimit
    exact hroom
  · have old : ∀ b o, hp.get? b = some o → h'.get? b = some o := fun b o e => M.keep b o (Nat.ne_of_lt (Nat.lt_succ_of_lt (Heap.lt_size e))) (k b o e)
    have z : hp.objs.size + 1 + 1 ≤ dx := by
      have q := M.big
      rw [Heap.size_push, Heap.size_push] at q
      exact q
    exact ⟨rfl, hq h' tk' (hp.objs.size + 1) dx ⟨old, Nat.le_succ _, ⟨_, _, M.obj, rfl, rfl, rfl, rfl⟩, Nat.le_trans (Nat.le_trans (Nat.le_succ _) (Nat.le_succ _)) z, M.ne, M.ns⟩⟩
end
end ExBadValue
namespace My
open PySem PySem.Spec PyProof.Rows L2
theorem relBadValue {v : V} {v' : Value} (r : RelV v v') (f : Str) : RelO (List.lookup f [(("name" : Str), v)]) (if f = "name" then some v' else none) := by
  by_cases hw : f = "name"
  · subst hw
    rw [if_pos rfl]
    have q : List.lookup ("name" : Str) [(("name" : Str), v)] = some v := by simp [List.lookup]
    rw [q]
    exact r
  · rw [if_neg hw]
    have qw : (f == ("name" : Str)) = false := by simpa using hw
    have q2 : List.lookup f [(("name" : Str), v)] = none := by simp [List.lookup, qw]
    rw [q2]
    trivial
theorem xfBadValue {K : PySem.W.Frag} {mg : Str → Option Value} {C fI : Addr} (T : ExBadValue.Txt K mg C fI) : XfC K C := ⟨T.ga, T.gg, T.exC, T.hdC⟩
theorem teBadValue {K : PySem.W.Frag} {mg : Str → Option Value} {C fI : Addr} (T : ExBadValue.Txt K mg C fI) : PySem.W.exmOne K (.ref C) (.ref C) = some true := PySem.W.exm_ref T.exC T.hdC T.tyC T.sS
section
variable {X : Cx} {C fI : Addr}
/-- BadValue(e), e a text -/
def tMkBadValue (C : Addr) (ta : TA) : L2.St → Hp → XK → Prop := fun σ H Q => ta σ H fun vs H1 => ∃ v : Str, vs = [.str v] ∧ v.length ≤ 1000000 ∧ ∀ d, H1 d = none → Q (.ref C) (some d) (upd H1 d (.xd [(("name" : Str), .str v)]))
theorem pmkBadValue {a : Expr} {ta : TA} {p pos : Pos} {k : Nat} (T : ExBadValue.Txt X.K X.mg C fI) (G : ExBadValue.Prg X.prog) (hr : Room k X.A) (ha : PA X [a] ta) (hg : L2.Gl X "BadValue" := by rfl)
    (he : starEach (a :: []) X.env = (false, eval a X.env) :: starEach [] X.env := by rfl) (hpl : (backTo pos (starEach [] X.env)).any (·.1) = false := by rfl) :
    PMk X (.Call (.Name "BadValue" p) [a] [] pos) (tMkBadValue C ta) := by
  intro pins s σ H Q I h
  refine wpAny_Call_Name_kw (ld_glob I hg T.gC ?_)
  refine PySem.W.callWith_K (h₀ := X.base) I.ok.mod.kin T.kC (thn (ha.run pos pins s σ H _ I h) fun us s1 hh => ?_) he hpl
  obtain ⟨vs, H1, I1, r1, v, ev, hv, q1⟩ := hh
  subst ev
  refine ⟨I1.kIn, ?_⟩
  obtain ⟨u, rfl, ru⟩ := vals1 r1
  obtain ⟨tv, rfl⟩ := ru
  show wpAny _ _ (call (.ref C) [.str v tv]) _ _ _
  have hlim := I1.nolimit
  obtain ⟨mb, m1, m2⟩ := I1.mod.blt
  have hG := I1.mod.glob.keeps I1.bk
  have hB := m1.keeps I1.bk
  have hb : mb "super" = some (.type "super") := (m2 _ (by decide)).trans (by decide +kernel)
  obtain ⟨hp, g, dr, tk, os⟩ := s1
  refine wpAny_call (ExBadValue.made T G I1.kIn hG hB hb hlim (by have := hr.dp; omega) hv fun h' tk' e d M => ?_)
  show MkP X pins σ Q (.ref e) ⟨h', g, dr, tk', os⟩
  obtain ⟨oe, fv, hoe, hc, hd, hdat, h1⟩ := M.obj
  have hns := M.ns
  obtain ⟨G', g1, g2⟩ := restrict h' fun b => decide (b ≠ e)
  have gk : ∀ b, b ≠ e → G'.get? b = h'.get? b := fun b hb => g1 b (decide_eq_true hb)
  have ge : G'.get? e = none := g2 e (by simp)
  have old : ∀ b o, hp.get? b = some o → G'.get? b = some o := fun b o q => (gk b (Nat.ne_of_lt (Nat.lt_of_lt_of_le (Heap.lt_size q) M.new))).trans (M.keep b o q)
  have ob : ObjOk X.prog X.w (upd H1 d (.xd [(("name" : Str), .str v)])) G' d (.xd [(("name" : Str), .str v)]) :=
    ⟨_, hns.at (fun o q => (gk d M.ne).trans q), fun f => relBadValue (v := .str v) (v' := .str v tv) ⟨tv, rfl⟩ f⟩
  have J : Inv X pins σ (upd H1 d (.xd [(("name" : Str), .str v)])) ⟨G', g, dr, tk', os⟩ := I1.laid (t' := tk') old M.big ob
  refine ⟨e, oe, fv, ⟨G', g, dr, tk', os⟩, _, .ref C, some d, rfl, J, fun b o q => ?_, ge, hoe, ⟨hc, hd⟩, hdat, h1, ?_, rfl, I1.bare, raises_own T.exC T.tyC, q1 d (I1.hok.fresh M.big)⟩
  · by_cases hb : b = e
    · have q' : G'.get? b = some o := q
      rw [hb, ge] at q'; cases q'
    · exact (gk b hb).symm.trans q
  · rw [upd_ne (Ne.symm M.ne)]
    exact I1.hok.fresh M.new
end
end My
namespace My
open PySem PySem.Spec PyProof.Rows L2
/-! ### isinstance of a caught error with fields -/
structure IsC (K : PySem.W.Frag) (C : Addr) : Prop where
  xf : XfC K C
  ha : PySem.W.findIn K (.ref C) "__class__" = some (some (.builtin "object.__class__"))
  hn : PySem.W.specialIn K (.builtin "object.__class__") "__get__" = some (some (.builtin "getset_descriptor.__get__"))
  ht : PySem.W.takesIn K (.builtin "object.__class__") = some true
  hm : PySem.W.mroIn K C (.type "object") = some true
def rIsF (K : PySem.W.Frag) (C a : Addr) (cls : Value) (d : Option Addr) : List V → Hp → VK → Prop := fun xs H Q => ∃ (c : V) (cv : Value) (b : Bool), xs = [.ref a, c] ∧ cls = .ref C ∧ (∃ dd fs, d = some dd ∧ H dd = some (.xd fs)) ∧ (∀ u, RelV c u → u = cv) ∧ PySem.W.kitOne K (.ref C) cv = some b ∧ Q (.bl b) H
theorem call_isF {X : Cx} {a C : Addr} {oe : Obj} {cls : Value} {d : Option Addr} {pn : List (Addr × Obj)} (T : IsC X.K C) (hz : Zc cls d oe) (hf : ∃ vs, oe.data = .fields vs) : CallR (X.suite a ((a, oe) :: pn)) (.builtin "isinstance") (rIsF X.K C a cls d) := by
  intro pins s σ H xs us Q I r h
  obtain ⟨c, cv, b, rfl, ec, ⟨dd, fs, ed, ea⟩, hcv, e, q⟩ := h
  subst ec
  subst ed
  cases r with
  | cons rx rr =>
    cases rr with
    | cons rt rr =>
      cases rr
      cases rx
      have ec := hcv _ rt
      subst ec
      obtain ⟨hget, _⟩ := I.pin (a, oe) (List.mem_append_left _ List.mem_cons_self)
      obtain ⟨vs, hd⟩ := hf
      have hx : ObjOk X.prog X.w H s.heap dd (.xd fs) := I.hok dd _ ea
      obtain ⟨mA, hns, hr⟩ := hx
      obtain ⟨od, ho, hl⟩ := lookIn_ns hns
      have J : PySem.W.InstAt s.heap a oe C (some od) := ⟨hget, hz.1, by unfold PySem.W.notCls; rw [hd] <;> rfl, by rw [hz.2]; exact ho⟩
      have hcl : (PySem.W.clsIn X.K C).isSome = true := by
        obtain ⟨cd, hc, _⟩ := PySem.W.any_some T.xf.hdC
        rw [hc]
        rfl
      exact PySem.W.kia_one (PySem.W.kitx_exc hcl T.xf.ga T.xf.gg T.xf.exC T.ha T.hn T.ht T.hm) I.kIn J e (fun z => nomatch z) fun tk => ⟨.bl b, H, I.kept (t' := tk) fun _ _ z => z, rfl, q⟩
end My
namespace My
open PySem PySem.Spec PyProof.Rows L2
/-! ### comprehensions whose results are known by the turns -/
theorem sqT_same {K : PySem.W.Frag} {H H' : Hp} {p : Addr} {xs : List V} (s : Same H H') (h : SqT K H p xs) : SqT K H' p xs := by
  rcases h with (h | ⟨o, h⟩) | h
  · exact .inl (.inl (s _ _ h))
  · exact .inl (.inr ⟨o, s _ _ h⟩)
  · exact .inr h
/-- one more result -/
theorem r_push {H1 H H4 : Hp} {D : Addr} {R : Nat → List V} {i : Nat} (hz : ∀ i, (R i).length ≤ 100000) (hD : H1 D = none) (s : Same H1 H) (h : H D = some (.lst (R i))) : ∀ y H4, R (i + 1) = R i ++ [y] → Same H H4 → ∃ acc, H4 D = some (.lst acc) ∧ acc.length < sizeLine ∧ Same H1 (upd H4 D (.lst (acc ++ [y]))) ∧ (upd H4 D (.lst (acc ++ [y]))) D = some (.lst (R (i + 1))) := by
  intro y H4 e s4
  refine ⟨_, s4 _ _ h, Nat.lt_of_le_of_lt (hz i) (by decide), fun b o hb => ?_, ?_⟩
  · rw [upd_ne (ne_of_none hb hD)]
    exact s4 _ _ (s _ _ hb)
  · rw [upd_same, e]
theorem r_keep {H1 H : Hp} {D : Addr} {R : Nat → List V} {i : Nat} (s : Same H1 H) (h : H D = some (.lst (R i))) : ∀ H4, R (i + 1) = R i → Same H H4 → Same H1 H4 ∧ H4 D = some (.lst (R (i + 1))) := by
  intro H4 e s4
  exact ⟨s.trans s4, by rw [e]; exact s4 _ _ h⟩
theorem lc_tupR {K : PySem.W.Frag} {a : Addr} {xs : List V} {g : TG} {tt : TT} {te : TE} {vs : List Nat} {σ : L2.St} {H1 : Hp} {D : Addr} {Qd : Hp → Prop} (R : Nat → List V) (h0 : R 0 = []) (hz : ∀ i, (R i).length ≤ 100000) (hD : H1 D = none) (ha : SqT K H1 a xs) 
    (hs : ∀ i x H, xs[i]? = some x → Same H1 H → (∀ y H4, R (i + 1) = R i ++ [y] → Same H H4 → ∃ acc, H4 D = some (.lst acc) ∧ acc.length < sizeLine ∧ Same H1 (upd H4 D (.lst (acc ++ [y]))) ∧ (upd H4 D (.lst (acc ++ [y]))) D = some (.lst (R (i + 1)))) → (∀ H4, R (i + 1) = R i → Same H H4 → Same H1 H4 ∧ H4 D = some (.lst (R (i + 1)))) →
      g x (wipe σ vs) H fun σ2 H2 => wipe σ2 vs = wipe σ vs ∧ tt σ2 H2 fun b H3 => if b = true then te σ2 H3 fun y H4 => ∃ acc, H4 D = some (.lst acc) ∧ acc.length < sizeLine ∧ Same H1 (upd H4 D (.lst (acc ++ [y]))) ∧ (upd H4 D (.lst (acc ++ [y]))) D = some (.lst (R (i + 1))) else Same H1 H3 ∧ H3 D = some (.lst (R (i + 1))))
    (hd : ∀ H, Same H1 H → H D = some (.lst (R xs.length)) → Qd H) :
    ∃ W : Nat → Nat → Hp → Prop, (∃ m, W 0 m (upd H1 D (.lst []))) ∧ ∀ i m H, W i m H →
      ((Itt K a).stop i H ∧ Qd H) ∨ ((Itt K a).go i H ∧ ∃ Nx : Hp → Prop, (∀ H', Nx H' → ∃ m', m' < m ∧ W (i + 1) m' H') ∧ ∀ x H', (Itt K a).yld i H x H' → g x (wipe σ vs) H' fun σ2 H2 => wipe σ2 vs = wipe σ vs ∧ tt σ2 H2 fun b H3 =>
        if b = true then te σ2 H3 fun y H4 => ∃ acc, H4 D = some (.lst acc) ∧ acc.length < sizeLine ∧ Nx (upd H4 D (.lst (acc ++ [y]))) else Nx H3) := by
  have fin : ∀ {i : Nat} {H : Hp}, Same H1 H → H D = some (.lst (R i)) → ∀ y H4, R (i + 1) = R i ++ [y] → Same H H4 → ∃ acc, H4 D = some (.lst acc) ∧ acc.length < sizeLine ∧ Same H1 (upd H4 D (.lst (acc ++ [y]))) ∧ (upd H4 D (.lst (acc ++ [y]))) D = some (.lst (R (i + 1))) := fun s h => r_push (H4 := H1) hz hD s h
  have fin0 : ∀ {i : Nat} {H : Hp}, Same H1 H → H D = some (.lst (R i)) → ∀ H4, R (i + 1) = R i → Same H H4 → Same H1 H4 ∧ H4 D = some (.lst (R (i + 1))) := fun s h => r_keep s h
  exact lc_tup (K := K) (a := a) (xs := xs) (fun i H' => Same H1 H' ∧ H' D = some (.lst (R i))) ⟨same_upd hD, by rw [upd_same, h0]⟩ (fun i H _ h => sqT_same h.1 ha) (fun i x H hx h => hs i x H hx h.1 (fin h.1 h.2) (fin0 h.1 h.2)) (fun H h => hd H h.1 h.2)
theorem lc_listR {K : PySem.W.Frag} {a : Addr} {xs : List V} {g : TG} {tt : TT} {te : TE} {vs : List Nat} {σ : L2.St} {H1 : Hp} {D : Addr} {Qd : Hp → Prop} (R : Nat → List V) (h0 : R 0 = []) (hz : ∀ i, (R i).length ≤ 100000) (hD : H1 D = none) (ha : SqL K H1 a xs) 
    (hs : ∀ i x H, xs[i]? = some x → Same H1 H → (∀ y H4, R (i + 1) = R i ++ [y] → Same H H4 → ∃ acc, H4 D = some (.lst acc) ∧ acc.length < sizeLine ∧ Same H1 (upd H4 D (.lst (acc ++ [y]))) ∧ (upd H4 D (.lst (acc ++ [y]))) D = some (.lst (R (i + 1)))) → (∀ H4, R (i + 1) = R i → Same H H4 → Same H1 H4 ∧ H4 D = some (.lst (R (i + 1)))) →
      g x (wipe σ vs) H fun σ2 H2 => wipe σ2 vs = wipe σ vs ∧ tt σ2 H2 fun b H3 => if b = true then te σ2 H3 fun y H4 => ∃ acc, H4 D = some (.lst acc) ∧ acc.length < sizeLine ∧ Same H1 (upd H4 D (.lst (acc ++ [y]))) ∧ (upd H4 D (.lst (acc ++ [y]))) D = some (.lst (R (i + 1))) else Same H1 H3 ∧ H3 D = some (.lst (R (i + 1))))
    (hd : ∀ H, Same H1 H → H D = some (.lst (R xs.length)) → Qd H) :
    ∃ W : Nat → Nat → Hp → Prop, (∃ m, W 0 m (upd H1 D (.lst []))) ∧ ∀ i m H, W i m H →
      ((Itl K a).stop i H ∧ Qd H) ∨ ((Itl K a).go i H ∧ ∃ Nx : Hp → Prop, (∀ H', Nx H' → ∃ m', m' < m ∧ W (i + 1) m' H') ∧ ∀ x H', (Itl K a).yld i H x H' → g x (wipe σ vs) H' fun σ2 H2 => wipe σ2 vs = wipe σ vs ∧ tt σ2 H2 fun b H3 =>
        if b = true then te σ2 H3 fun y H4 => ∃ acc, H4 D = some (.lst acc) ∧ acc.length < sizeLine ∧ Nx (upd H4 D (.lst (acc ++ [y]))) else Nx H3) := by
  have fin : ∀ {i : Nat} {H : Hp}, Same H1 H → H D = some (.lst (R i)) → ∀ y H4, R (i + 1) = R i ++ [y] → Same H H4 → ∃ acc, H4 D = some (.lst acc) ∧ acc.length < sizeLine ∧ Same H1 (upd H4 D (.lst (acc ++ [y]))) ∧ (upd H4 D (.lst (acc ++ [y]))) D = some (.lst (R (i + 1))) := fun s h => r_push (H4 := H1) hz hD s h
  have fin0 : ∀ {i : Nat} {H : Hp}, Same H1 H → H D = some (.lst (R i)) → ∀ H4, R (i + 1) = R i → Same H H4 → Same H1 H4 ∧ H4 D = some (.lst (R (i + 1))) := fun s h => r_keep s h
  exact lc_list (K := K) (a := a) (xs := xs) (fun i H' => Same H1 H' ∧ H' D = some (.lst (R i))) ⟨same_upd hD, by rw [upd_same, h0]⟩ (fun i H _ h => h.1.seq ha) (fun i x H hx h => hs i x H hx h.1 (fin h.1 h.2) (fin0 h.1 h.2)) (fun H h => hd H h.1 h.2)
theorem lc_rangeR {lo : Int} {n : Nat} {g : TG} {tt : TT} {te : TE} {vs : List Nat} {σ : L2.St} {H1 : Hp} {D : Addr} {Qd : Hp → Prop} (R : Nat → List V) (h0 : R 0 = []) (hz : ∀ i, (R i).length ≤ 100000) (hD : H1 D = none) 
    (hs : ∀ i H, i < n → Same H1 H → (∀ y H4, R (i + 1) = R i ++ [y] → Same H H4 → ∃ acc, H4 D = some (.lst acc) ∧ acc.length < sizeLine ∧ Same H1 (upd H4 D (.lst (acc ++ [y]))) ∧ (upd H4 D (.lst (acc ++ [y]))) D = some (.lst (R (i + 1)))) → (∀ H4, R (i + 1) = R i → Same H H4 → Same H1 H4 ∧ H4 D = some (.lst (R (i + 1)))) →
      g (.int (lo + (i : Nat))) (wipe σ vs) H fun σ2 H2 => wipe σ2 vs = wipe σ vs ∧ tt σ2 H2 fun b H3 => if b = true then te σ2 H3 fun y H4 => ∃ acc, H4 D = some (.lst acc) ∧ acc.length < sizeLine ∧ Same H1 (upd H4 D (.lst (acc ++ [y]))) ∧ (upd H4 D (.lst (acc ++ [y]))) D = some (.lst (R (i + 1))) else Same H1 H3 ∧ H3 D = some (.lst (R (i + 1))))
    (hd : ∀ H, Same H1 H → H D = some (.lst (R n)) → Qd H) :
    ∃ W : Nat → Nat → Hp → Prop, (∃ m, W 0 m (upd H1 D (.lst []))) ∧ ∀ i m H, W i m H →
      ((Itr lo n).stop i H ∧ Qd H) ∨ ((Itr lo n).go i H ∧ ∃ Nx : Hp → Prop, (∀ H', Nx H' → ∃ m', m' < m ∧ W (i + 1) m' H') ∧ ∀ x H', (Itr lo n).yld i H x H' → g x (wipe σ vs) H' fun σ2 H2 => wipe σ2 vs = wipe σ vs ∧ tt σ2 H2 fun b H3 =>
        if b = true then te σ2 H3 fun y H4 => ∃ acc, H4 D = some (.lst acc) ∧ acc.length < sizeLine ∧ Nx (upd H4 D (.lst (acc ++ [y]))) else Nx H3) := by
  have fin : ∀ {i : Nat} {H : Hp}, Same H1 H → H D = some (.lst (R i)) → ∀ y H4, R (i + 1) = R i ++ [y] → Same H H4 → ∃ acc, H4 D = some (.lst acc) ∧ acc.length < sizeLine ∧ Same H1 (upd H4 D (.lst (acc ++ [y]))) ∧ (upd H4 D (.lst (acc ++ [y]))) D = some (.lst (R (i + 1))) := fun s h => r_push (H4 := H1) hz hD s h
  have fin0 : ∀ {i : Nat} {H : Hp}, Same H1 H → H D = some (.lst (R i)) → ∀ H4, R (i + 1) = R i → Same H H4 → Same H1 H4 ∧ H4 D = some (.lst (R (i + 1))) := fun s h => r_keep s h
  exact lc_range (lo := lo) (n := n) (fun i H' => Same H1 H' ∧ H' D = some (.lst (R i))) ⟨same_upd hD, by rw [upd_same, h0]⟩  (fun i H hx h => hs i H hx h.1 (fin h.1 h.2) (fin0 h.1 h.2)) (fun H h => hd H h.1 h.2)
theorem lc_strR {z : Str} {g : TG} {tt : TT} {te : TE} {vs : List Nat} {σ : L2.St} {H1 : Hp} {D : Addr} {Qd : Hp → Prop} (R : Nat → List V) (h0 : R 0 = []) (hz : ∀ i, (R i).length ≤ 100000) (hD : H1 D = none) 
    (hs : ∀ i c H, z.cps[i]? = some c → Same H1 H → (∀ y H4, R (i + 1) = R i ++ [y] → Same H H4 → ∃ acc, H4 D = some (.lst acc) ∧ acc.length < sizeLine ∧ Same H1 (upd H4 D (.lst (acc ++ [y]))) ∧ (upd H4 D (.lst (acc ++ [y]))) D = some (.lst (R (i + 1)))) → (∀ H4, R (i + 1) = R i → Same H H4 → Same H1 H4 ∧ H4 D = some (.lst (R (i + 1)))) →
      g (.str ⟨#[c]⟩) (wipe σ vs) H fun σ2 H2 => wipe σ2 vs = wipe σ vs ∧ tt σ2 H2 fun b H3 => if b = true then te σ2 H3 fun y H4 => ∃ acc, H4 D = some (.lst acc) ∧ acc.length < sizeLine ∧ Same H1 (upd H4 D (.lst (acc ++ [y]))) ∧ (upd H4 D (.lst (acc ++ [y]))) D = some (.lst (R (i + 1))) else Same H1 H3 ∧ H3 D = some (.lst (R (i + 1))))
    (hd : ∀ H, Same H1 H → H D = some (.lst (R z.cps.size)) → Qd H) :
    ∃ W : Nat → Nat → Hp → Prop, (∃ m, W 0 m (upd H1 D (.lst []))) ∧ ∀ i m H, W i m H →
      ((Its z).stop i H ∧ Qd H) ∨ ((Its z).go i H ∧ ∃ Nx : Hp → Prop, (∀ H', Nx H' → ∃ m', m' < m ∧ W (i + 1) m' H') ∧ ∀ x H', (Its z).yld i H x H' → g x (wipe σ vs) H' fun σ2 H2 => wipe σ2 vs = wipe σ vs ∧ tt σ2 H2 fun b H3 =>
        if b = true then te σ2 H3 fun y H4 => ∃ acc, H4 D = some (.lst acc) ∧ acc.length < sizeLine ∧ Nx (upd H4 D (.lst (acc ++ [y]))) else Nx H3) := by
  have fin : ∀ {i : Nat} {H : Hp}, Same H1 H → H D = some (.lst (R i)) → ∀ y H4, R (i + 1) = R i ++ [y] → Same H H4 → ∃ acc, H4 D = some (.lst acc) ∧ acc.length < sizeLine ∧ Same H1 (upd H4 D (.lst (acc ++ [y]))) ∧ (upd H4 D (.lst (acc ++ [y]))) D = some (.lst (R (i + 1))) := fun s h => r_push (H4 := H1) hz hD s h
  have fin0 : ∀ {i : Nat} {H : Hp}, Same H1 H → H D = some (.lst (R i)) → ∀ H4, R (i + 1) = R i → Same H H4 → Same H1 H4 ∧ H4 D = some (.lst (R (i + 1))) := fun s h => r_keep s h
  exact lc_str (z := z) (fun i H' => Same H1 H' ∧ H' D = some (.lst (R i))) ⟨same_upd hD, by rw [upd_same, h0]⟩  (fun i c H hx h => hs i c H hx h.1 (fin h.1 h.2) (fin0 h.1 h.2)) (fun H h => hd H h.1 h.2)
theorem cut_whole {xs : List V} {lo hi : Option Int} (h : HT.sIx xs.length 0 lo = 0 ∧ HT.sIx xs.length xs.length hi = xs.length) : cutV xs lo hi = xs := by
  unfold cutV
  rw [h.1, h.2, List.drop_zero, Nat.sub_zero, List.take_length]
theorem slA_of {K : PySem.W.Frag} {H : Hp} {a : Addr} {xs : List V} {lo hi : Option Int} {Q : VK} (h : H a = some (.tup xs)) (k : ∀ p H', Same H H' → H' p = some (.tup (cutV xs lo hi)) → Q (.ref p) H') : rSlA K (.ref a) lo hi H Q := by
  refine ⟨a, xs, rfl, SqT.of h, fun e => ?_, fun _ p hp => k p _ (same_upd hp) upd_same⟩
  exact k a H (Same.refl _) (by rw [cut_whole e]; exact h)
theorem slA_lo {K : PySem.W.Frag} {H : Hp} {a : Addr} {xs : List V} {lo : Option Int} {σ : L2.St} {Q : VK} (h : H a = some (.tup xs)) (k : ∀ p H', Same H H' → H' p = some (.tup (cutV xs lo none)) → Q (.ref p) H') : tNoPart σ H (fun u H3 => rSlA K (.ref a) lo u H3 Q) := slA_of (hi := none) h k
theorem catA_of {K : PySem.W.Frag} {H : Hp} {a b : Addr} {xs ys : List V} {Q : VK} (ha : H a = some (.tup xs)) (hb : H b = some (.tup ys)) (hz : xs.length + ys.length ≤ sizeLine) (k : ∀ p H', Same H H' → H' p = some (.tup (xs ++ ys)) → Q (.ref p) H') : rCatA K (.ref a) (.ref b) H Q := by
  refine ⟨a, b, xs, ys, rfl, rfl, SqT.of ha, SqT.of hb, hz, fun e => ?_, fun _ e => ?_, fun _ _ p hp => k p _ (same_upd hp) upd_same⟩
  · exact k b H (Same.refl _) (by rw [e]; exact hb)
  · exact k a H (Same.refl _) (by rw [e, List.append_nil]; exact ha)
/-! ### plain data that draws leave -/
theorem RepJ.up {H : Hp} {v : V} {j : J} {n : Nat} (h : RepJ H v j n) : RepJ H v j (n + 1) := by
  induction h with
  | non => exact .non
  | bl b => exact .bl b
  | int i => exact .int i
  | str z => exact .str z
  | tup h z l _ ih => exact .tup h z l ih
  | lst h z l _ ih => exact .lst h z l ih
def Kp (a : Addr) (H : Hp) (v : V) (j : J) (n : Nat) : Prop := ∀ H', Keep a H H' → RepJ H' v j n
theorem Kp.rep {a : Addr} {H : Hp} {v : V} {j : J} {n : Nat} (h : Kp a H v j n) : RepJ H v j n := h H (Keep.refl a H)
theorem Kp.keep {a : Addr} {H H' : Hp} {v : V} {j : J} {n : Nat} (k : Keep a H H') (h : Kp a H v j n) : Kp a H' v j n := fun H2 k2 => h H2 (k.trans k2)
theorem Kp.same {a : Addr} {H H' : Hp} {v : V} {j : J} {n : Nat} (k : Same H H') (h : Kp a H v j n) : Kp a H' v j n := h.keep (Keep.same k)
theorem Kp.up {a : Addr} {H : Hp} {v : V} {j : J} {n : Nat} (h : Kp a H v j n) : Kp a H v j (n + 1) := fun H2 k2 => (h H2 k2).up
theorem Kp.tup {a p : Addr} {H : Hp} {xs : List V} {js : List J} {n : Nat} (hp : H p = some (.tup xs)) (ne : p ≠ a) (hz : xs.length ≤ 100000) (two : Two (fun x j => Kp a H x j n) xs js) : Kp a H (.ref p) (.tup js) (n + 1) := fun H2 k2 => .tup (k2 _ _ hp ne) hz two.len fun i x j hx hj => two.get2 hx hj H2 k2
theorem Kp.lst {a p : Addr} {H : Hp} {xs : List V} {js : List J} {n : Nat} (hp : H p = some (.lst xs)) (ne : p ≠ a) (hz : xs.length ≤ 100000) (two : Two (fun x j => Kp a H x j n) xs js) : Kp a H (.ref p) (.lst js) (n + 1) := fun H2 k2 => .lst (k2 _ _ hp ne) hz two.len fun i x j hx hj => two.get2 hx hj H2 k2
def Leaf (v : V) : Prop := v = .non ∨ (∃ b, v = .bl b) ∨ (∃ i, v = .int i) ∨ ∃ z, v = .str z
theorem Leaf.kp {a : Addr} {H : Hp} {v : V} (h : Leaf v) (n : Nat) : ∃ j, Kp a H v j n := by
  rcases h with rfl | ⟨b, rfl⟩ | ⟨i, rfl⟩ | ⟨z, rfl⟩
  · exact ⟨.non, fun _ _ => .non⟩
  · exact ⟨.bl b, fun _ _ => .bl b⟩
  · exact ⟨.int i, fun _ _ => .int i⟩
  · exact ⟨.str z, fun _ _ => .str z⟩
theorem kp_all {a : Addr} {H : Hp} {n : Nat} : ∀ {xs : List V}, (∀ x ∈ xs, ∃ j, Kp a H x j n) → ∃ js, Two (fun x j => Kp a H x j n) xs js
  | [], _ => ⟨[], .nil⟩
  | x :: xs, h => by
    obtain ⟨j, hj⟩ := h x (List.mem_cons_self ..)
    obtain ⟨js, hs⟩ := kp_all fun y hy => h y (List.mem_cons_of_mem _ hy)
    exact ⟨j :: js, .cons hj hs⟩
theorem kp_tup {a p : Addr} {H : Hp} {xs : List V} {n : Nat} (hs : Strm H a) (hp : H p = some (.tup xs)) (hz : xs.length ≤ 100000) (h : ∀ x ∈ xs, ∃ j, Kp a H x j n) : ∃ j, Kp a H (.ref p) j (n + 1) := by
  obtain ⟨js, two⟩ := kp_all h
  exact ⟨_, Kp.tup hp (hs.neT hp) hz two⟩
theorem kp_lst {a p : Addr} {H : Hp} {xs : List V} {n : Nat} (ne : p ≠ a) (hp : H p = some (.lst xs)) (hz : xs.length ≤ 100000) (h : ∀ x ∈ xs, ∃ j, Kp a H x j n) : ∃ j, Kp a H (.ref p) j (n + 1) := by
  obtain ⟨js, two⟩ := kp_all h
  exact ⟨_, Kp.lst hp ne hz two⟩
theorem mem_cut {xs : List V} {lo hi : Option Int} {x : V} (h : x ∈ cutV xs lo hi) : x ∈ xs := by
  unfold cutV at h
  exact List.mem_of_mem_drop (List.mem_of_mem_take h)
/-- an item that is drawn -/
theorem at_draw {xs : List V} {d : Int} {n : Nat} (hl : xs.length = n) (h0 : 0 ≤ d) (h1 : d < n) : ∃ v, atI xs d = some v ∧ v ∈ xs := by
  obtain ⟨v, hv⟩ : ∃ v, xs[d.toNat]? = some v := ⟨_, List.getElem?_eq_getElem (by omega)⟩
  exact ⟨v, at_of (j := d.toNat) (by omega) hv, List.mem_of_getElem? hv⟩
end My
namespace My
open PySem PySem.Spec PyProof.Rows L2
/-! ### what draws leave of plain values -/
def AllK (a : Addr) (H : Hp) (xs : List V) (n : Nat) : Prop := ∀ x ∈ xs, ∃ j, Kp a H x j n
theorem allk_nil {a : Addr} {H : Hp} {n : Nat} : AllK a H [] n := fun x h => (nomatch h)
theorem AllK.keep {a : Addr} {H H' : Hp} {xs : List V} {n : Nat} (h : AllK a H xs n) (k : Keep a H H') : AllK a H' xs n := fun x hx => by
  obtain ⟨j, hj⟩ := h x hx
  exact ⟨j, hj.keep k⟩
theorem AllK.same {a : Addr} {H H' : Hp} {xs : List V} {n : Nat} (h : AllK a H xs n) (s : Same H H') : AllK a H' xs n := h.keep (Keep.same s)
theorem AllK.more {a : Addr} {H H' : Hp} {xs : List V} {y : V} {n : Nat} (h : AllK a H xs n) (k : Keep a H H') (hy : ∃ j, Kp a H' y j n) : AllK a H' (xs ++ [y]) n := fun x hx => by
  rcases List.mem_append.mp hx with hx | hx
  · exact h.keep k x hx
  · rw [List.mem_singleton.mp hx]
    exact hy
theorem AllK.up {a : Addr} {H : Hp} {xs : List V} {n : Nat} (h : AllK a H xs n) : AllK a H xs (n + 1) := fun x hx => by
  obtain ⟨j, hj⟩ := h x hx
  exact ⟨j, hj.up⟩
theorem AllK.app {a : Addr} {H : Hp} {xs ys : List V} {n : Nat} (h : AllK a H xs n) (k : AllK a H ys n) : AllK a H (xs ++ ys) n := fun x hx => by
  rcases List.mem_append.mp hx with hx | hx
  · exact h x hx
  · exact k x hx
theorem AllK.cut {a : Addr} {H : Hp} {xs : List V} {n : Nat} (h : AllK a H xs n) (lo hi : Option Int) : AllK a H (cutV xs lo hi) n := fun x hx => h x (mem_cut hx)
theorem AllK.one {a : Addr} {H : Hp} {y : V} {n : Nat} (hy : ∃ j, Kp a H y j n) : AllK a H [y] n := fun x hx => by
  rw [List.mem_singleton.mp hx]
  exact hy
theorem AllK.tup {a p : Addr} {H : Hp} {xs : List V} {n : Nat} (h : AllK a H xs n) (st : Strm H a) (hp : H p = some (.tup xs)) (hz : xs.length ≤ 100000) : ∃ j, Kp a H (.ref p) j (n + 1) := kp_tup st hp hz h
theorem AllK.lst {a p : Addr} {H : Hp} {xs : List V} {n : Nat} (h : AllK a H xs n) (ne : p ≠ a) (hp : H p = some (.lst xs)) (hz : xs.length ≤ 100000) : ∃ j, Kp a H (.ref p) j (n + 1) := kp_lst ne hp hz h
theorem leaf_int (i : Int) : Leaf (.int i) := .inr (.inr (.inl ⟨i, rfl⟩))
theorem leaf_str (z : Str) : Leaf (.str z) := .inr (.inr (.inr ⟨z, rfl⟩))
theorem leaf_bl (b : Bool) : Leaf (.bl b) := .inr (.inl ⟨b, rfl⟩)
theorem leaf_non : Leaf .non := .inl rfl
theorem allk_leaf {a : Addr} {H : Hp} {xs : List V} (h : ∀ x ∈ xs, Leaf x) : AllK a H xs 0 := fun x hx => (h x hx).kp 0
theorem lf2 {x y : V} (hx : Leaf x) (hy : Leaf y) : ∀ z ∈ [x, y], Leaf z := fun z hz => by
  rcases List.mem_cons.mp hz with rfl | hz
  · exact hx
  · rw [List.mem_singleton.mp hz]
    exact hy
theorem lf1 {x : V} (hx : Leaf x) : ∀ z ∈ [x], Leaf z := fun z hz => by
  rw [List.mem_singleton.mp hz]
  exact hx
theorem lf3 {x y u : V} (hx : Leaf x) (hy : Leaf y) (hu : Leaf u) : ∀ z ∈ [x, y, u], Leaf z := fun z hz => by
  rcases List.mem_cons.mp hz with rfl | hz
  · exact hx
  · exact lf2 hy hu z hz
/-- a new object, its heap named -/
theorem newO {a T : Addr} {H : Hp} {o : HO} (st : Strm H a) (hT : H T = none) : ∃ H1, upd H T o = H1 ∧ Same H H1 ∧ Strm H1 a ∧ T ≠ a ∧ H1 T = some o := ⟨_, rfl, same_upd hT, st.same (same_upd hT), (st.ne hT).symm, upd_same⟩
end My
namespace My
open PySem PySem.Spec PyProof.Rows L2
def topS (i : Nat) : Stmt := PySem.Challenge.pw_nodoubt_k07_refusals_of_expressions.main.body.getD i (.Pass ⟨0, 0, 0, 0⟩)
abbrev s_steps_of : Stmt := topS 5
abbrev s__ends_of : Stmt := topS 6
abbrev s__ends_of_leaf : Stmt := topS 7
abbrev s__ends_of_join : Stmt := topS 8
abbrev s__ends_of_or : Stmt := topS 9
abbrev s__link : Stmt := topS 10
abbrev s_places_behind : Stmt := topS 11
abbrev s_candidates_of : Stmt := topS 12
abbrev s_is_right : Stmt := topS 13
abbrev s_is_long : Stmt := topS 18
abbrev s_is_word : Stmt := topS 19
abbrev s_matches : Stmt := topS 20
abbrev s_places : Stmt := topS 21
abbrev s_sizes : Stmt := topS 22
abbrev s_is_letter : Stmt := topS 23
abbrev s_is_text : Stmt := topS 24
abbrev s_check_long : Stmt := topS 25
abbrev s_check_word : Stmt := topS 26
abbrev s_sizes_within : Stmt := topS 27
abbrev s__parts_of : Stmt := topS 28
abbrev s__is_row : Stmt := topS 29
abbrev s__begins_with : Stmt := topS 30
abbrev s_turned : Stmt := topS 32
abbrev s__turned : Stmt := topS 33
abbrev s_renamed : Stmt := topS 34
abbrev s__is_order : Stmt := topS 35
abbrev s__renamed : Stmt := topS 36
abbrev s_simple : Stmt := topS 37
abbrev s__simple : Stmt := topS 38
abbrev s__simple_maybe : Stmt := topS 39
abbrev s__simple_many : Stmt := topS 40
abbrev s__simple_or : Stmt := topS 41
abbrev s_join_of : Stmt := topS 42
abbrev s_opened_parts : Stmt := topS 43
abbrev s__has_word : Stmt := topS 44
abbrev s_row_of : Stmt := topS 45
abbrev s_least_length : Stmt := topS 46
abbrev s__least : Stmt := topS 47
abbrev s_greatest_length : Stmt := topS 48
abbrev s__greatest : Stmt := topS 49
abbrev s__law_stream : Stmt := topS 51
abbrev s__law_next : Stmt := topS 52
abbrev s__law_pick : Stmt := topS 53
abbrev s__law_grown : Stmt := topS 54
abbrev s__law_expression : Stmt := topS 55
abbrev s__law_told : Stmt := topS 56
abbrev s__law_chain : Stmt := topS 57
abbrev s_law : Stmt := topS 58
abbrev s_BadValue___init__ : Stmt := inClass (topS 2) 0
abbrev s_Steps___init__ : Stmt := inClass (topS 4) 0
theorem boot_isinstance : bootBuiltins "isinstance" = some (.builtin "isinstance") := by decide +kernel
theorem boot_all : bootBuiltins "all" = some (.builtin "all") := by decide +kernel
theorem boot_any : bootBuiltins "any" = some (.builtin "any") := by decide +kernel
theorem boot_sum : bootBuiltins "sum" = some (.builtin "sum") := by decide +kernel
theorem boot_len : bootBuiltins "len" = some (.builtin "len") := by decide +kernel
theorem boot_abs : bootBuiltins "abs" = some (.builtin "abs") := by decide +kernel
theorem boot_min : bootBuiltins "min" = some (.builtin "min") := by decide +kernel
theorem boot_max : bootBuiltins "max" = some (.builtin "max") := by decide +kernel
theorem boot_int : bootBuiltins "int" = some (.type "int") := by decide +kernel
theorem boot_str : bootBuiltins "str" = some (.type "str") := by decide +kernel
theorem boot_bool : bootBuiltins "bool" = some (.type "bool") := by decide +kernel
theorem boot_list : bootBuiltins "list" = some (.type "list") := by decide +kernel
theorem boot_tuple : bootBuiltins "tuple" = some (.type "tuple") := by decide +kernel
/-- the built-ins' names as the module leaves them, its constants -/
structure Bt (K : PySem.W.Frag) (mg : Str → Option Value) (a_BOUNDS a_LONG_BOUNDS : Addr) (tL tM : Tok) : Prop where
  b_ValueError : mg "ValueError" = none
  b_abs : mg "abs" = none
  b_all : mg "all" = none
  b_any : mg "any" = none
  b_int : mg "int" = none
  b_isinstance : mg "isinstance" = none
  b_len : mg "len" = none
  b_list : mg "list" = none
  b_max : mg "max" = none
  b_min : mg "min" = none
  b_range : mg "range" = none
  b_set : mg "set" = none
  b_sorted : mg "sorted" = none
  b_str : mg "str" = none
  b_sum : mg "sum" = none
  b_super : mg "super" = none
  b_tuple : mg "tuple" = none
  g_LETTERS : mg "LETTERS" = some (.str "abcd" tL)
  g_LONG_BOUNDS : mg "LONG_BOUNDS" = some (.ref a_LONG_BOUNDS)
  g_MOST_LETTERS : mg "MOST_LETTERS" = some (.int 24 tM)
  tG : ∀ H : Hp, SqT K H a_LONG_BOUNDS [.int 40, .int 40, .int 200]
section
variable {P : Program} {w : World} {K : PySem.W.Frag} {mg : Str → Option Value} {base : Heap} {a_BOUNDS a_LONG_BOUNDS : Addr} {tL tM : Tok}
abbrev N__law_stream : List Str := ["script"]
theorem sc__law_stream : FnScope ["script"] ["script"] (defScope s__law_stream) := ⟨rfl, rfl, rfl, by decide +kernel, rfl, by decide +kernel, by decide +kernel⟩
theorem ok_stream {f : Addr} {fd : FuncData} (B : Bt K mg a_BOUNDS a_LONG_BOUNDS tL tM) (D : Df K mg "_law_stream" s__law_stream ["script"] f fd) : FnOk P w K mg base CX0 1 f fd ["script"] (spStream K) := by
  refine D.F.ok sc__law_stream (fun vs H Q E h => ?_) (fun cdv A outer s H vs Q E hr h => ?_)
  · obtain ⟨a, ns, rfl, _⟩ := h
    rfl
  obtain ⟨a, ns, rfl, hS, h63, q⟩ := h
  refine ⟨_, (pss_one (ps_ret (pe_lst (pa_cons (pe_callTy call_list_of rfl B.b_list boot_list (pa_cons (pv 0) pa_nil)) (pa_cons pe_int (pa_cons pe_int pa_nil)))))), ?_⟩
  refine ⟨_, rfl, a, _, rfl, .inl hS, fun l hl => ⟨by show 3 ≤ sizeLine; decide, fun p hp => ?_⟩⟩
  have n : l ≠ p := fun e => by
    rw [← e, upd_same] at hp
    cases hp
  exact q p _ ((same_upd hl).trans (same_upd hp)) ((same_upd hl).free hp) ⟨l, 0, 0, ns, upd_same, by rw [upd_ne n]; exact upd_same, n, Int.le_refl 0⟩
abbrev N__law_next : List Str := ["stream", "many", "k", "cell", "digit"]
theorem sc__law_next : FnScope ["stream", "many", "k", "cell", "digit"] ["stream", "many"] (defScope s__law_next) := ⟨rfl, rfl, rfl, by decide +kernel, rfl, by decide +kernel, by decide +kernel⟩
theorem ok_next {f : Addr} {fd : FuncData} (B : Bt K mg a_BOUNDS a_LONG_BOUNDS tL tM) (D : Df K mg "_law_next" s__law_next ["stream", "many"] f fd) : FnOk P w K mg base CX0 1 f fd ["stream", "many"] spNext := by
  refine D.F.ok sc__law_next (fun vs H Q E h => ?_) (fun cdv A outer s H vs Q E hr h => ?_)
  · obtain ⟨a, m, rfl, _⟩ := h
    rfl
  obtain ⟨a, m, rfl, hS, hm0, hm1, q⟩ := h
  obtain ⟨l, c, k, ns, h1, h2, h3, h4⟩ := id hS
  refine ⟨_, (C8.pss_cut (ps_if (pt_cmpR op_eq (pe_ix (r := rIxL K) ix_list (pv 0) pe_int (fun _ _ => rfl)) pe_int (nomark _)) (pss_cons (ps_set (i := 2) sc__law_next.nd rfl (Or.inl rfl) (pe_ix (r := rIxL K) ix_list (pv 0) pe_int (fun _ _ => rfl)))
    (pss_cons (ps_set (i := 3) sc__law_next.nd rfl (Or.inl rfl) (pe_op op_add pe_int (pv 2)))
    (C8.pss_cut (ps_if (pt_cmpR op_lt (pv 2) (pe_callB call_len rfl B.b_len boot_len (pa_cons (pe_ix (r := rIxL K) ix_list (pv 0) pe_int (fun _ _ => rfl)) pa_nil)) (nomark _)) (pss_one (ps_set (i := 3) sc__law_next.nd rfl (Or.inl rfl) (pe_callB call_abs rfl B.b_abs boot_abs (pa_cons (pe_ix (r := rIxL K) ix_list (pe_ix (r := rIxL K) ix_list (pv 0) pe_int (fun _ _ => rfl)) (pv 2) (fun _ _ => rfl)) pa_nil)))) pss_nil)
    (C8.pss_cut (ps_if (pt_cmpR op_lt (pv 3) (pe_op op_pow pe_int pe_int) (nomark _)) (pss_cons (ps_set (i := 3) sc__law_next.nd rfl (Or.inl rfl) (pe_op op_mod (pe_callTy call_int1 rfl B.b_int boot_int (pa_cons (pe_op op_add (pe_op op_add (pe_op op_mul (pv 3) pe_int) (pe_op op_mul (pv 2) pe_int)) pe_int) pa_nil)) pe_int))
    (pss_one (ps_set (i := 3) sc__law_next.nd rfl (Or.inl rfl) (pe_op op_add (pe_op op_mul (pe_op op_mod (pe_callTy call_int1 rfl B.b_int boot_int (pa_cons (pe_op op_add (pe_op op_mul (pv 3) pe_int) pe_int) pa_nil)) pe_int) pe_int) (pv 3))))) pss_nil)
    (pss_cons (ps_asg (pv 3) (pg_sub (pv 0) pe_int set_list))
    (pss_one (ps_asg (pe_op op_add (pv 2) pe_int) (pg_sub (pv 0) pe_int set_list)))))))) pss_nil)
    (pss_cons (ps_set (i := 4) sc__law_next.nd rfl (Or.inl rfl) (pe_op op_mod (pe_callTy call_int1 rfl B.b_int boot_int (pa_cons (pe_ix (r := rIxL K) ix_list (pv 0) pe_int (fun _ _ => rfl)) pa_nil)) (pv 1)))
    (pss_cons (ps_asg (pe_op op_fdiv (pe_ix (r := rIxL K) ix_list (pv 0) pe_int (fun _ _ => rfl)) (pv 1)) (pg_sub (pv 0) pe_int set_list))
    (pss_one (ps_ret (pv 4)))))), ?_⟩
  have m0 : ¬ m = 0 := by omega
  have at0 : ∀ (x y z : V), atI [x, y, z] 0 = some x := fun x y z => rfl
  have at1 : ∀ (x y z : V), atI [x, y, z] 1 = some y := fun x y z => rfl
  have at2 : ∀ (x y z : V), atI [x, y, z] 2 = some z := fun x y z => rfl
  refine ⟨fun σ' H' => ∃ kk cc c k, σ' = [some (.ref a), some (.int m), kk, cc, none] ∧ StrmW H' a l c k ns ∧ Keep a H H', ?_, ?_⟩
  · refine ⟨_, rfl, a, _, _, _, rfl, rfl, SqL.of h1, at1 _ _ _, rfl, _, rfl, ite2 (fun e => ?_) (fun e => ?_)⟩
    · -- a new cell
      refine ⟨_, rfl, a, _, _, _, rfl, rfl, SqL.of h1, at2 _ _ _, ?_⟩
      refine ⟨_, rfl, _, _, rfl, rfl, ?_⟩
      refine ⟨fun σ' H' => ∃ cc : Int, σ' = [some (.ref a), some (.int m), some (.int k), some (.int cc), none] ∧ H' = H, ?_, ?_⟩
      · refine ⟨_, rfl, _, rfl, a, _, _, _, rfl, rfl, SqL.of h1, at0 _ _ _, _, _, rfl, .inl ⟨_, SqL.of h2, rfl⟩, _, _, rfl, rfl, _, rfl, ite2 (fun e2 => ?_) (fun e2 => ?_)⟩
        · have e3 : k < ((ns.map V.int).length : Int) := of_decide_eq_true e2
          rw [List.length_map] at e3
          have hk : k.toNat < ns.length := by omega
          refine ⟨_, rfl, a, _, _, _, rfl, rfl, SqL.of h1, at0 _ _ _, _, rfl, l, _, k, .int ns[k.toNat], rfl, rfl, SqL.of h2, at_of (j := k.toNat) (by omega) (by rw [List.getElem?_map, List.getElem?_eq_getElem hk] <;> rfl), _, rfl, ?_⟩
          exact ⟨_, rfl, rfl⟩
        · exact ⟨_, rfl, rfl⟩
      · rintro σ' H' ⟨cc, rfl, rfl⟩
        refine ⟨fun σ' H'' => ∃ cc : Int, σ' = [some (.ref a), some (.int m), some (.int k), some (.int cc), none] ∧ H'' = H', ?_, ?_⟩
        · refine ⟨_, rfl, _, _, rfl, rfl, ⟨by decide, by decide, by decide⟩, _, _, rfl, rfl, _, rfl, ite2 (fun e2 => ?_) (fun e2 => ?_)⟩
          · refine ⟨_, rfl, _, _, rfl, rfl, .inr ⟨by decide, by decide⟩, _, rfl, _, _, rfl, rfl, .inr ⟨by decide, by decide⟩, _, _, rfl, rfl, _, _, rfl, rfl, .inl ⟨_, rfl, _, _, rfl, rfl, (by show (0 : Int) < 2147483647; decide), ?_⟩⟩
            refine ⟨_, rfl, _, _, rfl, rfl, .inr ⟨by decide, by decide⟩, _, _, rfl, rfl, .inl ⟨_, rfl, _, _, rfl, rfl, (by show (0 : Int) < 2147483647; decide), _, _, rfl, rfl, .inr ⟨by decide, by decide⟩, _, rfl, _, _, rfl, rfl, ?_⟩⟩
            exact ⟨_, rfl, rfl⟩
          · exact ⟨_, rfl, rfl⟩
        · rintro σ' H'' ⟨cc, rfl, rfl⟩
          refine ⟨_, rfl, _, rfl, a, _, _, _, rfl, rfl, h1, rfl, ?_⟩
          have u1 : ([.ref l, .int c, .int k] : List V).set 1 (.int cc) = [.ref l, .int cc, .int k] := rfl
          refine ⟨_, rfl, _, _, rfl, rfl, _, rfl, a, _, _, _, rfl, rfl, upd_same, rfl, ?_⟩
          exact ⟨_, _, cc, k + 1, rfl, ⟨upd_same, by rw [upd_ne h3, upd_ne h3]; exact h2, h3, by omega⟩, Keep.store.trans Keep.store⟩
    · exact ⟨_, _, c, k, rfl, ⟨h1, h2, h3, h4⟩, Keep.refl a H⟩
  · rintro σ' H' ⟨kk, cc, c, k, rfl, ⟨g1, g2, g3, g4⟩, kp⟩
    refine ⟨_, rfl, a, _, _, _, rfl, rfl, SqL.of g1, at1 _ _ _, .inl ⟨_, rfl, _, rfl, _, _, rfl, rfl, hm0, ?_⟩⟩
    refine ⟨_, rfl, a, _, _, _, rfl, rfl, SqL.of g1, at1 _ _ _, _, rfl, _, _, rfl, rfl, ⟨hm0, by omega⟩, _, rfl, a, _, _, _, rfl, rfl, g1, rfl, ?_⟩
    exact ⟨_, rfl, q _ _ (Int.emod_nonneg _ m0) (Int.emod_lt_of_pos _ hm0) ⟨kp.trans Keep.store, hS, fun l' c' k' ns' h' => by
      have e := h1.symm.trans h'.1
      cases e
      exact ⟨_, _, ns, upd_same, by rw [upd_ne g3]; exact g2, g3, g4⟩⟩⟩
abbrev N__law_pick : List Str := ["stream", "rows"]
theorem sc__law_pick : FnScope ["stream", "rows"] ["stream", "rows"] (defScope s__law_pick) := ⟨rfl, rfl, rfl, by decide +kernel, rfl, by decide +kernel, by decide +kernel⟩
theorem ok_pick {f : Addr} {fd : FuncData} (B : Bt K mg a_BOUNDS a_LONG_BOUNDS tL tM) (D : Df K mg "_law_pick" s__law_pick ["stream", "rows"] f fd) (G_law_next : Cl P w K mg base 1 "_law_next" ["stream", "many"] spNext) : FnOk P w K mg base CX0 2 f fd ["stream", "rows"] (spPick K) := by
  refine D.F.ok sc__law_pick (fun vs H Q E h => ?_) (fun cdv A outer s H vs Q E hr h => ?_)
  · obtain ⟨a, r, xs, rfl, _⟩ := h
    rfl
  obtain ⟨a, r, xs, rfl, hS, hX, hra, h0, h1, q⟩ := h
  refine ⟨_, (pss_one (ps_ret (pe_ix (r := rIxL K) ix_list (pv 1) (pe_cl G_law_next (hr.mono (by omega)) rfl (pa_cons (pv 0) (pa_cons (pe_callB call_len rfl B.b_len boot_len (pa_cons (pv 1) pa_nil)) pa_nil))) (fun _ _ => rfl)))), ?_⟩
  refine ⟨_, rfl, _, rfl, _, rfl, _, _, rfl, .inl ⟨_, hX, rfl⟩, a, _, rfl, hS, by omega, by omega, fun d H' d0 d1 g => ?_⟩
  have hd : d.toNat < xs.length := by omega
  exact ⟨r, xs, d, xs[d.toNat], rfl, rfl, g.seq hra hX, at_of (j := d.toNat) (by omega) (List.getElem?_eq_getElem hd), q _ _ (List.getElem_mem hd) g⟩
end


/-! ### the looks at a datum -/
def spLetter : Sp := fun vs H Q _ => ∃ z : Str, vs = [.str z] ∧ z.length ≤ 1000 ∧ Q (.bl (isLet z)) H
def spBegins : Sp := fun vs H Q _ => ∃ v w d, vs = [v, .str w] ∧ Rep H v d ∧ headFlat d = true ∧ Q (.bl (begins w d)) H
def spIsRow : Sp := fun vs H Q _ => ∃ v w d, vs = [.str w, v] ∧ Rep H v d ∧ rowFlat d = true ∧ ∀ H', Same H H' → Q (.bl (rowOk w d)) H'
def PartsR (H : Hp) (r : V) : Option (List D) → Prop
  | none => r = .non
  | some ys => ∃ p vs, r = .ref p ∧ H p = some (.tup vs) ∧ Two (Rep H) vs ys
def spPartsOf : Sp := fun vs H Q _ => ∃ v d, vs = [v] ∧ Rep H v d ∧ Fl d ∧ ∀ r H', Same H H' → PartsR H' r (inner d) → Q r H'
def SizeR (H : Hp) (r : V) : Option Bnd → Prop
  | none => r = .non
  | some a => ∃ q, r = .ref q ∧ H q = some (.tup [.int a.1, .int a.2.1, .int a.2.2])
def spSizes (K : PySem.W.Frag) : Sp := fun vs H Q _ => ∃ (v : V) (d : D) (b : Addr) (B : Bnd), vs = [v, .ref b] ∧ Rep H v d ∧ Fl d ∧ d.size ≤ 1000000 ∧ SqT K H b [.int B.1, .int B.2.1, .int B.2.2] ∧ ∀ r H', Same H H' → SizeR H' r (sizesOf B d) → Q r H'
def spIs (B : Bnd) : Sp := fun vs H Q _ => ∃ (v : V) (d : D), vs = [v] ∧ Rep H v d ∧ Fl d ∧ d.size ≤ 1000000 ∧ ∀ H', Same H H' → Q (.bl (sizesOf B d).isSome) H'
section
variable {P : Program} {w : World} {K : PySem.W.Frag} {mg : Str → Option Value} {base : Heap} {a_BOUNDS a_LONG_BOUNDS : Addr} {tL tM : Tok}
theorem abcd_in (c : Nat) : (c ∈ (Str.ofString "abcd").cps.toList) ↔ 97 ≤ c ∧ c ≤ 100 := by
  have e : (Str.ofString "abcd").cps.toList = [97, 98, 99, 100] := by decide +kernel
  rw [e]
  simp
  omega
theorem isLet_one (c : Nat) : isLet ⟨#[c]⟩ = decide (c ∈ (Str.ofString "abcd").cps.toList) := by
  have e : isLet ⟨#[c]⟩ = (decide (97 ≤ c) && decide (c ≤ 100)) := rfl
  rw [e, ← Bool.decide_and]
  exact decide_eq_decide.mpr (abcd_in c).symm
abbrev N_is_letter : List Str := ["value"]
theorem sc_is_letter : FnScope ["value"] ["value"] (defScope s_is_letter) := ⟨rfl, rfl, rfl, by decide +kernel, rfl, by decide +kernel, by decide +kernel⟩
theorem ok_letter {f : Addr} {fd : FuncData} (B : Bt K mg a_BOUNDS a_LONG_BOUNDS tL tM) (D : Df K mg "is_letter" s_is_letter ["value"] f fd) : FnOk P w K mg base CX0 1 f fd ["value"] spLetter := by
  refine D.F.ok sc_is_letter (fun vs H Q E h => ?_) (fun cdv A outer s H vs Q E hr h => ?_)
  · obtain ⟨z, rfl, _⟩ := h
    rfl
  obtain ⟨z, rfl, hz, q⟩ := h
  refine ⟨_, (pss_one (ps_ret (pe_and (pe_callB call_isi rfl B.b_isinstance boot_isinstance (pa_cons (pv 0) (pa_cons (pe_bltn (v := .ty "str") rfl B.b_str boot_str rfl) pa_nil))) (pe_and (pe_cmpR op_eq (pe_callB call_len rfl B.b_len boot_len (pa_cons (pv 0) pa_nil)) pe_int (nomark _)) (pe_one (pe_cmpR op_in_sign (pv 0) (pe_glob (v := .str "abcd") rfl B.g_LETTERS ⟨_, rfl⟩) rfl)))))), ?_⟩
  have T1 : TyX K H (.str z) (.type "str") := .base (.str z)
  refine ⟨_, rfl, _, _, _, _, _, rfl, .ty _, T1, kit_ty (r := true) (by decide +kernel), _, rfl, iteT ?_⟩
  refine ⟨_, rfl, _, _, rfl, ⟨Nat.le_trans hz (by decide), rfl⟩, rfl, _, rfl, ite2 (fun e => ?_) (fun e => ?_)⟩
  · have e1 : V.int (z.length : Int) = V.int 1 := of_decide_eq_true e
    have e2 : z.cps.size = 1 := by
      have e3 : (z.length : Int) = 1 := V.int.inj e1
      have e4 : z.length = z.cps.size := rfl
      omega
    obtain ⟨⟨cs⟩⟩ := z
    match cs, e2 with
    | [c], _ =>
      refine ⟨_, rfl, _, _, rfl, rfl, ?_⟩
      rw [isLet_one] at q
      exact q
  · have e2 : isLet z = false := by
      unfold isLet
      split
      · rename_i c hc
        exfalso
        apply e
        refine decide_eq_true (congrArg V.int ?_)
        have : z.cps.size = 1 := by rw [← Array.length_toList, hc] <;> rfl
        show ((z.cps.size : Nat) : Int) = 1
        omega
      · rfl
    rw [e2] at q
    exact q
abbrev N__begins_with : List Str := ["value", "word"]
theorem sc__begins_with : FnScope ["value", "word"] ["value", "word"] (defScope s__begins_with) := ⟨rfl, rfl, rfl, by decide +kernel, rfl, by decide +kernel, by decide +kernel⟩
theorem ok_begins {f : Addr} {fd : FuncData} (B : Bt K mg a_BOUNDS a_LONG_BOUNDS tL tM) (D : Df K mg "_begins_with" s__begins_with ["value", "word"] f fd) : FnOk P w K mg base CX0 1 f fd ["value", "word"] spBegins := by
  refine D.F.ok sc__begins_with (fun vs H Q E h => ?_) (fun cdv A outer s H vs Q E hr h => ?_)
  · obtain ⟨v, w, d, rfl, _⟩ := h
    rfl
  obtain ⟨v, w, d, rfl, hR, hF, q⟩ := h
  refine ⟨_, (pss_one (ps_ret (pe_and (pe_callB call_isi rfl B.b_isinstance boot_isinstance (pa_cons (pv 0) (pa_cons (pe_bltn (v := .ty "tuple") rfl B.b_tuple boot_tuple rfl) pa_nil))) (pe_and (pe_cmpR op_gt (pe_callB call_len rfl B.b_len boot_len (pa_cons (pv 0) pa_nil)) pe_int (nomark _)) (pe_one (pe_cmpR op_eq (pe_ix (r := rIxT K) ix_tup (pv 0) pe_int (fun _ _ => rfl)) (pv 1) (nomark _))))))), ?_⟩
  obtain ⟨t, ht, _, k2⟩ := hR.ty (K := K)
  refine ⟨_, rfl, _, _, _, _, _, rfl, .ty _, ht, k2, _, rfl, ite2 (fun e => ?_) (fun e => ?_)⟩
  · cases d with
    | tup ds =>
      obtain ⟨p, xs, rfl, hp, hz, hX⟩ := hR.untup
      refine ⟨_, rfl, _, _, rfl, .inr ⟨_, SqT.of hp, rfl⟩, _, _, rfl, rfl, _, rfl, ite2 (fun e3 => ?_) (fun e3 => ?_)⟩
      · have e1 : (0 : Int) < ((xs.length : Nat) : Int) := of_decide_eq_true e3
        cases hX with
        | nil => exact absurd e1 (by decide)
        | @cons x y xs ys hxy ht =>
          refine ⟨_, rfl, p, _, 0, x, rfl, rfl, SqT.of hp, at_zero, _, rfl, ?_⟩
          cases hxy with
          | @str z hz =>
            refine ⟨rfl, ?_⟩
            have q1 : decide (V.str z = V.str w) = begins w (.tup (.str z :: ys)) := by
              rw [begins_tup]
              exact decide_eq_decide.mpr ⟨fun h => by cases h; rfl, fun h => by rw [h]⟩
            rw [q1]
            exact q
          | non => exact ⟨rfl, q⟩
          | bl b => exact ⟨rfl, q⟩
          | int i => exact ⟨rfl, q⟩
          | tup _ _ _ _ => exact absurd hF Bool.false_ne_true
          | lst _ => exact absurd hF Bool.false_ne_true
      · cases hX with
        | nil => exact q
        | @cons x y xs ys hxy ht =>
          exfalso
          apply e3
          refine decide_eq_true ?_
          show (0 : Int) < ((xs.length + 1 : Nat) : Int)
          omega
    | str z => cases e
    | lst => cases e
    | flat => cases e
  · cases d with
    | tup ds => exact absurd rfl e
    | str z => exact q
    | lst => exact q
    | flat => exact q
abbrev N__is_row : List Str := ["word", "value", "part"]
theorem sc__is_row : FnScope ["word", "value", "part"] ["word", "value"] (defScope s__is_row) := ⟨rfl, rfl, rfl, by decide +kernel, rfl, by decide +kernel, by decide +kernel⟩
theorem ok_isrow {f : Addr} {fd : FuncData} (B : Bt K mg a_BOUNDS a_LONG_BOUNDS tL tM) (D : Df K mg "_is_row" s__is_row ["word", "value"] f fd) (G_begins_with : Cl P w K mg base 1 "_begins_with" ["value", "word"] spBegins) : FnOk P w K mg base CX0 2 f fd ["word", "value"] spIsRow := by
  refine D.F.ok sc__is_row (fun vs H Q E h => ?_) (fun cdv A outer s H vs Q E hr h => ?_)
  · obtain ⟨v, w, d, rfl, _⟩ := h
    rfl
  obtain ⟨v, w, d, rfl, hR, hF, q⟩ := h
  refine ⟨_, (pss_cons (ps_if (PW.pt (pw_or (pt_not (pt_val (pe_callB call_isi rfl B.b_isinstance boot_isinstance (pa_cons (pv 1) (pa_cons (pe_bltn (v := .ty "tuple") rfl B.b_tuple boot_tuple rfl) pa_nil))))) (pw_or1 (pt_cmpR op_lt (pe_callB call_len rfl B.b_len boot_len (pa_cons (pv 1) pa_nil)) pe_int (nomark _))))) (pss_one (ps_ret pe_bl)) pss_nil)
    (pss_one (ps_ret (pe_not (pe_callB (cr_any rfl) rfl B.b_any boot_any (pa_cons (pe_lc (own := [("part", 2)]) (g := gName 2) (tt := tYes) rfl sc__is_row.nd (pi_tup (pv 1)) (blkOk_by (N := N__is_row) (sc := defScope s__is_row) (by decide +kernel)) (fun _ _ _ _ _ => pg_name (i := 2) sc__is_row.nd rfl (Or.inl rfl)) (fun _ _ _ _ _ => pts_nil) (fun _ _ _ _ _ => (pe_cl G_begins_with (hr.mono (by omega)) rfl (pa_cons (pv 2) (pa_cons (pv 0) pa_nil))))) pa_nil)))))), ?_⟩
  obtain ⟨t, ht, _, k2⟩ := hR.ty (K := K)
  cases d with
  | str z => exact ⟨_, rfl, _, _, _, _, _, rfl, .ty _, ht, k2, _, rfl, iteT (iteT (q _ (Same.refl _)))⟩
  | lst => exact ⟨_, rfl, _, _, _, _, _, rfl, .ty _, ht, k2, _, rfl, iteT (iteT (q _ (Same.refl _)))⟩
  | flat => exact ⟨_, rfl, _, _, _, _, _, rfl, .ty _, ht, k2, _, rfl, iteT (iteT (q _ (Same.refl _)))⟩
  | tup ds =>
    obtain ⟨p, xs, rfl, hp, hz, hX⟩ := hR.untup
    have hl := hX.len
    refine ⟨_, rfl, _, _, _, _, _, rfl, .ty _, ht, k2, _, rfl, iteF ?_⟩
    refine ⟨_, rfl, _, _, rfl, .inr ⟨_, SqT.of hp, rfl⟩, _, _, rfl, rfl, _, rfl, ite2 (fun e => ?_) (fun e => ?_)⟩
    · have e1 : ((xs.length : Nat) : Int) < 2 := of_decide_eq_true e
      have e2 : rowOk w (.tup ds) = false := by
        rw [rowOk_tup, decide_eq_false (by omega)]
        rfl
      rw [e2] at q
      exact q _ (Same.refl _)
    · have e1 : ¬ ((xs.length : Nat) : Int) < 2 := fun h => e (decide_eq_true h)
      have e2 : rowOk w (.tup ds) = !(ds.any (begins w)) := by
        rw [rowOk_tup, decide_eq_true (by omega)]
        rfl
      rw [e2] at q
      refine ⟨_, rfl, p, rfl, ⟨_, SqT.of hp⟩, fun L hL => ?_⟩
      refine lc_tup (K := K) (a := p) (xs := xs) (fun i H' => Same H H' ∧ H' L = some (.lst (((ds.take i).map (begins w)).map V.bl))) ⟨same_upd hL, upd_same⟩ (fun i H' _ h => SqT.of (h.1 _ _ hp)) (fun i x H' hx h => ?_) (fun H' h => ?_)
      · obtain ⟨d, hd, hxd⟩ := hX.get hx
        have hd' : headFlat d = true := by
          have : ds.all headFlat = true := hF
          exact List.all_eq_true.mp this d (List.mem_of_getElem? hd)
        refine ⟨rfl, tyes ?_⟩
        refine ⟨_, rfl, _, rfl, x, w, d, rfl, hxd.pers (Pers.same h.1), hd', _, h.2, ?_, ?_, ?_⟩
        · rw [List.length_map, List.length_map, List.length_take]
          have : i < ds.length := (List.getElem?_eq_some_iff.mp hd).1
          exact Nat.lt_of_le_of_lt (Nat.min_le_right _ _) (Nat.lt_of_le_of_lt (hl ▸ hz) (by decide))
        · exact fun b o e => by rw [upd_ne (ne_of_none e hL)]; exact h.1 b o e
        · rw [upd_same, List.take_add_one, hd, List.map_append, List.map_append]
          rfl
      · obtain ⟨h1, h2⟩ := h
        rw [hl, List.take_length] at h2
        refine ⟨L, _, rfl, SqL.of h2, _, rfl, ?_⟩
        have e3 : ((ds.map (begins w)).any id) = ds.any (begins w) := by
          rw [List.any_map]
          rfl
        rw [e3]
        exact q _ h1
abbrev N__parts_of : List Str := ["value", "word", "inner"]
theorem sc__parts_of : FnScope ["value", "word", "inner"] ["value"] (defScope s__parts_of) := ⟨rfl, rfl, rfl, by decide +kernel, rfl, by decide +kernel, by decide +kernel⟩
theorem ok_parts {f : Addr} {fd : FuncData} (B : Bt K mg a_BOUNDS a_LONG_BOUNDS tL tM) (D : Df K mg "_parts_of" s__parts_of ["value"] f fd) (Gis_letter : Cl P w K mg base 1 "is_letter" ["value"] spLetter) (G_is_row : Cl P w K mg base 2 "_is_row" ["word", "value"] spIsRow) : FnOk P w K mg base CX0 3 f fd ["value"] spPartsOf := by
  refine D.F.ok sc__parts_of (fun vs H Q E h => ?_) (fun cdv A outer s H vs Q E hr h => ?_)
  · obtain ⟨v, d, rfl, _⟩ := h
    rfl
  obtain ⟨v, d, rfl, hR, hF, q⟩ := h
  refine ⟨_, (pss_cons (ps_if (pt_val (pe_callB call_isi rfl B.b_isinstance boot_isinstance (pa_cons (pv 0) (pa_cons (pe_bltn (v := .ty "str") rfl B.b_str boot_str rfl) pa_nil)))) (pss_one (ps_ret (pe_ifExp (PW.pt (pw_or (pt_cmpR op_eq (pv 0) pe_str (nomark _)) (pw_or1 (pt_val (pe_cl Gis_letter (hr.mono (by omega)) rfl (pa_cons (pv 0) pa_nil)))))) (pe_tup pa_nil) pe_non))) pss_nil)
    (pss_cons (ps_if (PW.pt (pw_or (pt_not (pt_val (pe_callB call_isi rfl B.b_isinstance boot_isinstance (pa_cons (pv 0) (pa_cons (pe_bltn (v := .ty "tuple") rfl B.b_tuple boot_tuple rfl) pa_nil))))) (pw_or (pt_cmpR op_ne (pe_callB call_len rfl B.b_len boot_len (pa_cons (pv 0) pa_nil)) pe_int (nomark _)) (pw_or1 (pt_not (pt_val (pe_callB call_isi rfl B.b_isinstance boot_isinstance (pa_cons (pe_ix (r := rIxT K) ix_tup (pv 0) pe_int (fun _ _ => rfl)) (pa_cons (pe_bltn (v := .ty "str") rfl B.b_str boot_str rfl) pa_nil))))))))) (pss_one (ps_ret pe_non)) pss_nil)
    (pss_cons (ps_asg (pv 0) (pg_tup rfl (pgs_cons (pg_name (i := 1) sc__parts_of.nd rfl (Or.inl rfl)) (pgs_cons (pg_name (i := 2) sc__parts_of.nd rfl (Or.inl rfl)) pgs_nil))))
    (pss_cons (ps_if (PW.pt (pw_or (pt_cmpR op_eq (pv 1) pe_str (nomark _)) (pw_or1 (pt_cmpR op_eq (pv 1) pe_str (nomark _))))) (pss_one (ps_ret (pe_tup (pa_cons (pv 2) pa_nil)))) pss_nil)
    (pss_cons (ps_if (PW.pt (pw_and (PW.pt (pw_or (pt_cmpR op_eq (pv 1) pe_str (nomark _)) (pw_or1 (pt_cmpR op_eq (pv 1) pe_str (nomark _))))) (pw_and1 (pt_val (pe_cl G_is_row (hr.mono (by omega)) rfl (pa_cons (pv 1) (pa_cons (pv 2) pa_nil))))))) (pss_one (ps_ret (pv 2))) pss_nil)
    (pss_one (ps_ret pe_non))))))), ?_⟩
  obtain ⟨t, ht, k1, k2⟩ := hR.ty (K := K)
  refine ⟨_, rfl, _, _, _, _, _, rfl, .ty _, ht, k1, _, rfl, ite2 (fun e => ?_) (fun e => ?_)⟩
  · cases d with
    | tup ds => cases e
    | lst => cases e
    | flat => cases e
    | str z =>
      cases hR with
      | str hz =>
        have yes : (z = sNo ∨ isLet z = true) → ∀ p, H p = none → Q (.ref p) (upd H p (.tup [])) := fun c p hp => q _ _ (same_upd hp) (by
          rw [inner, if_pos c]
          exact ⟨p, [], rfl, upd_same, .nil⟩)
        refine ⟨_, rfl, rfl, _, rfl, ite2 (fun e1 => iteT ?_) (fun e1 => ?_)⟩
        · exact ⟨by decide, yes (.inl (vstr e1))⟩
        · refine ⟨_, rfl, z, rfl, hz, _, rfl, ite2 (fun e2 => ?_) (fun e2 => ?_)⟩
          · exact ⟨by decide, yes (.inr e2)⟩
          · refine q _ _ (Same.refl _) ?_
            rw [inner, if_neg fun c => c.elim (vstrN e1) e2]
            rfl
  · cases d with
    | str z => exact absurd rfl e
    | lst => exact ⟨_, rfl, _, _, _, _, _, rfl, .ty _, ht, k2, _, rfl, iteT (iteT (q _ _ (Same.refl _) rfl))⟩
    | flat => exact ⟨_, rfl, _, _, _, _, _, rfl, .ty _, ht, k2, _, rfl, iteT (iteT (q _ _ (Same.refl _) rfl))⟩
    | tup ds =>
      obtain ⟨p, xs, rfl, hp, hz, hX⟩ := hR.untup
      have hl := hX.len
      have none_ : inner (.tup ds) = none → Q .non H := fun c => q _ _ (Same.refl _) (by rw [c]; rfl)
      refine ⟨_, rfl, _, _, _, _, _, rfl, .ty _, ht, k2, _, rfl, iteF ?_⟩
      refine ⟨_, rfl, _, _, rfl, .inr ⟨_, SqT.of hp, rfl⟩, rfl, _, rfl, ite2 (fun e => ?_) (fun e => ?_)⟩
      · have e1 : ¬ xs.length = 2 := by
          intro c
          rw [c] at e
          exact absurd e (by decide)
        refine iteT (none_ ?_)
        unfold inner
        split
        · rename_i h; cases h
        · rename_i h
          cases h
          exact absurd hl e1
        · rfl
      · have e1 : xs.length = 2 := by
          have e2 : ¬ ¬ ((xs.length : Nat) : Int) = 2 := fun c => e (by
            show (!decide (V.int ((xs.length : Nat) : Int) = V.int 2)) = true
            rw [decide_eq_false (fun z => c (V.int.inj z))]
            rfl)
          omega
        match xs, ds, hX, e1 with
        | [x, y], [dx, dy], hX, _ =>
          cases hX with
          | cons hx hX =>
          cases hX with
          | cons hy _ =>
          obtain ⟨tx, htx, kx, _⟩ := hx.ty (K := K)
          refine ⟨_, rfl, p, _, 0, x, rfl, rfl, SqT.of hp, at_zero, _, _, _, _, _, rfl, .ty _, htx, kx, _, rfl, ite2 (fun e => ?_) (fun e => ?_)⟩
          · refine none_ ?_
            cases dx with
            | str z => cases e
            | tup _ => rfl
            | lst => rfl
            | flat => rfl
          · cases dx with
            | tup _ => exact absurd rfl e
            | lst => exact absurd rfl e
            | flat => exact absurd rfl e
            | str w =>
              cases hx with
              | str hw =>
              refine ⟨_, rfl, p, _, rfl, SqT.of hp, rfl, _, _, rfl, _, _, rfl, rfl, ?_⟩
              have yes : (w = sMaybe ∨ w = sMany) → ∀ p, H p = none → Q (.ref p) (upd H p (.tup [y])) := fun c p hp => q _ _ (same_upd hp) (by
                rw [inner_pair, innerPair, if_pos c]
                exact ⟨p, [y], rfl, upd_same, .cons (hy.pers (Pers.new hp)) .nil⟩)
              refine ⟨_, rfl, rfl, _, rfl, ite2 (fun e1 => iteT ?_) (fun e1 => ?_)⟩
              · exact ⟨_, rfl, by show 1 ≤ sizeLine; decide, yes (.inl (vstr e1))⟩
              refine ⟨_, rfl, rfl, _, rfl, ite2 (fun e2 => ?_) (fun e2 => ?_)⟩
              · exact ⟨_, rfl, by show 1 ≤ sizeLine; decide, yes (.inr (vstr e2))⟩
              have no1 : ¬ (w = sMaybe ∨ w = sMany) := fun c => c.elim (vstrN e1) (vstrN e2)
              have hfl : w = sJoin ∨ w = sOr → rowFlat dy = true := fun c => by
                cases hF with
                | tup h _ => exact h _ _ rfl c
              have row : (w = sJoin ∨ w = sOr) → ∀ H', Same H H' → (rowOk w dy = true → Q y H') ∧ (¬ rowOk w dy = true → Q .non H') := fun c H' hs => ⟨fun r => q _ _ hs (by
                rw [inner_pair, innerPair, if_neg no1, if_pos ⟨c, r⟩]
                cases dy with
                | tup ds =>
                  obtain ⟨p, xs, rfl, hp, hz, hX⟩ := hy.untup
                  exact ⟨p, xs, rfl, hs _ _ hp, Rep.pers2 (Pers.same hs) hX⟩
                | str z => cases r
                | lst => cases r
                | flat => cases r), fun r => q _ _ hs (by rw [inner_pair, innerPair, if_neg no1, if_neg fun z => r z.2] <;> rfl)⟩
              refine ⟨_, rfl, rfl, _, rfl, ite2 (fun e3 => iteT ?_) (fun e3 => ?_)⟩
              · have c : w = sJoin ∨ w = sOr := .inl (vstr e3)
                refine ⟨_, rfl, _, rfl, y, w, dy, rfl, hy, hfl c, fun H' hs => ⟨_, rfl, ite2 (fun e4 => ?_) (fun e4 => ?_)⟩⟩
                · exact ⟨_, rfl, (row c H' hs).1 e4⟩
                · exact (row c H' hs).2 e4
              refine ⟨_, rfl, rfl, _, rfl, ite2 (fun e4 => ?_) (fun e4 => ?_)⟩
              · have c : w = sJoin ∨ w = sOr := .inr (vstr e4)
                refine ⟨_, rfl, _, rfl, y, w, dy, rfl, hy, hfl c, fun H' hs => ⟨_, rfl, ite2 (fun e4 => ?_) (fun e4 => ?_)⟩⟩
                · exact ⟨_, rfl, (row c H' hs).1 e4⟩
                · exact (row c H' hs).2 e4
              · refine iteF (none_ ?_)
                rw [inner_pair, innerPair, if_neg no1, if_neg fun z => z.1.elim (vstrN e3) (vstrN e4)]
def StkRep (H : Hp) (x : V) (p : D × Nat) : Prop := ∃ t y, x = .ref t ∧ H t = some (.tup [y, .int p.2]) ∧ Rep H y p.1
theorem StkRep.pers {H H' : Hp} (k : Pers H H') {x : V} {p : D × Nat} (h : StkRep H x p) : StkRep H' x p := by
  obtain ⟨t, y, rfl, h1, h2⟩ := h
  exact ⟨t, y, rfl, k.tup _ _ h1, h2.pers k⟩
theorem fl_inner {d : D} {ys : List D} (h : Fl d) (hi : inner d = some ys) : ∀ y ∈ ys, Fl y := by
  intro y hy
  unfold inner at hi
  split at hi
  · split at hi
    · cases hi; cases hy
    · cases hi
  · rename_i w z
    have hz : Fl z := by
      cases h with
      | tup _ k => exact k z (by simp)
    unfold innerPair at hi
    split at hi
    · cases hi
      rw [List.mem_singleton] at hy
      subst hy
      exact hz
    · split at hi
      · cases hz with
        | tup _ k => cases hi; exact k y hy
        | str => cases hi
        | lst => cases hi
        | flat => cases hi
      · cases hi
  · cases hi
theorem len_msr (st : List (D × Nat)) : st.length ≤ msr st := by
  induction st with
  | nil => exact Nat.le_refl _
  | cons p st ih =>
    have := size_pos p.1
    unfold msr at ih ⊢
    rw [List.map_cons, List.sum_cons, List.length_cons]
    omega
structure Loop (H : Hp) (B : Bnd) (d : D) (v : V) (b wt : Addr) (n : Nat) (st : List (D × Nat)) (a : Bnd) (σ : L2.St) (H' : Hp) : Prop where
  sl : ∃ x9 x10 x11, σ = [some v, some (.ref b), some (.int B.1), some (.int B.2.1), some (.int B.2.2), some (.int a.1), some (.int a.2.1), some (.int a.2.2), some (.ref wt), x9, x10, x11, none]
  same : Same H H'
  new : H wt = none
  stk : ∃ xs, H' wt = some (.lst xs) ∧ Two (StkRep H') xs st.reverse
  fl : ∀ p ∈ st, Fl p.1
  ms : msr st < n
  le : msr st ≤ d.size
  eq : look B n st a = sizesOf B d
abbrev N_sizes_within : List Str := ["value", "bounds", "most_places", "most_deep", "most_parts", "many_places", "deepest", "many_parts", "waiting", "part", "deep", "inner", "each"]
theorem sc_sizes_within : FnScope ["value", "bounds", "most_places", "most_deep", "most_parts", "many_places", "deepest", "many_parts", "waiting", "part", "deep", "inner", "each"] ["value", "bounds"] (defScope s_sizes_within) := ⟨rfl, rfl, rfl, by decide +kernel, rfl, by decide +kernel, by decide +kernel⟩
theorem ok_sizes {f : Addr} {fd : FuncData} (Bt : Bt K mg a_BOUNDS a_LONG_BOUNDS tL tM) (D : Df K mg "sizes_within" s_sizes_within ["value", "bounds"] f fd) (G_parts_of : Cl P w K mg base 3 "_parts_of" ["value"] spPartsOf) : FnOk P w K mg base CX0 4 f fd ["value", "bounds"] (spSizes K) := by
  refine D.F.ok sc_sizes_within (fun vs H Q E h => ?_) (fun cdv A outer s H vs Q E hr h => ?_)
  · obtain ⟨v, d, b, B, rfl, _⟩ := h
    rfl
  obtain ⟨v, d, b, ⟨b1, b2, b3⟩, rfl, hR, hF, hZ, hB, q⟩ := h
  have B := Bt
  refine ⟨_, (pss_cons (ps_asg (pv 1) (pg_tup rfl (pgs_cons (pg_name (i := 2) sc_sizes_within.nd rfl (Or.inl rfl)) (pgs_cons (pg_name (i := 3) sc_sizes_within.nd rfl (Or.inl rfl)) (pgs_cons (pg_name (i := 4) sc_sizes_within.nd rfl (Or.inl rfl)) pgs_nil)))))
    (pss_cons (ps_asg (pe_tup (pa_cons pe_int (pa_cons pe_int (pa_cons pe_int pa_nil)))) (pg_tup rfl (pgs_cons (pg_name (i := 5) sc_sizes_within.nd rfl (Or.inl rfl)) (pgs_cons (pg_name (i := 6) sc_sizes_within.nd rfl (Or.inl rfl)) (pgs_cons (pg_name (i := 7) sc_sizes_within.nd rfl (Or.inl rfl)) pgs_nil)))))
    (pss_cons (ps_set (i := 8) sc_sizes_within.nd rfl (Or.inl rfl) (pe_lst (pa_cons (pe_tup (pa_cons (pv 0) (pa_cons pe_int pa_nil))) pa_nil)))
    (pss_cons (ps_while PassesOwn.never (pt_truth (pv 8) (by intro _; rfl)) (pss_cons (ps_asg (pe_bm0 PySem.F.plainAttrs_list PySem.F.slot_list_pop PySem.F.type_list_pop mt_pop (pv 8)) (pg_tup rfl (pgs_cons (pg_name (i := 9) sc_sizes_within.nd rfl (Or.inl rfl)) (pgs_cons (pg_name (i := 10) sc_sizes_within.nd rfl (Or.inr rfl)) pgs_nil))))
    (pss_cons (ps_set (i := 11) sc_sizes_within.nd rfl (Or.inl rfl) (pe_cl G_parts_of (hr.mono (by omega)) rfl (pa_cons (pv 9) pa_nil)))
    (pss_cons (ps_if (pt_cmpR op_isN (pv 11) pe_non (nomark _)) (pss_one (ps_ret pe_non)) pss_nil)
    (C8.pss_cut (ps_if (pt_val (pe_callB call_isi rfl B.b_isinstance boot_isinstance (pa_cons (pv 9) (pa_cons (pe_bltn (v := .ty "str") rfl B.b_str boot_str rfl) pa_nil)))) (pss_one (ps_aug (i := 5) sc_sizes_within.nd rfl (Or.inl rfl) (pe_callB call_len rfl B.b_len boot_len (pa_cons (pv 9) pa_nil)) ip_add)) pss_nil)
    (pss_cons (ps_set (i := 6) sc_sizes_within.nd rfl (Or.inl rfl) (pe_callB (call_max2 rfl) rfl B.b_max boot_max (pa_cons (pv 6) (pa_cons (pv 10) pa_nil))))
    (pss_cons (ps_aug (i := 7) sc_sizes_within.nd rfl (Or.inl rfl) (pe_callB call_len rfl B.b_len boot_len (pa_cons (pv 11) pa_nil)) ip_add)
    (pss_cons (ps_if (PW.pt (pw_or (pt_cmpR op_gt (pv 5) (pv 2) (nomark _)) (pw_or (pt_cmpR op_gt (pv 6) (pv 3) (nomark _)) (pw_or1 (pt_cmpR op_gt (pv 7) (pv 4) (nomark _)))))) (pss_one (ps_ret pe_non)) pss_nil)
    (pss_one (ps_expr (pe_bm PySem.F.plainAttrs_list PySem.F.slot_list_extend PySem.F.type_list_extend mt_extend (pv 8) (pa_cons (pe_lc (own := [("each", 12)]) (g := gName 12) (tt := tYes) rfl sc_sizes_within.nd (pi_tup (pv 11)) (blkOk_by (N := N_sizes_within) (sc := defScope s_sizes_within) (by decide +kernel)) (fun _ _ _ _ _ => pg_name (i := 12) sc_sizes_within.nd rfl (Or.inl rfl)) (fun _ _ _ _ _ => pts_nil) (fun _ _ _ _ _ => (pe_tup (pa_cons (pv 12) (pa_cons (pe_op op_add (pv 10) pe_int) pa_nil))))) pa_nil))))))))))))
    (pss_one (ps_ret (pe_tup (pa_cons (pv 5) (pa_cons (pv 6) (pa_cons (pv 7) pa_nil)))))))))), ?_⟩
  refine ⟨_, rfl, b, _, rfl, hB, rfl, _, _, rfl, _, _, rfl, _, _, rfl, rfl, (by show 3 ≤ sizeLine; decide), fun t0 ht0 => ⟨t0, _, rfl, SqT.of upd_same, rfl, _, _, rfl, _, _, rfl, _, _, rfl, rfl, ?_⟩⟩
  refine ⟨_, rfl, (by show 2 ≤ sizeLine; decide), fun t ht => ⟨(by show 1 ≤ sizeLine; decide), fun wt hwt => ?_⟩⟩
  have ntw : t ≠ wt := fun e => by
    rw [← e, upd_same] at hwt
    cases hwt
  have s1 : Same H (upd (upd (upd H t0 _) t (.tup [v, .int 0])) wt (.lst [.ref t])) := (same_upd ht0).trans ((same_upd ht).trans (same_upd hwt))
  refine ⟨fun n σ' H' => ∃ st a, Loop H (b1, b2, b3) d v b wt n st a σ' H', ⟨d.size + 1, [(d, 0)], (0, 0, 1), ⟨none, none, none, rfl⟩, s1, ((same_upd ht0).trans (same_upd ht)).free hwt, ⟨_, upd_same, ?_⟩, ?_, ?_, ?_, rfl⟩, ?_⟩
  · exact .cons ⟨t, v, rfl, by rw [upd_ne ntw, upd_same] <;> rfl, hR.pers (Pers.same s1)⟩ .nil
  · intro p hp
    rw [List.mem_singleton] at hp
    subst hp
    exact hF
  · show msr [(d, 0)] < d.size + 1
    unfold msr
    simp
  · show msr [(d, 0)] ≤ d.size
    unfold msr
    simp
  rintro n σ' H' ⟨st, a, ⟨x9, x10, x11, rfl⟩, sm, new, ⟨xs, hw, hX⟩, fl, ms, le, eq⟩
  have hlX := hX.len
  refine ⟨_, rfl, _, .inl ⟨_, SqL.of hw, rfl⟩, ite2 (fun e => ?_) (fun e => ?_)⟩
  · -- a turn
    cases st with
    | nil =>
      cases xs with
      | nil => cases e
      | cons x r => cases hX
    | cons p st =>
    obtain ⟨dp, k⟩ := p
    rw [List.reverse_cons] at hX
    obtain ⟨xs', x, rfl, hX', t1, y, rfl, ht1, hy⟩ := hX.unsnoc
    cases n with
    | zero => exact absurd ms (Nat.not_lt_zero _)
    | succ n =>
    have hFd : Fl dp := fl (dp, k) (List.mem_cons_self ..)
    have nt1 : t1 ≠ wt := fun e => by
      rw [e, hw] at ht1
      cases ht1
    refine ⟨fun σ2 H2 => ∃ st a, Loop H (b1, b2, b3) d v b wt n st a σ2 H2, fun σ2 H2 h => ⟨n, Nat.lt_succ_self n, h⟩, ?_⟩
    -- part, deep = waiting.pop()
    have hpop : (xs' ++ [V.ref t1])[(xs' ++ [V.ref t1]).length - 1]? = some (.ref t1) := by
      rw [List.length_append, List.length_singleton, Nat.add_sub_cancel, List.getElem?_append_right (Nat.le_refl _), Nat.sub_self]
      rfl
    have hdrop : (xs' ++ [V.ref t1]).dropLast = xs' := List.dropLast_concat ..
    refine ⟨_, rfl, .inl ⟨rfl, _, SqL.of hw⟩, wt, _, _, rfl, rfl, hw, hpop, t1, _, rfl, SqT.of (by rw [upd_ne nt1]; exact ht1), rfl, _, _, rfl, _, _, rfl, rfl, ?_⟩
    rw [hdrop]
    have P1 : Pers H' (upd H' wt (.lst xs')) := Pers.store hw
    -- inner = _parts_of(part)
    refine ⟨_, rfl, y, dp, rfl, hy.pers P1, hFd, fun r H2 s2 hr2 => ?_⟩
    have P2 : Pers H' H2 := P1.trans (Pers.same s2)
    have hw2 : H2 wt = some (.lst xs') := s2 _ _ upd_same
    have sm2 : Same H H2 := fun b o e => s2 _ _ (by rw [upd_ne (ne_of_none e new)]; exact sm b o e)
    have lk : look (b1, b2, b3) (n + 1) ((dp, k) :: st) a = (match inner dp with | none => none | some ys => if within (b1, b2, b3) (a.1 + places1 dp, max a.2.1 k, a.2.2 + ys.length) = true then look (b1, b2, b3) n ((ys.map fun y => (y, k + 1)).reverse ++ st) (a.1 + places1 dp, max a.2.1 k, a.2.2 + ys.length) else none) := rfl
    rw [eq] at lk
    cases hi : inner dp with
    | none =>
      rw [hi] at lk hr2
      have hr3 : r = .non := hr2
      subst hr3
      refine ⟨_, rfl, rfl, _, rfl, iteT (q _ _ sm2 ?_)⟩
      rw [lk]
      rfl
    | some ys =>
      rw [hi] at lk hr2
      obtain ⟨p, vs, rfl, hp, hV⟩ := hr2
      have hl := hV.len
      have hsz := inner_size hi
      have mst : msr ((dp, k) :: st) = dp.size + msr st := by
        unfold msr
        rw [List.map_cons, List.sum_cons]
      refine ⟨_, rfl, rfl, _, rfl, iteF ?_⟩
      -- if isinstance(part, str): many_places += len(part)
      obtain ⟨ty, hty, k1, _⟩ := (hy.pers P2).ty (K := K)
      refine ⟨fun σ3 H3 => σ3 = [some v, some (.ref b), some (.int b1), some (.int b2), some (.int b3), some (.int ((a.1 + places1 dp : Nat) : Int)), some (.int a.2.1), some (.int a.2.2), some (.ref wt), some y, some (.int k), some (.ref p), none] ∧ H3 = H2, ?_, ?_⟩
      · refine ⟨_, rfl, _, _, _, _, _, rfl, .ty _, hty, k1, _, rfl, ite2 (fun e => ?_) (fun e => ?_)⟩
        · cases dp with
          | str z =>
            cases hy with
            | str hz => exact ⟨_, rfl, _, rfl, _, _, rfl, ⟨Nat.le_trans hz (by decide), rfl⟩, _, _, rfl, rfl, rfl, rfl⟩
          | tup _ => cases e
          | lst => cases e
          | flat => cases e
        · cases dp with
          | str z => exact absurd rfl e
          | tup _ => exact ⟨rfl, rfl⟩
          | lst => exact ⟨rfl, rfl⟩
          | flat => exact ⟨rfl, rfl⟩
      rintro σ3 H3 ⟨rfl, rfl⟩
      -- deepest = max(deepest, deep); many_parts += len(inner)
      refine ⟨_, rfl, _, rfl, _, _, rfl, ?_⟩
      have emax : (if (k : Int) > (a.2.1 : Int) then (k : Int) else (a.2.1 : Int)) = ((max a.2.1 k : Nat) : Int) := by
        split <;> omega
      rw [emax]
      refine ⟨_, rfl, _, rfl, _, ys.length, rfl, .inr ⟨_, SqT.of hp, hl.symm⟩, _, _, rfl, rfl, ?_⟩
      have bad : ¬ within (b1, b2, b3) (a.1 + places1 dp, max a.2.1 k, a.2.2 + ys.length) = true → Q .non H3 := fun c => q _ _ sm2 (by
        rw [lk]
        show SizeR H3 .non (if within (b1, b2, b3) (a.1 + places1 dp, max a.2.1 k, a.2.2 + ys.length) = true then _ else none)
        rw [if_neg c]
        rfl)
      refine ⟨_, rfl, _, rfl, _, _, rfl, rfl, _, rfl, ite2 (fun e1 => ?_) (fun e1 => ?_)⟩
      · refine iteT (bad fun c => ?_)
        have := (within_iff.mp c).1
        have e2 : ((b1 : Nat) : Int) < ((a.1 + places1 dp : Nat) : Int) := of_decide_eq_true e1
        have e3 : a.1 + places1 dp ≤ b1 := this
        omega
      refine ⟨_, rfl, _, rfl, _, _, rfl, rfl, _, rfl, ite2 (fun e2 => ?_) (fun e2 => ?_)⟩
      · refine iteT (bad fun c => ?_)
        have e3 : max a.2.1 k ≤ b2 := (within_iff.mp c).2.1
        have e4 : ((b2 : Nat) : Int) < ((max a.2.1 k : Nat) : Int) := of_decide_eq_true e2
        omega
      refine ⟨_, rfl, _, rfl, _, _, rfl, rfl, _, rfl, ite2 (fun e3 => ?_) (fun e3 => ?_)⟩
      · refine bad fun c => ?_
        have e4 : a.2.2 + ys.length ≤ b3 := (within_iff.mp c).2.2
        have e5 : ((b3 : Nat) : Int) < ((a.2.2 + ys.length : Nat) : Int) := of_decide_eq_true e3
        omega
      have win : within (b1, b2, b3) (a.1 + places1 dp, max a.2.1 k, a.2.2 + ys.length) = true := by
        refine within_iff.mpr ⟨?_, ?_, ?_⟩
        · have e4 : ¬ ((b1 : Nat) : Int) < ((a.1 + places1 dp : Nat) : Int) := fun h => e1 (decide_eq_true h)
          show a.1 + places1 dp ≤ b1
          omega
        · have e4 : ¬ ((b2 : Nat) : Int) < ((max a.2.1 k : Nat) : Int) := fun h => e2 (decide_eq_true h)
          show max a.2.1 k ≤ b2
          omega
        · have e4 : ¬ ((b3 : Nat) : Int) < ((a.2.2 + ys.length : Nat) : Int) := fun h => e3 (decide_eq_true h)
          show a.2.2 + ys.length ≤ b3
          omega
      have lk2 : look (b1, b2, b3) n ((ys.map fun y => (y, k + 1)).reverse ++ st) (a.1 + places1 dp, max a.2.1 k, a.2.2 + ys.length) = sizesOf (b1, b2, b3) d := by
        have lk3 : sizesOf (b1, b2, b3) d = (if within (b1, b2, b3) (a.1 + places1 dp, max a.2.1 k, a.2.2 + ys.length) = true then look (b1, b2, b3) n ((ys.map fun y => (y, k + 1)).reverse ++ st) (a.1 + places1 dp, max a.2.1 k, a.2.2 + ys.length) else none) := lk
        rw [if_pos win] at lk3
        exact lk3.symm
      have ms2 := msr_step (k := k) (st := st) hi
      have lsz : ys.length ≤ (ys.map My.D.size).sum := by
        have := len_msr (ys.map fun y => (y, k + 1))
        unfold msr at this
        rw [List.length_map, List.map_map] at this
        exact this
      -- waiting.extend([(each, deep + 1) for each in inner])
      refine ⟨_, rfl, .inl ⟨rfl, _, SqL.of hw2⟩, _, rfl, p, rfl, ⟨_, SqT.of hp⟩, fun L hL => ?_⟩
      have nL : wt ≠ L := ne_of_none hw2 hL
      refine lc_tup (K := K) (a := p) (xs := vs) (fun i H4 => Same H3 H4 ∧ ∃ zs, H4 L = some (.lst zs) ∧ Two (StkRep H4) zs ((ys.take i).map fun y => (y, k + 1))) ⟨same_upd hL, [], upd_same, .nil⟩ (fun i H4 _ h => SqT.of (h.1 _ _ hp)) (fun i x H4 hx h => ?_) (fun H4 h => ?_)
      · obtain ⟨h1, zs, h2, h3⟩ := h
        obtain ⟨dy, hd, hxd⟩ := hV.get hx
        have hlz := h3.len
        rw [List.length_map, List.length_take] at hlz
        refine ⟨rfl, tyes ⟨_, rfl, _, rfl, _, _, rfl, rfl, (by show 2 ≤ sizeLine; decide), fun t ht => ⟨zs, ?_, ?_, ?_, ?_⟩⟩⟩
        · rw [upd_ne (ne_of_none h2 ht)]
          exact h2
        · have : zs.length ≤ 1000000 := by omega
          exact Nat.lt_of_le_of_lt this (by decide)
        · intro b o e
          rw [upd_ne (ne_of_none e hL), upd_ne (ne_of_none (h1 _ _ e) ht)]
          exact h1 _ _ e
        · refine ⟨_, upd_same, ?_⟩
          have P4 : Pers H4 (upd (upd H4 t (.tup [x, .int ((k : Int) + 1)])) L (.lst (zs ++ [.ref t]))) := (Pers.new ht).trans (Pers.store (by rw [upd_ne (ne_of_none h2 ht)]; exact h2))
          rw [List.take_add_one, hd, List.map_append]
          refine (h3.mono fun _ _ => StkRep.pers P4).app (.cons ⟨t, x, rfl, ?_, hxd.pers ((Pers.same h1).trans P4)⟩ .nil)
          have nt : t ≠ L := fun e => by
            rw [e] at ht
            rw [h2] at ht
            cases ht
          rw [upd_ne nt, upd_same]
          rfl
      · obtain ⟨h1, zs, h2, h3⟩ := h
        rw [hl, List.take_length] at h3
        have hlz := h3.len
        rw [List.length_map] at hlz
        have hw4 := h1 _ _ hw2
        have hlx := hX'.len
        have lst := len_msr st
        rw [List.length_reverse] at hlx
        refine ⟨wt, L, _, _, rfl, rfl, hw4, h2, ?_, ?_⟩
        · have : xs'.length + zs.length ≤ 1000000 := by omega
          exact Nat.le_trans this (by decide)
        · have P4 : Pers H4 (upd H4 wt (.lst (xs' ++ zs))) := Pers.store hw4
          refine ⟨_, _, ⟨_, _, _, rfl⟩, fun b o e => by rw [upd_ne (ne_of_none e new)]; exact h1 _ _ (sm2 b o e), new, ⟨_, upd_same, ?_⟩, ?_, ?_, ?_, lk2⟩
          · rw [List.reverse_append, List.reverse_reverse]
            exact (hX'.mono fun _ _ => StkRep.pers (P2.trans ((Pers.same h1).trans P4))).app (h3.mono fun _ _ => StkRep.pers P4)
          · intro q hq
            rcases List.mem_append.mp hq with hq | hq
            · rw [List.mem_reverse, List.mem_map] at hq
              obtain ⟨y, hy, rfl⟩ := hq
              exact fl_inner hFd hi y hy
            · exact fl q (List.mem_cons_of_mem _ hq)
          · omega
          · omega
  · -- the end
    have e1 : st = [] := by
      cases xs with
      | nil =>
        have : st.reverse.length = 0 := hlX.symm
        rw [List.length_reverse] at this
        exact List.eq_nil_of_length_eq_zero this
      | cons x r => exact absurd rfl e
    subst e1
    have e2 : sizesOf (b1, b2, b3) d = some a := by
      cases n with
      | zero => exact absurd ms (Nat.not_lt_zero _)
      | succ n => exact eq.symm
    refine ⟨_, rfl, _, rfl, _, rfl, (by show 3 ≤ sizeLine; decide), fun p hp => q _ _ (sm.trans (same_upd hp)) ?_⟩
    rw [e2]
    exact ⟨p, rfl, upd_same⟩
abbrev N_is_long : List Str := ["value"]
theorem sc_is_long : FnScope ["value"] ["value"] (defScope s_is_long) := ⟨rfl, rfl, rfl, by decide +kernel, rfl, by decide +kernel, by decide +kernel⟩
theorem ok_islong {f : Addr} {fd : FuncData} (B : Bt K mg a_BOUNDS a_LONG_BOUNDS tL tM) (D : Df K mg "is_long" s_is_long ["value"] f fd) (Gsizes_within : Cl P w K mg base 4 "sizes_within" ["value", "bounds"] (spSizes K)) : FnOk P w K mg base CX0 5 f fd ["value"] (spIs (40, 40, 200)) := by
  refine D.F.ok sc_is_long (fun vs H Q E h => ?_) (fun cdv A outer s H vs Q E hr h => ?_)
  · obtain ⟨v, d, rfl, _⟩ := h
    rfl
  obtain ⟨v, d, rfl, hR, hF, hZ, q⟩ := h
  refine ⟨_, (pss_one (ps_ret (pe_cmpR op_notN (pe_cl Gsizes_within (hr.mono (by omega)) rfl (pa_cons (pv 0) (pa_cons (pe_glob (v := .ref a_LONG_BOUNDS) rfl B.g_LONG_BOUNDS rfl) pa_nil))) pe_non (nomark _)))), ?_⟩
  refine ⟨_, rfl, v, d, a_LONG_BOUNDS, (40, 40, 200), rfl, hR, hF, hZ, B.tG _, fun r H' hs hr2 => ⟨rfl, ?_⟩⟩
  have e : (!decide (r = V.non)) = (sizesOf (40, 40, 200) d).isSome := by
    cases h : sizesOf (40, 40, 200) d with
    | none =>
      rw [h] at hr2
      have : r = .non := hr2
      subst this
      rfl
    | some a =>
      rw [h] at hr2
      obtain ⟨p, rfl, _⟩ := hr2
      rfl
  rw [e]
  exact q _ hs
def isTextD (m : Nat) : My.D → Bool
  | .str z => decide (z.length ≤ m) && z.cps.toList.all (fun c => decide (c ∈ (Str.ofString "abcd").cps.toList))
  | _ => false
def isWord (d : My.D) : Bool := isTextD 24 d
def spIsText : Sp := fun vs H Q _ => ∃ (v : V) (d : My.D) (m : Nat), vs = [v, .int m] ∧ Rep H v d ∧ ∀ H', Same H H' → Q (.bl (isTextD m d)) H'
def spIsWord : Sp := fun vs H Q _ => ∃ (v : V) (d : My.D), vs = [v] ∧ Rep H v d ∧ ∀ H', Same H H' → Q (.bl (isWord d)) H'
abbrev N_is_text : List Str := ["value", "most", "letter"]
theorem sc_is_text : FnScope ["value", "most", "letter"] ["value", "most"] (defScope s_is_text) := ⟨rfl, rfl, rfl, by decide +kernel, rfl, by decide +kernel, by decide +kernel⟩
theorem ok_istext {f : Addr} {fd : FuncData} (B : Bt K mg a_BOUNDS a_LONG_BOUNDS tL tM) (D : Df K mg "is_text" s_is_text ["value", "most"] f fd) : FnOk P w K mg base CX0 1 f fd ["value", "most"] spIsText := by
  refine D.F.ok sc_is_text (fun vs H Q E h => ?_) (fun cdv A outer s H vs Q E hr h => ?_)
  · obtain ⟨v, d, m, rfl, _⟩ := h
    rfl
  obtain ⟨v, d, m, rfl, hR, q⟩ := h
  refine ⟨_, (pss_cons (ps_if (PW.pt (pw_or (pt_not (pt_val (pe_callB call_isi rfl B.b_isinstance boot_isinstance (pa_cons (pv 0) (pa_cons (pe_bltn (v := .ty "str") rfl B.b_str boot_str rfl) pa_nil))))) (pw_or1 (PW.pt (pw_and (pt_cmpR op_notN (pv 1) pe_non (nomark _)) (pw_and1 (pt_cmpR op_gt (pe_callB call_len rfl B.b_len boot_len (pa_cons (pv 0) pa_nil)) (pv 1) (nomark _)))))))) (pss_one (ps_ret pe_bl)) pss_nil)
    (pss_one (ps_ret (pe_callB (cr_all rfl) rfl B.b_all boot_all (pa_cons (pe_lc (own := [("letter", 2)]) (g := gName 2) (tt := tYes) rfl sc_is_text.nd (pi_str (pv 0)) (blkOk_by (N := N_is_text) (sc := defScope s_is_text) (by decide +kernel)) (fun _ _ _ _ _ => pg_name (i := 2) sc_is_text.nd rfl (Or.inl rfl)) (fun _ _ _ _ _ => pts_nil) (fun _ _ _ _ _ => (pe_cmpR op_in_sign (pv 2) (pe_glob (v := .str "abcd") rfl B.g_LETTERS ⟨_, rfl⟩) rfl))) pa_nil))))), ?_⟩
  obtain ⟨t, ht, k1, _⟩ := hR.ty (K := K)
  refine ⟨_, rfl, _, _, _, _, _, rfl, .ty _, ht, k1, _, rfl, ite2 (fun e => iteT ?_) (fun e => ?_)⟩
  · cases d with
    | str z => cases e
    | tup _ => exact q _ (Same.refl _)
    | lst => exact q _ (Same.refl _)
    | flat => exact q _ (Same.refl _)
  · cases d with
    | tup _ => exact absurd rfl e
    | lst => exact absurd rfl e
    | flat => exact absurd rfl e
    | str z =>
      cases hR with
      | str hz =>
      refine ⟨_, rfl, rfl, _, rfl, iteT ?_⟩
      refine ⟨_, rfl, _, _, rfl, ⟨Nat.le_trans hz (by decide), rfl⟩, _, rfl, _, _, rfl, rfl, _, rfl, ite2 (fun e => ?_) (fun e => ?_)⟩
      · have e1 : ((m : Nat) : Int) < (z.length : Int) := of_decide_eq_true e
        have e2 : isTextD m (.str z) = false := by
          show (decide (z.length ≤ m) && _) = false
          rw [decide_eq_false (by omega)]
          rfl
        rw [e2] at q
        exact q _ (Same.refl _)
      · have e1 : ¬ ((m : Nat) : Int) < (z.length : Int) := fun h => e (decide_eq_true h)
        have e2 : isTextD m (.str z) = z.cps.toList.all (fun c => decide (c ∈ (Str.ofString "abcd").cps.toList)) := by
          show (decide (z.length ≤ m) && z.cps.toList.all (fun c => decide (c ∈ (Str.ofString "abcd").cps.toList))) = _
          rw [decide_eq_true (by omega)]
          rfl
        rw [e2] at q
        refine ⟨_, rfl, z, rfl, fun L hL => ?_⟩
        refine lc_str (z := z) (fun i H' => Same H H' ∧ H' L = some (.lst (((z.cps.toList.take i).map fun c => decide (c ∈ (Str.ofString "abcd").cps.toList)).map V.bl))) ⟨same_upd hL, upd_same⟩ (fun i c H' hc h => ?_) (fun H' h => ?_)
        · have hc' : z.cps.toList[i]? = some c := by simpa using hc
          refine ⟨rfl, tyes ⟨_, rfl, c, _, rfl, rfl, _, h.2, ?_, ?_, ?_⟩⟩
          · rw [List.length_map, List.length_map, List.length_take, Array.length_toList]
            have : z.cps.size ≤ 1000 := hz
            exact Nat.lt_of_le_of_lt (Nat.min_le_right _ _) (Nat.lt_of_le_of_lt this (by decide))
          · exact fun b o e => by rw [upd_ne (ne_of_none e hL)]; exact h.1 b o e
          · rw [upd_same, List.take_add_one, hc', List.map_append, List.map_append]
            rfl
        · obtain ⟨h1, h2⟩ := h
          rw [← Array.length_toList, List.take_length] at h2
          refine ⟨L, _, rfl, SqL.of h2, ?_⟩
          have e3 : ((z.cps.toList.map fun c => decide (c ∈ (Str.ofString "abcd").cps.toList)).any id) = (z.cps.toList.any fun c => decide (c ∈ (Str.ofString "abcd").cps.toList)) := by
            rw [List.any_map]
            rfl
          have e4 : ((z.cps.toList.map fun c => decide (c ∈ (Str.ofString "abcd").cps.toList)).all id) = (z.cps.toList.all fun c => decide (c ∈ (Str.ofString "abcd").cps.toList)) := by
            rw [List.all_map]
            rfl
          rw [e4]
          exact q _ h1
abbrev N_is_word : List Str := ["value"]
theorem sc_is_word : FnScope ["value"] ["value"] (defScope s_is_word) := ⟨rfl, rfl, rfl, by decide +kernel, rfl, by decide +kernel, by decide +kernel⟩
theorem ok_isword {f : Addr} {fd : FuncData} (B : Bt K mg a_BOUNDS a_LONG_BOUNDS tL tM) (D : Df K mg "is_word" s_is_word ["value"] f fd) (Gis_text : Cl P w K mg base 1 "is_text" ["value", "most"] spIsText) : FnOk P w K mg base CX0 2 f fd ["value"] spIsWord := by
  refine D.F.ok sc_is_word (fun vs H Q E h => ?_) (fun cdv A outer s H vs Q E hr h => ?_)
  · obtain ⟨v, d, rfl, _⟩ := h
    rfl
  obtain ⟨v, d, rfl, hR, q⟩ := h
  refine ⟨_, (pss_one (ps_ret (pe_cl Gis_text (hr.mono (by omega)) rfl (pa_cons (pv 0) (pa_cons (pe_glob (v := .int 24) rfl B.g_MOST_LETTERS ⟨_, rfl⟩) pa_nil))))), ?_⟩
  exact ⟨_, rfl, v, d, 24, rfl, hR, q⟩
end
end My
namespace My
open PySem PySem.Spec PyProof.Rows L2
def spCheck : Sp := fun vs H Q _ => ∃ (v : V) (d : My.D), vs = [v] ∧ Rep H v d ∧ Fl d ∧ d.size ≤ 1000000 ∧ (sizesOf (40, 40, 200) d).isSome = true ∧ ∀ H', Same H H' → Q .non H'
section
variable {P : Program} {w : World} {K : PySem.W.Frag} {mg : Str → Option Value} {base : Heap} {a_BOUNDS a_LONG_BOUNDS : Addr} {tL tM : Tok}
/-- what stands at an expression that is no letter -/
theorem node_of {H : Hp} {v : V} {e : E} (hok : e.ok = true) (hR : Rep H v e.toD) (hs : ¬ isStr e.toD = true) : ∃ (w : Str) (y : My.D) (p : Addr) (x : V), w.length ≤ 1000 ∧ v = .ref p ∧ H p = some (.tup [.str w, x]) ∧ Rep H x y ∧
    (((w = sMaybe ∧ ∃ k, e = .maybe k ∧ y = k.toD) ∨ (w = sMany ∧ ∃ k, e = .many k ∧ y = k.toD)) ∨ ((w = sJoin ∧ ∃ es, e = .join es ∧ 2 ≤ es.length ∧ y = .tup (es.map E.toD)) ∨ (w = sOr ∧ ∃ es, e = .alt es ∧ 2 ≤ es.length ∧ y = .tup (es.map E.toD)))) := by
  have two : ∀ (w : Str) (y : My.D), e.toD = .tup [.str w, y] → ∃ p x, w.length ≤ 1000 ∧ v = .ref p ∧ H p = some (.tup [.str w, x]) ∧ Rep H x y := fun w y c => by
    rw [c] at hR
    obtain ⟨p, xs, rfl, hp, hz, hX⟩ := hR.untup
    match xs, hX with
    | [_, x], .cons (.str h) (.cons hx .nil) => exact ⟨p, x, h, rfl, hp, hx⟩
  cases e with
  | eps => exact absurd (by rw [E.toD]; rfl) hs
  | sym c => exact absurd (by rw [E.toD]; rfl) hs
  | maybe k =>
    obtain ⟨p, x, h0, h1, h2, h3⟩ := two sMaybe k.toD (by rw [E.toD])
    exact ⟨_, _, p, x, h0, h1, h2, h3, .inl (.inl ⟨rfl, k, rfl, rfl⟩)⟩
  | many k =>
    obtain ⟨p, x, h0, h1, h2, h3⟩ := two sMany k.toD (by rw [E.toD])
    exact ⟨_, _, p, x, h0, h1, h2, h3, .inl (.inr ⟨rfl, k, rfl, rfl⟩)⟩
  | join es =>
    rw [E.ok, oks_eq] at hok
    simp only [Bool.and_eq_true, decide_eq_true_eq] at hok
    obtain ⟨p, x, h0, h1, h2, h3⟩ := two sJoin (.tup (es.map E.toD)) (by rw [E.toD, toDs_eq])
    exact ⟨_, _, p, x, h0, h1, h2, h3, .inr (.inl ⟨rfl, es, rfl, hok.1.1, rfl⟩)⟩
  | alt es =>
    rw [E.ok, oks_eq] at hok
    simp only [Bool.and_eq_true, decide_eq_true_eq] at hok
    obtain ⟨p, x, h0, h1, h2, h3⟩ := two sOr (.tup (es.map E.toD)) (by rw [E.toD, toDs_eq])
    exact ⟨_, _, p, x, h0, h1, h2, h3, .inr (.inr ⟨rfl, es, rfl, hok.1.1, rfl⟩)⟩
abbrev N_check_long : List Str := ["value"]
theorem sc_check_long : FnScope ["value"] ["value"] (defScope s_check_long) := ⟨rfl, rfl, rfl, by decide +kernel, rfl, by decide +kernel, by decide +kernel⟩
theorem ok_checklong {f : Addr} {fd : FuncData} (B : Bt K mg a_BOUNDS a_LONG_BOUNDS tL tM) (Dd : Df K mg "check_long" s_check_long ["value"] f fd) (Gis_long : Cl P w K mg base 5 "is_long" ["value"] (spIs (40, 40, 200))) : FnOk P w K mg base CX0 6 f fd ["value"] spCheck := by
  refine Dd.F.ok sc_check_long (fun vs H Q Ex h => ?_) (fun cdv A outer s H vs Q Ex hr h => ?_)
  · obtain ⟨v, d, rfl, _⟩ := h
    rfl
  obtain ⟨v, d, rfl, hR, hF, hz, hs, q⟩ := h
  refine ⟨_, (pss_one (ps_if (pt_not (pt_val (pe_cl Gis_long (hr.mono (by omega)) rfl (pa_cons (pv 0) pa_nil)))) (pss_one ps_never) pss_nil)), ?_⟩
  refine ⟨_, rfl, v, d, rfl, hR, hF, hz, fun H1 s1 => ?_⟩
  rw [hs]
  exact ⟨_, rfl, iteF (q H1 s1)⟩
end
end My
namespace My
open PySem PySem.Spec PyProof.Rows L2
def natsV (xs : List Nat) : List V := xs.map fun (i : Nat) => V.int (i : Int)
def LetAt (H : Hp) (la : Addr) (cs : List Nat) : Prop := H la = some (.lst (cs.map fun c => V.str ⟨#[c]⟩))
abbrev Rl := Nat → Nat → Prop
structure RowsAt (H0 H : Hp) (ra : Addr) (n : Nat) (F : Rl) : Prop where
  ex : ∃ ds : List Addr, H ra = some (.lst (ds.map V.ref)) ∧ ds.length = n ∧ ds.Nodup ∧ ∀ i d, ds[i]? = some d → ∃ ms : List Int, H d = some (.dK (keysD ms)) ∧ ms.Nodup ∧ ∀ x, x ∈ ms ↔ ∃ j : Nat, x = (j : Int) ∧ F i j
  bd : ∀ i j, F i j → j < 40
  dm : ∀ i j, F i j → i < n
  nw : ∀ ds : List Addr, H ra = some (.lst (ds.map V.ref)) → ∀ d ∈ ds, H0 d = none
/-- all but the two lists and the dicts is as it was -/
def Fr (la ra : Addr) (H H' : Hp) : Prop := ∀ b o, H b = some o → b ≠ la → b ≠ ra → (∀ kvs, o ≠ .dK kvs) → H' b = some o
theorem Fr.refl (la ra : Addr) (H : Hp) : Fr la ra H H := fun _ _ h _ _ _ => h
theorem Fr.trans {la ra : Addr} {H H1 H2 : Hp} (x : Fr la ra H H1) (y : Fr la ra H1 H2) : Fr la ra H H2 := fun b o h h1 h2 h3 => y b o (x b o h h1 h2 h3) h1 h2 h3
theorem Fr.same {la ra : Addr} {H H' : Hp} (s : Same H H') : Fr la ra H H' := fun b o h _ _ _ => s b o h
theorem RowsAt.eqv {H0 H : Hp} {ra : Addr} {n : Nat} {F F' : Rl} (h : RowsAt H0 H ra n F) (e : ∀ i j, F i j ↔ F' i j) : RowsAt H0 H ra n F' where
  ex := by
    obtain ⟨ds, h1, h2, h3, h4⟩ := h.ex
    refine ⟨ds, h1, h2, h3, fun i d hd => ?_⟩
    obtain ⟨ms, a, b, c⟩ := h4 i d hd
    exact ⟨ms, a, b, fun x => (c x).trans (exists_congr fun j => and_congr_right fun _ => e i j)⟩
  bd i j hf := h.bd i j ((e i j).mpr hf)
  dm i j hf := h.dm i j ((e i j).mpr hf)
  nw := h.nw
theorem RowsAt.same {H0 H H' : Hp} {ra : Addr} {n : Nat} {F : Rl} (h : RowsAt H0 H ra n F) (s : Same H H') : RowsAt H0 H' ra n F where
  ex := by
    obtain ⟨ds, h1, h2, h3, h4⟩ := h.ex
    refine ⟨ds, s _ _ h1, h2, h3, fun i d hd => ?_⟩
    obtain ⟨ms, a, b⟩ := h4 i d hd
    exact ⟨ms, s _ _ a, b⟩
  bd := h.bd
  dm := h.dm
  nw ds hds := by
    obtain ⟨ds', h1, _⟩ := h.ex
    have e := (s _ _ h1).symm.trans hds
    refine h.nw ds ?_
    rw [h1, Option.some.inj e]
theorem keysD_ne {ms : List Int} {H : Hp} {d b : Addr} (h : H d = some (.dK (keysD ms))) {o : HO} (hb : H b = some o) (n : ∀ kvs, o ≠ .dK kvs) : b ≠ d := fun e => by
  rw [e, h] at hb
  cases hb
  exact n _ rfl
/-- one more key in one row -/
theorem RowsAt.put {H0 H : Hp} {ra : Addr} {n : Nat} {F : Rl} (h : RowsAt H0 H ra n F) {i j : Nat} (hi : i < n) (hj : j < 40) : ∃ (ds : List Addr) (d : Addr) (ms : List Int), H ra = some (.lst (ds.map V.ref)) ∧ ds[i]? = some d ∧ H d = some (.dK (keysD ms)) ∧ (keysD ms).length < sizeLine ∧
    RowsAt H0 (upd H d (.dK (putK (keysD ms) (Sum.inl (j : Int) : Key) (V.bl true)))) ra n (fun a b => F a b ∨ (a = i ∧ b = j)) ∧ (∀ b o, H b = some o → (∀ kvs, o ≠ .dK kvs) → (upd H d (.dK (putK (keysD ms) (Sum.inl (j : Int) : Key) (V.bl true)))) b = some o) ∧ H0 d = none := by
  obtain ⟨ds, h1, h2, h3, h4⟩ := h.ex
  have hd : ds[i]? = some ds[i] := List.getElem?_eq_getElem (by omega)
  obtain ⟨ms, a, b, c⟩ := h4 i _ hd
  have hlen : ms.length ≤ 40 := nodup_len 40 ms b fun x hx => by
    obtain ⟨j', rfl, hf⟩ := (c x).mp hx
    have := h.bd i j' hf
    omega
  refine ⟨ds, ds[i], ms, h1, hd, a, by rw [keysD_len]; exact Nat.lt_of_le_of_lt hlen (by decide), ⟨⟨ds, ?_, h2, h3, fun i' d' hd' => ?_⟩, fun i' j' hf => ?_, fun i' j' hf => ?_, fun ds2 hds2 => ?_⟩, fun b' o hb hn => ?_, h.nw ds h1 _ (List.getElem_mem _)⟩
  · rw [upd_ne (keysD_ne a h1 fun kvs e => by cases e)]
    exact h1
  · by_cases e : i' = i
    · subst e
      have e2 : d' = ds[i'] := Option.some.inj (hd'.symm.trans hd)
      subst e2
      refine ⟨addK ms j, by rw [upd_same, putK_keys]; rfl, nodup_addK b, fun x => ?_⟩
      rw [mem_addK, c]
      constructor
      · rintro (⟨j', rfl, hf⟩ | rfl)
        · exact ⟨j', rfl, .inl hf⟩
        · exact ⟨j, rfl, .inr ⟨rfl, rfl⟩⟩
      · rintro ⟨j', rfl, hf | ⟨_, rfl⟩⟩
        · exact .inl ⟨j', rfl, hf⟩
        · exact .inr rfl
    · have n' : d' ≠ ds[i] := fun z => e (nd_ix h3 hd' (by rw [z]; exact hd))
      obtain ⟨ms', a', b', c'⟩ := h4 i' d' hd'
      refine ⟨ms', by rw [upd_ne n']; exact a', b', fun x => (c' x).trans ?_⟩
      constructor
      · rintro ⟨j', rfl, hf⟩
        exact ⟨j', rfl, .inl hf⟩
      · rintro ⟨j', rfl, hf | ⟨z, _⟩⟩
        · exact ⟨j', rfl, hf⟩
        · exact absurd z e
  · rcases hf with hf | ⟨_, rfl⟩
    · exact h.bd i' j' hf
    · exact hj
  · rcases hf with hf | ⟨rfl, _⟩
    · exact h.dm i' j' hf
    · exact hi
  · rw [upd_ne (keysD_ne a h1 fun kvs e => by cases e)] at hds2
    exact h.nw ds2 hds2
  · rw [upd_ne (keysD_ne a hb hn)]
    exact hb
def spLink (K : PySem.W.Frag) : Sp := fun vs H Q _ => ∃ (H0 : Hp) (ra f g : Addr) (n : Nat) (F : Rl) (xs ys : List Nat), vs = [.ref ra, .ref f, .ref g] ∧ RowsAt H0 H ra n F ∧ H f = some (.lst (natsV xs)) ∧ H g = some (.lst (natsV ys)) ∧ (∀ i ∈ xs, i < n) ∧ (∀ j ∈ ys, j < 40) ∧
  ∀ H', (∀ b o, H b = some o → (∀ kvs, o ≠ .dK kvs) → H' b = some o) → (∀ b o, H0 b = some o → H b = some o → H' b = some o) → RowsAt H0 H' ra n (fun i j => F i j ∨ (i ∈ xs ∧ j ∈ ys)) → Q .non H'
theorem mem_take_nat {xs : List Nat} {i z : Nat} (h : xs[i]? = some z) (x : Nat) : x ∈ xs.take (i + 1) ↔ x ∈ xs.take i ∨ x = z := by
  rw [take_snoc h, List.mem_append, List.mem_singleton]
section
variable {P : Program} {w : World} {K : PySem.W.Frag} {mg : Str → Option Value} {base : Heap} {a_BOUNDS a_LONG_BOUNDS : Addr} {tL tM : Tok}
abbrev N__link : List Str := ["rows", "ends", "begins", "end", "begin"]
theorem sc__link : FnScope ["rows", "ends", "begins", "end", "begin"] ["rows", "ends", "begins"] (defScope s__link) := ⟨rfl, rfl, rfl, by decide +kernel, rfl, by decide +kernel, by decide +kernel⟩
theorem ok_link {f : Addr} {fd : FuncData} (B : Bt K mg a_BOUNDS a_LONG_BOUNDS tL tM) (Dd : Df K mg "_link" s__link ["rows", "ends", "begins"] f fd) : FnOk P w K mg base CX0 1 f fd ["rows", "ends", "begins"] (spLink K) := by
  refine Dd.F.ok sc__link (fun vs H Q Ex h => ?_) (fun cdv A outer s H vs Q Ex hr h => ?_)
  · obtain ⟨H0, ra, f, g, n, F, xs, ys, rfl, _⟩ := h
    rfl
  obtain ⟨H0, ra, fa, ga, n, F, xs, ys, rfl, hRw, hF, hG, hx, hy, q⟩ := h
  refine ⟨_, (pss_one (ps_for PassesOwn.never rfl (pi_list (pv 1)) (pg_name (i := 3) sc__link.nd rfl (Or.inl rfl)) (pss_one (ps_for PassesOwn.never rfl (pi_list (pv 2)) (pg_name (i := 4) sc__link.nd rfl (Or.inl rfl)) (pss_one (ps_dput (hu_of hr) (pe_ix (r := rIxL K) ix_list (pv 0) (pv 3) (fun _ _ => rfl)) (pv 4) pe_bl rfl)))))), ?_⟩
  have nd : ∀ (xs : List V) kvs, HO.lst xs ≠ .dK kvs := fun _ _ e => by cases e
  refine ⟨_, rfl, fa, rfl, ⟨_, SqL.of hF⟩, for_list (K := K) (a := fa) (xs := natsV xs) (fun i σ' H' => ∃ o1 o2 : Option V, σ' = [some (.ref ra), some (.ref fa), some (.ref ga), o1, o2] ∧ (∀ b o, H b = some o → (∀ kvs, o ≠ .dK kvs) → H' b = some o) ∧ (∀ b o, H0 b = some o → H b = some o → H' b = some o) ∧ RowsAt H0 H' ra n (fun a b => F a b ∨ (a ∈ xs.take i ∧ b ∈ ys)))
    ⟨none, none, rfl, fun b o h _ => h, fun b o _ h => h, hRw.eqv fun i j => by simp⟩ (fun i σ' H' _ h => ?_) (fun i y σ' H' hi h => ?_) (fun σ' H' h => ?_)⟩
  · obtain ⟨_, _, _, h1, _⟩ := h
    exact SqL.of (h1 _ _ hF (nd _))
  · obtain ⟨o1, o2, rfl, h1, h0, h2⟩ := h
    unfold natsV at hi
    rw [List.getElem?_map] at hi
    obtain ⟨z, hz, rfl⟩ := Option.map_eq_some_iff.mp hi
    have hzm := List.mem_of_getElem? hz
    refine ⟨_, rfl, ga, rfl, ⟨_, SqL.of (h1 _ _ hG (nd _))⟩, for_list (K := K) (a := ga) (xs := natsV ys) (fun j σ' H' => ∃ o2 : Option V, σ' = [some (.ref ra), some (.ref fa), some (.ref ga), some (.int z), o2] ∧ (∀ b o, H b = some o → (∀ kvs, o ≠ .dK kvs) → H' b = some o) ∧ (∀ b o, H0 b = some o → H b = some o → H' b = some o) ∧ RowsAt H0 H' ra n (fun a b => F a b ∨ (a ∈ xs.take i ∧ b ∈ ys) ∨ (a = z ∧ b ∈ ys.take j)))
      ⟨o2, rfl, h1, h0, h2.eqv fun i j => by simp⟩ (fun j σ' H' _ h => ?_) (fun j y σ' H' hj h => ?_) (fun σ' H' h => ?_)⟩
    · obtain ⟨_, _, h1, _⟩ := h
      exact SqL.of (h1 _ _ hG (nd _))
    · obtain ⟨o2, rfl, g1, g0, g2⟩ := h
      unfold natsV at hj
      rw [List.getElem?_map] at hj
      obtain ⟨u, hu, rfl⟩ := Option.map_eq_some_iff.mp hj
      have hum := List.mem_of_getElem? hu
      obtain ⟨ds, d, ms, p1, p2, p3, p4, p5, p6, p7⟩ := g2.put (hx z hzm) (hy u hum)
      refine ⟨_, rfl, _, rfl, ra, _, (z : Int), .ref d, rfl, rfl, SqL.of p1, at_of (j := z) rfl (by rw [List.getElem?_map, p2]; rfl), _, rfl, d, _, rfl, DPut.k (k := Sum.inl (u : Int)) p3 p4, _, rfl, fun b o hb hn => p6 b o (g1 b o hb hn) hn, fun b o h0 hb => by rw [upd_ne (ne_of_none h0 p7)]; exact g0 b o h0 hb, p5.eqv fun a b => ?_⟩
      rw [mem_take_nat hu]
      constructor
      · rintro ((h | h | ⟨h, h'⟩) | ⟨h, h'⟩)
        · exact .inl h
        · exact .inr (.inl h)
        · exact .inr (.inr ⟨h, .inl h'⟩)
        · exact .inr (.inr ⟨h, .inr h'⟩)
      · rintro (h | h | ⟨h, h' | h'⟩)
        · exact .inl (.inl h)
        · exact .inl (.inr (.inl h))
        · exact .inl (.inr (.inr ⟨h, h'⟩))
        · exact .inr ⟨h, h'⟩
    · obtain ⟨o2, rfl, g1, g0, g2⟩ := h
      have e2 : (natsV ys).length = ys.length := List.length_map _
      rw [e2, List.take_length] at g2
      refine ⟨_, _, rfl, g1, g0, g2.eqv fun a b => ?_⟩
      rw [mem_take_nat hz]
      constructor
      · rintro (h | ⟨h, h'⟩ | ⟨h, h'⟩)
        · exact .inl h
        · exact .inr ⟨.inl h, h'⟩
        · exact .inr ⟨.inr h, h'⟩
      · rintro (h | ⟨h | h, h'⟩)
        · exact .inl h
        · exact .inr (.inl ⟨h, h'⟩)
        · exact .inr (.inr ⟨h, h'⟩)
  · obtain ⟨o1, o2, rfl, h1, h0, h2⟩ := h
    have e2 : (natsV xs).length = xs.length := List.length_map _
    rw [e2, List.take_length] at h2
    exact q H' h1 h0 h2
end
end My
namespace My
open PySem PySem.Spec PyProof.Rows L2
theorem map_ref_inj : ∀ {as bs : List Addr}, as.map V.ref = bs.map V.ref → as = bs
  | [], [], _ => rfl
  | [], _ :: _, h => by cases h
  | _ :: _, [], h => by cases h
  | a :: as, b :: bs, h => by
    rw [List.map_cons, List.map_cons] at h
    have h1 := List.cons.inj h
    rw [V.ref.inj h1.1, map_ref_inj h1.2]
structure EndsR (H0 H H' : Hp) (la ra : Addr) (cs ls : List Nat) (pl : Nat) (F : Rl) (g : Gl) (f l : Addr) : Prop where
  fr : Fr la ra H H'
  le : LetAt H' la (cs ++ ls)
  k0 : Same H0 H'
  rw : RowsAt H0 H' ra (cs.length + pl) (fun i j => F i j ∨ (i, j) ∈ g.fol)
  fst : H' f = some (.lst (natsV g.fst))
  lst : H' l = some (.lst (natsV g.lst))
  f1 : f ≠ la
  f2 : f ≠ ra
  l1 : l ≠ la
  l2 : l ≠ ra
theorem EndsR.eqv {H0 H H' : Hp} {la ra : Addr} {cs ls : List Nat} {pl : Nat} {F : Rl} {g g' : Gl} {f l : Addr} (e : Eqv g g') (h : EndsR H0 H H' la ra cs ls pl F g f l) : EndsR H0 H H' la ra cs ls pl F g' f l :=
  ⟨h.fr, h.le, h.k0, h.rw.eqv fun i j => or_congr Iff.rfl (e.fol (i, j)), by rw [← e.fst]; exact h.fst, by rw [← e.lst]; exact h.lst, h.f1, h.f2, h.l1, h.l2⟩
theorem EndsR.same {H0 H H' H'' : Hp} {la ra : Addr} {cs ls : List Nat} {pl : Nat} {F : Rl} {g : Gl} {f l : Addr} (s : Same H' H'') (h : EndsR H0 H H' la ra cs ls pl F g f l) : EndsR H0 H H'' la ra cs ls pl F g f l :=
  ⟨h.fr.trans (Fr.same s), s _ _ h.le, h.k0.trans s, h.rw.same s, s _ _ h.fst, s _ _ h.lst, h.f1, h.f2, h.l1, h.l2⟩
theorem Fr.pers {la ra : Addr} {H H' : Hp} (x : Fr la ra H H') (h1 : ∃ xs, H la = some (.lst xs)) (h2 : ∃ xs, H ra = some (.lst xs)) (h3 : ∃ xs, H' la = some (.lst xs)) (h4 : ∃ xs, H' ra = some (.lst xs)) : Pers H H' := by
  obtain ⟨x1, h1⟩ := h1
  obtain ⟨x2, h2⟩ := h2
  refine ⟨fun b xs h => x b _ h (fun e => ?_) (fun e => ?_) (fun kvs e => by cases e), fun b xs h => ?_⟩
  · rw [e, h1] at h
    cases h
  · rw [e, h2] at h
    cases h
  · by_cases e1 : b = la
    · subst e1
      exact h3
    · by_cases e2 : b = ra
      · subst e2
        exact h4
      · exact ⟨xs, x b _ h e1 e2 fun kvs e => by cases e⟩
theorem RowsAt.isl {H0 H : Hp} {ra : Addr} {n : Nat} {F : Rl} (h : RowsAt H0 H ra n F) : ∃ xs, H ra = some (.lst xs) := by
  obtain ⟨ds, h1, _⟩ := h.ex
  exact ⟨_, h1⟩
theorem natsV_app (xs ys : List Nat) : natsV xs ++ natsV ys = natsV (xs ++ ys) := List.map_append.symm
theorem natsV_len (xs : List Nat) : (natsV xs).length = xs.length := List.length_map _
/-- what the three ask and promise -/
structure EndsP (H0 H : Hp) (la ra : Addr) (cs : List Nat) (F : Rl) (n : Nat) : Prop where
  ne : la ≠ ra
  le : LetAt H la cs
  rw : RowsAt H0 H ra cs.length F
  k0 : Same H0 H
  nl : H0 la = none
  nr : H0 ra = none
  sz : cs.length + n ≤ 40
def spEnds (n : Nat) : Sp := fun vs H Q _ => ∃ (H0 : Hp) (v : V) (la ra : Addr) (e : E) (cs : List Nat) (F : Rl), vs = [v, .ref la, .ref ra] ∧ e.ok = true ∧ e.depth < n ∧ Rep H v e.toD ∧ EndsP H0 H la ra cs F e.places ∧
  ∀ (t f l : Addr) (H' : Hp), H' t = some (.tup [.bl (gl e cs.length).nul, .ref f, .ref l]) → EndsR H0 H H' la ra cs e.letters e.places F (gl e cs.length) f l → Q (.ref t) H'
def spLeaf : Sp := fun vs H Q _ => ∃ (H0 : Hp) (z : Str) (la ra : Addr) (e : E) (cs : List Nat) (F : Rl), vs = [.str z, .ref la, .ref ra] ∧ ((z = sNo ∧ e = .eps) ∨ ∃ c, z = ⟨#[c]⟩ ∧ e = .sym c) ∧ EndsP H0 H la ra cs F e.places ∧
  ∀ (t f l : Addr) (H' : Hp), H' t = some (.tup [.bl (gl e cs.length).nul, .ref f, .ref l]) → EndsR H0 H H' la ra cs e.letters e.places F (gl e cs.length) f l → Q (.ref t) H'
def spRow (n : Nat) (G : List E → Nat → Gl) : Sp := fun vs H Q _ => ∃ (H0 : Hp) (p la ra : Addr) (xs : List V) (es : List E) (cs : List Nat) (F : Rl), vs = [.ref p, .ref la, .ref ra] ∧ H p = some (.tup xs) ∧ Two (Rep H) xs (es.map E.toD) ∧ (∀ e ∈ es, e.ok = true ∧ e.depth < n) ∧ EndsP H0 H la ra cs F (E.places.placess es) ∧
  ∀ (t f l : Addr) (H' : Hp), H' t = some (.tup [.bl (G es cs.length).nul, .ref f, .ref l]) → EndsR H0 H H' la ra cs (E.letters.letterss es) (E.places.placess es) F (G es cs.length) f l → Q (.ref t) H'
section
variable {P : Program} {w : World} {K : PySem.W.Frag} {mg : Str → Option Value} {base : Heap} {a_BOUNDS a_LONG_BOUNDS : Addr} {tL tM : Tok}
abbrev N__ends_of_leaf : List Str := ["part", "letters", "rows", "place"]
theorem sc__ends_of_leaf : FnScope ["part", "letters", "rows", "place"] ["part", "letters", "rows"] (defScope s__ends_of_leaf) := ⟨rfl, rfl, rfl, by decide +kernel, rfl, by decide +kernel, by decide +kernel⟩
theorem ok_leaf {f : Addr} {fd : FuncData} (B : Bt K mg a_BOUNDS a_LONG_BOUNDS tL tM) (Dd : Df K mg "_ends_of_leaf" s__ends_of_leaf ["part", "letters", "rows"] f fd) : FnOk P w K mg base CX0 1 f fd ["part", "letters", "rows"] spLeaf := by
  refine Dd.F.ok sc__ends_of_leaf (fun vs H Q Ex h => ?_) (fun cdv A outer s H vs Q Ex hr h => ?_)
  · obtain ⟨H0, z, la, ra, e, cs, F, rfl, _⟩ := h
    rfl
  obtain ⟨H0, z, la, ra, e, cs, F, rfl, he, hP, q⟩ := h
  refine ⟨_, (pss_cons (ps_if (pt_cmpR op_eq (pv 0) pe_str (nomark _)) (pss_one (ps_ret (pe_tup (pa_cons pe_bl (pa_cons (pe_lst pa_nil) (pa_cons (pe_lst pa_nil) pa_nil)))))) pss_nil)
    (pss_cons (ps_set (i := 3) sc__ends_of_leaf.nd rfl (Or.inl rfl) (pe_callB call_len rfl B.b_len boot_len (pa_cons (pv 1) pa_nil)))
    (pss_cons (ps_expr (pe_bm PySem.F.plainAttrs_list PySem.F.slot_list_append PySem.F.type_list_append mt_append (pv 1) (pa_cons (pv 0) pa_nil)))
    (pss_cons (ps_expr (pe_bm PySem.F.plainAttrs_list PySem.F.slot_list_append PySem.F.type_list_append mt_append (pv 2) (pa_cons pe_dnewK pa_nil)))
    (pss_one (ps_ret (pe_tup (pa_cons pe_bl (pa_cons (pe_lst (pa_cons (pv 3) pa_nil)) (pa_cons (pe_lst (pa_cons (pv 3) pa_nil)) pa_nil)))))))))), ?_⟩
  obtain ⟨hne, hLe, hRw, hk0, hnl, hnr, hsz⟩ := hP
  refine ⟨_, rfl, rfl, _, rfl, ite2 (fun e1 => ?_) (fun e1 => ?_)⟩
  · have hz := vstr e1
    rcases he with ⟨rfl, rfl⟩ | ⟨c, rfl, rfl⟩
    · refine ⟨Nat.zero_le _, fun f hf => ⟨Nat.zero_le _, fun l hl => ⟨(by show 3 ≤ sizeLine; decide), fun t ht => ?_⟩⟩⟩
      have s2 := (same_upd (o := .lst []) hf).trans (same_upd (o := .lst []) hl)
      have s3 := s2.trans (same_upd (o := .tup [.bl true, .ref f, .ref l]) ht)
      have hfl : f ≠ l := fun c => by rw [← c, upd_same] at hl; cases hl
      obtain ⟨xr, hxr⟩ := hRw.isl
      refine q t f l _ upd_same ⟨Fr.same s3, s3 _ _ (by rw [E.letters, List.append_nil]; exact hLe), hk0.trans s3, (hRw.same s3).eqv fun i j => ⟨.inl, fun h => h.elim id fun h => by cases h⟩, ?_, ?_, ?_, ?_, ?_, ?_⟩
      · exact (same_upd ht) _ _ ((same_upd hl) _ _ upd_same)
      · exact (same_upd ht) _ _ upd_same
      · exact (ne_of_none hLe hf).symm
      · exact (ne_of_none hxr hf).symm
      · exact (ne_of_none ((same_upd hf) _ _ hLe) hl).symm
      · exact (ne_of_none ((same_upd hf) _ _ hxr) hl).symm
    · have := congrArg Str.length hz
      have l0 : (Str.ofString "").length = 0 := lE
      rw [l0] at this
      cases this
  · have hz := vstrN e1
    rcases he with ⟨h, _⟩ | ⟨c, rfl, rfl⟩
    · exact absurd h hz
    · rw [E.places] at hsz
      obtain ⟨ds, r1, r2, r3, r4⟩ := hRw.ex
      refine ⟨_, rfl, _, cs.length, rfl, .inl ⟨_, SqL.of hLe, by rw [List.length_map]⟩, ?_⟩
      refine ⟨_, rfl, .inl ⟨rfl, _, SqL.of hLe⟩, _, rfl, la, _, _, rfl, rfl, hLe, ?_, ?_⟩
      · rw [List.length_map]
        exact Nat.lt_of_le_of_lt (m := 40) (by omega) (by decide)
      have hra1 : (upd H la (.lst (cs.map (fun c => V.str ⟨#[c]⟩) ++ [V.str ⟨#[c]⟩]))) ra = some (.lst (ds.map V.ref)) := by rw [upd_ne hne.symm]; exact r1
      refine ⟨_, rfl, .inl ⟨rfl, _, SqL.of hra1⟩, fun d hd => ⟨ra, _, _, rfl, rfl, (same_upd hd) _ _ hra1, ?_, ?_⟩⟩
      · rw [List.length_map]
        exact Nat.lt_of_le_of_lt (m := 40) (by omega) (by decide)
      have dla : d ≠ la := fun c => by rw [c, upd_same] at hd; cases hd
      have dra : d ≠ ra := (ne_of_none hra1 hd).symm
      have dH : H d = none := by rw [upd_ne dla] at hd; exact hd
      have hla2 : (upd (upd (upd H la (.lst (cs.map (fun c => V.str ⟨#[c]⟩) ++ [V.str ⟨#[c]⟩]))) d (.dK [])) ra (.lst (ds.map V.ref ++ [V.ref d]))) la = some (.lst ((cs ++ [c]).map (fun c => V.str ⟨#[c]⟩))) := by
        rw [upd_ne hne, upd_ne dla.symm, upd_same, List.map_append]
        rfl
      have hFr : Fr la ra H (upd (upd (upd H la (.lst (cs.map (fun c => V.str ⟨#[c]⟩) ++ [V.str ⟨#[c]⟩]))) d (.dK [])) ra (.lst (ds.map V.ref ++ [V.ref d]))) := fun b o hb h1 h2 _ => by
        rw [upd_ne h2, upd_ne (ne_of_none hb dH), upd_ne h1]
        exact hb
      have hS0 : Same H0 (upd (upd (upd H la (.lst (cs.map (fun c => V.str ⟨#[c]⟩) ++ [V.str ⟨#[c]⟩]))) d (.dK [])) ra (.lst (ds.map V.ref ++ [V.ref d]))) := fun b o hb => by
        rw [upd_ne (ne_of_none hb hnr), upd_ne (ne_of_none (hk0 _ _ hb) dH), upd_ne (ne_of_none hb hnl)]
        exact hk0 _ _ hb
      have hRow : RowsAt H0 (upd (upd (upd H la (.lst (cs.map (fun c => V.str ⟨#[c]⟩) ++ [V.str ⟨#[c]⟩]))) d (.dK [])) ra (.lst (ds.map V.ref ++ [V.ref d]))) ra (cs.length + 1) F := by
        have noF : ∀ j, ¬ F cs.length j := fun j hf => absurd (hRw.dm _ j hf) (Nat.lt_irrefl _)
        refine ⟨⟨ds ++ [d], by rw [upd_same, List.map_append]; rfl, by rw [List.length_append, r2]; rfl, ?_, fun i d' hd' => ?_⟩, hRw.bd, fun i j hf => Nat.lt_succ_of_lt (hRw.dm i j hf), fun ds2 hds2 x hx => ?_⟩
        · rw [List.nodup_append]
          refine ⟨r3, by simp, fun a ha b hb e => ?_⟩
          rw [List.mem_singleton] at hb
          obtain ⟨i, hi⟩ := List.getElem?_of_mem ha
          obtain ⟨ms, h1, _⟩ := r4 i a hi
          rw [e, hb, dH] at h1
          cases h1
        · rcases Nat.lt_or_ge i ds.length with hi | hi
          · rw [List.getElem?_append_left hi] at hd'
            obtain ⟨ms, h1, h2⟩ := r4 i d' hd'
            refine ⟨ms, ?_, h2⟩
            have n1 : d' ≠ ra := fun c => by rw [c, r1] at h1; cases h1
            have n2 : d' ≠ la := fun c => by
              have : H la = some (.lst (cs.map fun c => V.str ⟨#[c]⟩)) := hLe
              rw [c, this] at h1
              cases h1
            rw [upd_ne n1, upd_ne (ne_of_none h1 dH), upd_ne n2]
            exact h1
          · rw [List.getElem?_append_right hi] at hd'
            have hi2 : i - ds.length = 0 := by
              have := (List.getElem?_eq_some_iff.mp hd').1
              simp at this
              omega
            rw [hi2] at hd'
            cases hd'
            have hi3 : i = cs.length := by omega
            subst hi3
            refine ⟨[], by rw [upd_ne dra, upd_same]; rfl, List.nodup_nil, fun x => ⟨(fun h => by cases h), fun ⟨j, _, hf⟩ => absurd hf (noF j)⟩⟩
        · rw [upd_same] at hds2
          have e3 : ds.map V.ref ++ [V.ref d] = ds2.map V.ref := HO.lst.inj (Option.some.inj hds2)
          have e4 : ds ++ [d] = ds2 := map_ref_inj (by rw [List.map_append]; exact e3)
          rw [← e4] at hx
          rcases List.mem_append.mp hx with hx | hx
          · exact hRw.nw ds r1 x hx
          · rw [List.mem_singleton] at hx
            subst hx
            exact hk0.free dH
      refine ⟨_, rfl, (by show 1 ≤ sizeLine; decide), fun f hf => ⟨_, rfl, (by show 1 ≤ sizeLine; decide), fun l hl => ⟨(by show 3 ≤ sizeLine; decide), fun t ht => ?_⟩⟩⟩
      have s3 := (same_upd (o := .lst [V.int (cs.length : Int)]) hf).trans ((same_upd (o := .lst [V.int (cs.length : Int)]) hl).trans (same_upd (o := .tup [.bl false, .ref f, .ref l]) ht))
      obtain ⟨xr, hxr⟩ := hRow.isl
      refine q t f l _ upd_same ⟨hFr.trans (Fr.same s3), s3 _ _ hla2, hS0.trans s3, (hRow.same s3).eqv fun i j => ⟨.inl, fun h => h.elim id fun h => by cases h⟩, ?_, ?_, ?_, ?_, ?_, ?_⟩
      · exact (same_upd ht) _ _ ((same_upd hl) _ _ upd_same)
      · exact (same_upd ht) _ _ upd_same
      · exact (ne_of_none hla2 hf).symm
      · exact (ne_of_none hxr hf).symm
      · exact (ne_of_none ((same_upd hf) _ _ hla2) hl).symm
      · exact (ne_of_none ((same_upd hf) _ _ hxr) hl).symm
end
end My
namespace My
open PySem PySem.Spec PyProof.Rows L2
theorem placess_snoc (es : List E) (e : E) : E.places.placess (es ++ [e]) = E.places.placess es + e.places := by
  rw [placess_eq, placess_eq, List.map_append, List.sum_append]
  show _ + (e.places + 0) = _
  omega
theorem placess_take (es : List E) (i : Nat) : E.places.placess (es.take i) ≤ E.places.placess es := by
  have e := List.take_append_drop i es
  have : E.places.placess es = E.places.placess (es.take i) + E.places.placess (es.drop i) := by
    rw [placess_eq, placess_eq, placess_eq, ← List.sum_append, ← List.map_append, e]
  omega
section
variable {P : Program} {w : World} {K : PySem.W.Frag} {mg : Str → Option Value} {base : Heap} {a_BOUNDS a_LONG_BOUNDS : Addr} {tL tM : Tok}
abbrev N__ends_of_join : List Str := ["parts", "letters", "rows", "empty", "first", "last", "part", "part_empty", "part_first", "part_last"]
theorem sc__ends_of_join : FnScope ["parts", "letters", "rows", "empty", "first", "last", "part", "part_empty", "part_first", "part_last"] ["parts", "letters", "rows"] (defScope s__ends_of_join) := ⟨rfl, rfl, rfl, by decide +kernel, rfl, by decide +kernel, by decide +kernel⟩
set_option maxHeartbeats 1000000 in
theorem ok_joinends {f : Addr} {fd : FuncData} (B : Bt K mg a_BOUNDS a_LONG_BOUNDS tL tM) (Dd : Df K mg "_ends_of_join" s__ends_of_join ["parts", "letters", "rows"] f fd) (G_link : Cl P w K mg base 1 "_link" ["rows", "ends", "begins"] (spLink K)) (n k : Nat) (hk1 : 1 ≤ k) (G_ends_of : Cl P w K mg base k "_ends_of" ["part", "letters", "rows"] (spEnds n)) : FnOk P w K mg base CX0 (k + 1) f fd ["parts", "letters", "rows"] (spRow n gl.glJ) := by
  refine Dd.F.ok sc__ends_of_join (fun vs H Q Ex h => ?_) (fun cdv A outer s H vs Q Ex hr h => ?_)
  · obtain ⟨H0, p, la, ra, xs, es, cs, F, rfl, _⟩ := h
    rfl
  obtain ⟨H0, p, la, ra, xs, es, cs, F, rfl, hp, hX, hes, hP, q⟩ := h
  obtain ⟨hne, hLe, hRw, hk0, hnl, hnr, hsz⟩ := hP
  refine ⟨_, (pss_cons (ps_par3 (i := 3) (j := 4) (l := 5) rfl sc__ends_of_join.nd rfl rfl rfl (by decide) (by decide) (by decide) rfl rfl rfl (pa_cons pe_bl (pa_cons (pe_lst pa_nil) (pa_cons (pe_lst pa_nil) pa_nil))) (by rfl))
    (pss_cons (ps_for PassesOwn.never rfl (pi_tup (pv 0)) (pg_name (i := 6) sc__ends_of_join.nd rfl (Or.inl rfl)) (pss_cons (ps_asg (pe_cl G_ends_of (hr.mono (by omega)) rfl (pa_cons (pv 6) (pa_cons (pv 1) (pa_cons (pv 2) pa_nil)))) (pg_tup rfl (pgs_cons (pg_name (i := 7) sc__ends_of_join.nd rfl (Or.inl rfl)) (pgs_cons (pg_name (i := 8) sc__ends_of_join.nd rfl (Or.inl rfl)) (pgs_cons (pg_name (i := 9) sc__ends_of_join.nd rfl (Or.inl rfl)) pgs_nil)))))
    (pss_cons (ps_expr (pe_cl G_link (hr.mono (by omega)) rfl (pa_cons (pv 2) (pa_cons (pv 5) (pa_cons (pv 8) pa_nil)))))
    (C8.pss_cut (ps_if (pt_truth (pv 3) (by intro _; rfl)) (pss_one (ps_set (i := 4) sc__ends_of_join.nd rfl (Or.inl rfl) (pe_op op_cat (pv 4) (pv 8)))) pss_nil)
    (C8.pss_cut (ps_set (i := 5) sc__ends_of_join.nd rfl (Or.inl rfl) (pe_ifExp (pt_truth (pv 7) (by intro _; rfl)) (pe_op op_cat (pv 5) (pv 9)) (pv 9)))
    (pss_one (ps_set (i := 3) sc__ends_of_join.nd rfl (Or.inl rfl) (pe_and (pv 3) (pe_one (pv 7))))))))))
    (pss_one (ps_ret (pe_tup (pa_cons (pv 3) (pa_cons (pv 4) (pa_cons (pv 5) pa_nil)))))))), ?_⟩
  have hl := hX.len
  rw [List.length_map] at hl
  obtain ⟨xr, hxr⟩ := hRw.isl
  refine ⟨Nat.zero_le _, fun f0 hf0 => ⟨Nat.zero_le _, fun l0 hl0 => ⟨_, _, _, rfl, ?_⟩⟩⟩
  have s0 := (same_upd (o := .lst []) hf0).trans (same_upd (o := .lst []) hl0)
  refine ⟨_, rfl, p, rfl, ⟨_, SqT.of (s0 _ _ hp)⟩, for_tup (K := K) (a := p) (xs := xs) (fun i σ' H' => ∃ (f l : Addr) (o1 o2 o3 o4 : Option V), σ' = [some (.ref p), some (.ref la), some (.ref ra), some (.bl (gl.glJ (es.take i) cs.length).nul), some (.ref f), some (.ref l), o1, o2, o3, o4] ∧ EndsR H0 H H' la ra cs (E.letters.letterss (es.take i)) (E.places.placess (es.take i)) F (gl.glJ (es.take i) cs.length) f l)
    ⟨f0, l0, none, none, none, none, rfl, ⟨Fr.same s0, s0 _ _ (by show H la = _; rw [List.take_zero]; show H la = some (.lst ((cs ++ []).map _)); rw [List.append_nil]; exact hLe), hk0.trans s0, (hRw.same s0).eqv fun i j => ⟨.inl, fun h => h.elim id fun h => by cases h⟩, (same_upd hl0) _ _ upd_same, upd_same, (ne_of_none hLe hf0).symm, (ne_of_none hxr hf0).symm, (ne_of_none ((same_upd hf0) _ _ hLe) hl0).symm, (ne_of_none ((same_upd hf0) _ _ hxr) hl0).symm⟩⟩
    (fun i σ' H' _ h => ?_) (fun i y σ' H' hi h => ?_) (fun σ' H' h => ?_)⟩
  · obtain ⟨f, l, o1, o2, o3, o4, _, hR⟩ := h
    refine SqT.of (hR.fr _ _ hp (fun c => ?_) (fun c => ?_) fun kvs c => by cases c)
    · rw [c] at hp
      have : H la = some (.lst (cs.map fun c => V.str ⟨#[c]⟩)) := hLe
      rw [this] at hp
      cases hp
    · rw [c, hxr] at hp
      cases hp
  · obtain ⟨f, l, o1, o2, o3, o4, rfl, hR⟩ := h
    obtain ⟨d, hd1, hxd⟩ := hX.get hi
    rw [List.getElem?_map] at hd1
    obtain ⟨e, he, rfl⟩ := Option.map_eq_some_iff.mp hd1
    have hem := List.mem_of_getElem? he
    have hPers : Pers H H' := hR.fr.pers ⟨_, hLe⟩ ⟨_, hxr⟩ ⟨_, hR.le⟩ hR.rw.isl
    have hpl : E.places.placess (es.take (i + 1)) = E.places.placess (es.take i) + e.places := by rw [take_snoc he, placess_snoc]
    have hpt := placess_take es (i + 1)
    have hcl : (cs ++ E.letters.letterss (es.take i)).length = cs.length + E.places.placess (es.take i) := by rw [List.length_append, letterss_len]
    -- the part
    refine ⟨_, rfl, _, rfl, _, rfl, H0, y, la, ra, e, cs ++ E.letters.letterss (es.take i), _, rfl, (hes e hem).1, (hes e hem).2, hxd.pers hPers, ⟨hne, hR.le, by rw [hcl]; exact hR.rw, hR.k0, hnl, hnr, by rw [hcl]; omega⟩, fun t2 f2 l2 H2 ht2 hR2 => ?_⟩
    rw [hcl] at ht2 hR2
    refine ⟨t2, _, rfl, SqT.of ht2, rfl, _, _, rfl, _, _, rfl, _, _, rfl, rfl, ?_⟩
    -- the frame so far
    have W1 : Within (gl.glJ (es.take i) cs.length) cs.length (E.places.placess (es.take i)) := glJ_within _ _
    have W2 : Within (gl e (cs.length + E.places.placess (es.take i))) (cs.length + E.places.placess (es.take i)) e.places := gl_within _ _
    have hfst : H2 f = some (.lst (natsV (gl.glJ (es.take i) cs.length).fst)) := hR2.fr _ _ hR.fst hR.f1 hR.f2 fun kvs c => by cases c
    have hlst : H2 l = some (.lst (natsV (gl.glJ (es.take i) cs.length).lst)) := hR2.fr _ _ hR.lst hR.l1 hR.l2 fun kvs c => by cases c
    refine ⟨_, rfl, _, rfl, _, rfl, H0, ra, l, f2, _, _, _, _, rfl, hR2.rw, hlst, hR2.fst, fun x hx => by have := W1.lst x hx; omega, fun x hx => by have := W2.fst x hx; omega, fun H3 h3 h30 hRw3 => ?_⟩
    have nd : ∀ (xs : List V) kvs, HO.lst xs ≠ .dK kvs := fun _ _ c => by cases c
    have fst3 := h3 _ _ hfst (nd _)
    have lst3 := h3 _ _ hlst (nd _)
    have f23 := h3 _ _ hR2.fst (nd _)
    have l23 := h3 _ _ hR2.lst (nd _)
    have le3 : LetAt H3 la ((cs ++ E.letters.letterss (es.take i)) ++ e.letters) := h3 _ _ hR2.le (nd _)
    have fr3 : Fr la ra H H3 := (hR.fr.trans hR2.fr).trans fun b o hb h1 h2 h4 => h3 b o hb h4
    obtain ⟨x3, hx3⟩ := hRw3.isl
    have k03 : Same H0 H3 := fun b o hb => h30 b o hb (hR2.k0 b o hb)
    -- first
    refine ⟨fun σ' H' => ∃ f3 : Addr, σ' = [some (.ref p), some (.ref la), some (.ref ra), some (.bl (gl.glJ (es.take i) cs.length).nul), some (.ref f3), some (.ref l), some y, some (.bl (gl e (cs.length + E.places.placess (es.take i))).nul), some (.ref f2), some (.ref l2)] ∧ Same H3 H' ∧ f3 ≠ la ∧ f3 ≠ ra ∧ H' f3 = some (.lst (natsV ((gl.glJ (es.take i) cs.length).seq (gl e (cs.length + E.places.placess (es.take i)))).fst)), ?_, ?_⟩
    · refine ⟨_, rfl, _, rfl, ite2 (fun c => ?_) (fun c => ?_)⟩
      · refine ⟨_, rfl, _, rfl, f, f2, _, _, rfl, rfl, fst3, f23, ?_, fun f3 hf3 => ⟨f3, rfl, same_upd hf3, (ne_of_none le3 hf3).symm, (ne_of_none hx3 hf3).symm, ?_⟩⟩
        · rw [natsV_len, natsV_len]
          have a1 := (glJ_len (es.take i) cs.length).fst
          have a2 := (gl_len e (cs.length + E.places.placess (es.take i))).fst
          exact Nat.le_trans (m := 40) (by omega) (by decide)
        · rw [upd_same, natsV_app]
          unfold Gl.seq
          rw [if_pos c]
      · refine ⟨f, rfl, Same.refl H3, hR.f1, hR.f2, ?_⟩
        rw [fst3]
        unfold Gl.seq
        rw [if_neg c, List.append_nil]
    rintro σ' H4 ⟨f3, rfl, s4, f3l, f3r, hf3⟩
    have lst4 := s4 _ _ lst3
    have l24 := s4 _ _ l23
    have le4 := s4 _ _ le3
    have hx4 := s4 _ _ hx3
    -- last
    refine ⟨fun σ' H' => ∃ l3 : Addr, σ' = [some (.ref p), some (.ref la), some (.ref ra), some (.bl (gl.glJ (es.take i) cs.length).nul), some (.ref f3), some (.ref l3), some y, some (.bl (gl e (cs.length + E.places.placess (es.take i))).nul), some (.ref f2), some (.ref l2)] ∧ Same H4 H' ∧ l3 ≠ la ∧ l3 ≠ ra ∧ H' l3 = some (.lst (natsV ((gl.glJ (es.take i) cs.length).seq (gl e (cs.length + E.places.placess (es.take i)))).lst)), ?_, ?_⟩
    · refine ⟨_, rfl, _, rfl, ite2 (fun c => ?_) (fun c => ?_)⟩
      · refine ⟨_, rfl, _, rfl, l, l2, _, _, rfl, rfl, lst4, l24, ?_, fun l3 hl3 => ⟨l3, rfl, same_upd hl3, (ne_of_none le4 hl3).symm, (ne_of_none hx4 hl3).symm, ?_⟩⟩
        · rw [natsV_len, natsV_len]
          have a1 := (glJ_len (es.take i) cs.length).lst
          have a2 := (gl_len e (cs.length + E.places.placess (es.take i))).lst
          exact Nat.le_trans (m := 40) (by omega) (by decide)
        · rw [upd_same, natsV_app]
          unfold Gl.seq
          rw [if_pos c]
      · refine ⟨_, rfl, l2, rfl, Same.refl H4, hR2.l1, hR2.l2, ?_⟩
        rw [l24]
        unfold Gl.seq
        rw [if_neg c, List.nil_append]
    rintro σ' H5 ⟨l3, rfl, s5, l3l, l3r, hl3⟩
    have S5 := s4.trans s5
    -- empty
    have fin : ∀ b : Bool, b = ((gl.glJ (es.take i) cs.length).seq (gl e (cs.length + E.places.placess (es.take i)))).nul → ∃ (f l : Addr) (o1 o2 o3 o4 : Option V), ([some (.ref p), some (.ref la), some (.ref ra), some (.bl b), some (.ref f3), some (.ref l3), some y, some (.bl (gl e (cs.length + E.places.placess (es.take i))).nul), some (.ref f2), some (.ref l2)] : L2.St) = [some (.ref p), some (.ref la), some (.ref ra), some (.bl (gl.glJ (es.take (i + 1)) cs.length).nul), some (.ref f), some (.ref l), o1, o2, o3, o4] ∧ EndsR H0 H H5 la ra cs (E.letters.letterss (es.take (i + 1))) (E.places.placess (es.take (i + 1))) F (gl.glJ (es.take (i + 1)) cs.length) f l := fun b hb => by
      have ev : Eqv ((gl.glJ (es.take i) cs.length).seq (gl e (cs.length + E.places.placess (es.take i)))) (gl.glJ (es.take (i + 1)) cs.length) := by
        have h := glJ_snoc (es.take i) e cs.length
        rw [← take_snoc he, ← placess_eq] at h
        exact ⟨h.nul.symm, h.fst.symm, h.lst.symm, fun x => (h.fol x).symm⟩
      refine ⟨f3, l3, _, _, _, _, by rw [hb, ev.nul], EndsR.eqv ev ⟨fr3.trans (Fr.same S5), ?_, k03.trans S5, ?_, s5 _ _ hf3, hl3, f3l, f3r, l3l, l3r⟩⟩
      · rw [take_snoc he, letterss_snoc, ← List.append_assoc]
        exact S5 _ _ le3
      · rw [hpl, ← Nat.add_assoc]
        rw [hcl] at hRw3
        refine (hRw3.same S5).eqv fun a b => ?_
        unfold Gl.seq
        simp only [List.mem_append, mem_prodL]
        constructor
        · rintro ((((h | h) | h) | h))
          · exact .inl h
          · exact .inr (.inl h)
          · exact .inr (.inr (.inr h))
          · exact .inr (.inr (.inl h))
        · rintro (h | h | h | h)
          · exact .inl (.inl (.inl h))
          · exact .inl (.inl (.inr h))
          · exact .inr h
          · exact .inl (.inr h)
    refine ⟨_, rfl, _, rfl, ite2 (fun c => ?_) (fun c => ?_)⟩
    · refine ⟨_, rfl, fin _ ?_⟩
      show _ = ((gl.glJ (es.take i) cs.length).nul && (gl e (cs.length + E.places.placess (es.take i))).nul)
      rw [c, Bool.true_and]
    · refine fin _ ?_
      show false = ((gl.glJ (es.take i) cs.length).nul && (gl e (cs.length + E.places.placess (es.take i))).nul)
      rw [Bool.eq_false_iff.mpr c, Bool.false_and]
  · obtain ⟨f, l, o1, o2, o3, o4, rfl, hR⟩ := h
    rw [hl, List.take_length] at hR
    refine ⟨_, rfl, _, rfl, _, rfl, (by show 3 ≤ sizeLine; decide), fun t ht => ?_⟩
    refine q t f l _ ?_ (hR.same (same_upd ht))
    rw [upd_same, hl, List.take_length]
abbrev N__ends_of_or : List Str := ["parts", "letters", "rows", "empty", "first", "last", "part", "part_empty", "part_first", "part_last"]
theorem sc__ends_of_or : FnScope ["parts", "letters", "rows", "empty", "first", "last", "part", "part_empty", "part_first", "part_last"] ["parts", "letters", "rows"] (defScope s__ends_of_or) := ⟨rfl, rfl, rfl, by decide +kernel, rfl, by decide +kernel, by decide +kernel⟩
set_option maxHeartbeats 1000000 in
theorem ok_orends {f : Addr} {fd : FuncData} (B : Bt K mg a_BOUNDS a_LONG_BOUNDS tL tM) (Dd : Df K mg "_ends_of_or" s__ends_of_or ["parts", "letters", "rows"] f fd) (n k : Nat) (G_ends_of : Cl P w K mg base k "_ends_of" ["part", "letters", "rows"] (spEnds n)) : FnOk P w K mg base CX0 (k + 1) f fd ["parts", "letters", "rows"] (spRow n gl.glA) := by
  refine Dd.F.ok sc__ends_of_or (fun vs H Q Ex h => ?_) (fun cdv A outer s H vs Q Ex hr h => ?_)
  · obtain ⟨H0, p, la, ra, xs, es, cs, F, rfl, _⟩ := h
    rfl
  obtain ⟨H0, p, la, ra, xs, es, cs, F, rfl, hp, hX, hes, hP, q⟩ := h
  obtain ⟨hne, hLe, hRw, hk0, hnl, hnr, hsz⟩ := hP
  refine ⟨_, (pss_cons (ps_par3 (i := 3) (j := 4) (l := 5) rfl sc__ends_of_or.nd rfl rfl rfl (by decide) (by decide) (by decide) rfl rfl rfl (pa_cons pe_bl (pa_cons (pe_lst pa_nil) (pa_cons (pe_lst pa_nil) pa_nil))) (by rfl))
    (pss_cons (ps_for PassesOwn.never rfl (pi_tup (pv 0)) (pg_name (i := 6) sc__ends_of_or.nd rfl (Or.inl rfl)) (pss_cons (ps_asg (pe_cl G_ends_of (hr.mono (by omega)) rfl (pa_cons (pv 6) (pa_cons (pv 1) (pa_cons (pv 2) pa_nil)))) (pg_tup rfl (pgs_cons (pg_name (i := 7) sc__ends_of_or.nd rfl (Or.inl rfl)) (pgs_cons (pg_name (i := 8) sc__ends_of_or.nd rfl (Or.inl rfl)) (pgs_cons (pg_name (i := 9) sc__ends_of_or.nd rfl (Or.inl rfl)) pgs_nil)))))
    (pss_cons (ps_set (i := 4) sc__ends_of_or.nd rfl (Or.inl rfl) (pe_op op_cat (pv 4) (pv 8)))
    (pss_cons (ps_set (i := 5) sc__ends_of_or.nd rfl (Or.inl rfl) (pe_op op_cat (pv 5) (pv 9)))
    (pss_one (ps_set (i := 3) sc__ends_of_or.nd rfl (Or.inl rfl) (pe_or (pv 3) (pe_one (pv 7)))))))))
    (pss_one (ps_ret (pe_tup (pa_cons (pv 3) (pa_cons (pv 4) (pa_cons (pv 5) pa_nil)))))))), ?_⟩
  have hl := hX.len
  rw [List.length_map] at hl
  obtain ⟨xr, hxr⟩ := hRw.isl
  refine ⟨Nat.zero_le _, fun f0 hf0 => ⟨Nat.zero_le _, fun l0 hl0 => ⟨_, _, _, rfl, ?_⟩⟩⟩
  have s0 := (same_upd (o := .lst []) hf0).trans (same_upd (o := .lst []) hl0)
  refine ⟨_, rfl, p, rfl, ⟨_, SqT.of (s0 _ _ hp)⟩, for_tup (K := K) (a := p) (xs := xs) (fun i σ' H' => ∃ (f l : Addr) (o1 o2 o3 o4 : Option V), σ' = [some (.ref p), some (.ref la), some (.ref ra), some (.bl (gl.glA (es.take i) cs.length).nul), some (.ref f), some (.ref l), o1, o2, o3, o4] ∧ EndsR H0 H H' la ra cs (E.letters.letterss (es.take i)) (E.places.placess (es.take i)) F (gl.glA (es.take i) cs.length) f l)
    ⟨f0, l0, none, none, none, none, rfl, ⟨Fr.same s0, s0 _ _ (by show H la = _; rw [List.take_zero]; show H la = some (.lst ((cs ++ []).map _)); rw [List.append_nil]; exact hLe), hk0.trans s0, (hRw.same s0).eqv fun i j => ⟨.inl, fun h => h.elim id fun h => by cases h⟩, (same_upd hl0) _ _ upd_same, upd_same, (ne_of_none hLe hf0).symm, (ne_of_none hxr hf0).symm, (ne_of_none ((same_upd hf0) _ _ hLe) hl0).symm, (ne_of_none ((same_upd hf0) _ _ hxr) hl0).symm⟩⟩
    (fun i σ' H' _ h => ?_) (fun i y σ' H' hi h => ?_) (fun σ' H' h => ?_)⟩
  · obtain ⟨f, l, o1, o2, o3, o4, _, hR⟩ := h
    refine SqT.of (hR.fr _ _ hp (fun c => ?_) (fun c => ?_) fun kvs c => by cases c)
    · rw [c] at hp
      have : H la = some (.lst (cs.map fun c => V.str ⟨#[c]⟩)) := hLe
      rw [this] at hp
      cases hp
    · rw [c, hxr] at hp
      cases hp
  · obtain ⟨f, l, o1, o2, o3, o4, rfl, hR⟩ := h
    obtain ⟨d, hd1, hxd⟩ := hX.get hi
    rw [List.getElem?_map] at hd1
    obtain ⟨e, he, rfl⟩ := Option.map_eq_some_iff.mp hd1
    have hem := List.mem_of_getElem? he
    have hPers : Pers H H' := hR.fr.pers ⟨_, hLe⟩ ⟨_, hxr⟩ ⟨_, hR.le⟩ hR.rw.isl
    have hpl : E.places.placess (es.take (i + 1)) = E.places.placess (es.take i) + e.places := by rw [take_snoc he, placess_snoc]
    have hpt := placess_take es (i + 1)
    have hcl : (cs ++ E.letters.letterss (es.take i)).length = cs.length + E.places.placess (es.take i) := by rw [List.length_append, letterss_len]
    refine ⟨_, rfl, _, rfl, _, rfl, H0, y, la, ra, e, cs ++ E.letters.letterss (es.take i), _, rfl, (hes e hem).1, (hes e hem).2, hxd.pers hPers, ⟨hne, hR.le, by rw [hcl]; exact hR.rw, hR.k0, hnl, hnr, by rw [hcl]; omega⟩, fun t2 f2 l2 H2 ht2 hR2 => ?_⟩
    rw [hcl] at ht2 hR2
    refine ⟨t2, _, rfl, SqT.of ht2, rfl, _, _, rfl, _, _, rfl, _, _, rfl, rfl, ?_⟩
    have hfst : H2 f = some (.lst (natsV (gl.glA (es.take i) cs.length).fst)) := hR2.fr _ _ hR.fst hR.f1 hR.f2 fun kvs c => by cases c
    have hlst : H2 l = some (.lst (natsV (gl.glA (es.take i) cs.length).lst)) := hR2.fr _ _ hR.lst hR.l1 hR.l2 fun kvs c => by cases c
    obtain ⟨x2, hx2⟩ := hR2.rw.isl
    refine ⟨_, rfl, _, rfl, f, f2, _, _, rfl, rfl, hfst, hR2.fst, ?_, fun f3 hf3 => ?_⟩
    · rw [natsV_len, natsV_len]
      have a1 := (glA_len (es.take i) cs.length).fst
      have a2 := (gl_len e (cs.length + E.places.placess (es.take i))).fst
      exact Nat.le_trans (m := 40) (by omega) (by decide)
    have s3 := same_upd (o := .lst (natsV (gl.glA (es.take i) cs.length).fst ++ natsV (gl e (cs.length + E.places.placess (es.take i))).fst)) hf3
    refine ⟨_, rfl, _, rfl, l, l2, _, _, rfl, rfl, s3 _ _ hlst, s3 _ _ hR2.lst, ?_, fun l3 hl3 => ?_⟩
    · rw [natsV_len, natsV_len]
      have a1 := (glA_len (es.take i) cs.length).lst
      have a2 := (gl_len e (cs.length + E.places.placess (es.take i))).lst
      exact Nat.le_trans (m := 40) (by omega) (by decide)
    have S3 := s3.trans (same_upd (o := .lst (natsV (gl.glA (es.take i) cs.length).lst ++ natsV (gl e (cs.length + E.places.placess (es.take i))).lst)) hl3)
    have fin : ∀ b : Bool, b = ((gl.glA (es.take i) cs.length).par (gl e (cs.length + E.places.placess (es.take i)))).nul → ∃ (f l : Addr) (o1 o2 o3 o4 : Option V), ([some (.ref p), some (.ref la), some (.ref ra), some (.bl b), some (.ref f3), some (.ref l3), some y, some (.bl (gl e (cs.length + E.places.placess (es.take i))).nul), some (.ref f2), some (.ref l2)] : L2.St) = [some (.ref p), some (.ref la), some (.ref ra), some (.bl (gl.glA (es.take (i + 1)) cs.length).nul), some (.ref f), some (.ref l), o1, o2, o3, o4] ∧ EndsR H0 H _ la ra cs (E.letters.letterss (es.take (i + 1))) (E.places.placess (es.take (i + 1))) F (gl.glA (es.take (i + 1)) cs.length) f l := fun b hb => by
      have ev : (gl.glA (es.take i) cs.length).par (gl e (cs.length + E.places.placess (es.take i))) = gl.glA (es.take (i + 1)) cs.length := by
        have h := glA_snoc (es.take i) e cs.length
        rw [← take_snoc he, ← placess_eq] at h
        exact h.symm
      rw [ev] at hb
      refine ⟨f3, l3, _, _, _, _, by rw [hb], ⟨(hR.fr.trans hR2.fr).trans (Fr.same S3), ?_, hR2.k0.trans S3, ?_, ?_, ?_, (ne_of_none hR2.le hf3).symm, (ne_of_none hx2 hf3).symm, (ne_of_none (s3 _ _ hR2.le) hl3).symm, (ne_of_none (s3 _ _ hx2) hl3).symm⟩⟩
      · rw [take_snoc he, letterss_snoc, ← List.append_assoc]
        exact S3 _ _ hR2.le
      · rw [hpl, ← Nat.add_assoc, ← ev]
        have hrw2 := hR2.rw
        rw [hcl] at hrw2
        refine (hrw2.same S3).eqv fun a b => ?_
        unfold Gl.par
        simp only [List.mem_append]
        constructor
        · rintro ((h | h) | h)
          · exact .inl h
          · exact .inr (.inl h)
          · exact .inr (.inr h)
        · rintro (h | h | h)
          · exact .inl (.inl h)
          · exact .inl (.inr h)
          · exact .inr h
      · rw [← ev]
        show _ = some (HO.lst (natsV ((gl.glA (es.take i) cs.length).fst ++ (gl e (cs.length + E.places.placess (es.take i))).fst)))
        rw [← natsV_app]
        exact (same_upd hl3) _ _ upd_same
      · rw [← ev]
        show _ = some (HO.lst (natsV ((gl.glA (es.take i) cs.length).lst ++ (gl e (cs.length + E.places.placess (es.take i))).lst)))
        rw [← natsV_app]
        exact upd_same
    refine ⟨_, rfl, _, rfl, ite2 (fun c => ?_) (fun c => ?_)⟩
    · refine fin _ ?_
      show true = ((gl.glA (es.take i) cs.length).nul || (gl e (cs.length + E.places.placess (es.take i))).nul)
      rw [c, Bool.true_or]
    · refine ⟨_, rfl, fin _ ?_⟩
      show _ = ((gl.glA (es.take i) cs.length).nul || (gl e (cs.length + E.places.placess (es.take i))).nul)
      rw [Bool.eq_false_iff.mpr c, Bool.false_or]
  · obtain ⟨f, l, o1, o2, o3, o4, rfl, hR⟩ := h
    rw [hl, List.take_length] at hR
    refine ⟨_, rfl, _, rfl, _, rfl, (by show 3 ≤ sizeLine; decide), fun t ht => ?_⟩
    refine q t f l _ ?_ (hR.same (same_upd ht))
    rw [upd_same, hl, List.take_length]
abbrev N__ends_of : List Str := ["part", "letters", "rows", "word", "inner", "_", "first", "last"]
theorem sc__ends_of : FnScope ["part", "letters", "rows", "word", "inner", "_", "first", "last"] ["part", "letters", "rows"] (defScope s__ends_of) := ⟨rfl, rfl, rfl, by decide +kernel, rfl, by decide +kernel, by decide +kernel⟩
set_option maxHeartbeats 1000000 in
theorem ok_ends_step {f : Addr} {fd : FuncData} (B : Bt K mg a_BOUNDS a_LONG_BOUNDS tL tM) (Dd : Df K mg "_ends_of" s__ends_of ["part", "letters", "rows"] f fd) (G_link : Cl P w K mg base 1 "_link" ["rows", "ends", "begins"] (spLink K)) (G_ends_of_leaf : Cl P w K mg base 1 "_ends_of_leaf" ["part", "letters", "rows"] spLeaf) (n k : Nat) (hk : 1 ≤ k)
    (G_ends_of : Cl P w K mg base k "_ends_of" ["part", "letters", "rows"] (spEnds n)) (G_ends_of_join : Cl P w K mg base (k + 1) "_ends_of_join" ["parts", "letters", "rows"] (spRow n gl.glJ)) (G_ends_of_or : Cl P w K mg base (k + 1) "_ends_of_or" ["parts", "letters", "rows"] (spRow n gl.glA)) : FnOk P w K mg base CX0 (k + 2) f fd ["part", "letters", "rows"] (spEnds (n + 1)) := by
  refine Dd.F.ok sc__ends_of (fun vs H Q Ex h => ?_) (fun cdv A outer s H vs Q Ex hr h => ?_)
  · obtain ⟨H0, v, la, ra, e, cs, F, rfl, _⟩ := h
    rfl
  obtain ⟨H0, v, la, ra, e, cs, F, rfl, hok, hd, hR, hP, q⟩ := h
  refine ⟨_, (pss_cons (ps_if (pt_val (pe_callB call_isi rfl B.b_isinstance boot_isinstance (pa_cons (pv 0) (pa_cons (pe_bltn (v := .ty "str") rfl B.b_str boot_str rfl) pa_nil)))) (pss_one (ps_ret (pe_cl G_ends_of_leaf (hr.mono (by omega)) rfl (pa_cons (pv 0) (pa_cons (pv 1) (pa_cons (pv 2) pa_nil)))))) pss_nil)
    (pss_cons (ps_asg (pv 0) (pg_tup rfl (pgs_cons (pg_name (i := 3) sc__ends_of.nd rfl (Or.inl rfl)) (pgs_cons (pg_name (i := 4) sc__ends_of.nd rfl (Or.inl rfl)) pgs_nil))))
    (pss_cons (ps_if (pt_cmpR op_eq (pv 3) pe_str (nomark _)) (pss_one (ps_ret (pe_cl G_ends_of_join (hr.mono (by omega)) rfl (pa_cons (pv 4) (pa_cons (pv 1) (pa_cons (pv 2) pa_nil)))))) pss_nil)
    (pss_cons (ps_if (pt_cmpR op_eq (pv 3) pe_str (nomark _)) (pss_one (ps_ret (pe_cl G_ends_of_or (hr.mono (by omega)) rfl (pa_cons (pv 4) (pa_cons (pv 1) (pa_cons (pv 2) pa_nil)))))) pss_nil)
    (pss_cons (ps_asg (pe_cl G_ends_of (hr.mono (by omega)) rfl (pa_cons (pv 4) (pa_cons (pv 1) (pa_cons (pv 2) pa_nil)))) (pg_tup rfl (pgs_cons (pg_name (i := 5) sc__ends_of.nd rfl (Or.inl rfl)) (pgs_cons (pg_name (i := 6) sc__ends_of.nd rfl (Or.inl rfl)) (pgs_cons (pg_name (i := 7) sc__ends_of.nd rfl (Or.inl rfl)) pgs_nil)))))
    (pss_cons (ps_if (pt_cmpR op_eq (pv 3) pe_str (nomark _)) (pss_one (ps_expr (pe_cl G_link (hr.mono (by omega)) rfl (pa_cons (pv 2) (pa_cons (pv 7) (pa_cons (pv 6) pa_nil)))))) pss_nil)
    (pss_one (ps_ret (pe_tup (pa_cons pe_bl (pa_cons (pv 6) (pa_cons (pv 7) pa_nil)))))))))))), ?_⟩
  obtain ⟨t, ht, k1, _⟩ := hR.ty (K := K)
  refine ⟨_, rfl, _, _, _, _, _, rfl, .ty _, ht, k1, _, rfl, ite2 (fun e1 => ?_) (fun e1 => ?_)⟩
  · obtain ⟨z, rfl, hz⟩ : ∃ z, v = .str z ∧ ((z = sNo ∧ e = .eps) ∨ ∃ c, z = ⟨#[c]⟩ ∧ e = .sym c) := by
      cases e with
      | eps => rw [E.toD] at hR; cases hR; exact ⟨_, rfl, .inl ⟨rfl, rfl⟩⟩
      | sym c => rw [E.toD] at hR; cases hR; exact ⟨_, rfl, .inr ⟨c, rfl, rfl⟩⟩
      | maybe k => exact absurd e1 (by rw [E.toD]; intro c; cases c)
      | many k => exact absurd e1 (by rw [E.toD]; intro c; cases c)
      | join es => exact absurd e1 (by rw [E.toD]; intro c; cases c)
      | alt es => exact absurd e1 (by rw [E.toD]; intro c; cases c)
    exact ⟨_, rfl, _, rfl, _, rfl, H0, z, la, ra, e, cs, F, rfl, hz, hP, q⟩
  · obtain ⟨w, y, p, x, hlw, rfl, hp, hx, hk'⟩ := node_of hok hR e1
    refine ⟨_, rfl, p, _, rfl, SqT.of hp, rfl, _, _, rfl, _, _, rfl, rfl, ?_⟩
    refine ⟨_, rfl, rfl, _, rfl, ite2 (fun e2 => ?_) (fun e2 => ?_)⟩
    · have hw := vstr e2
      rcases hk' with (⟨h, k, rfl, rfl⟩ | ⟨h, k, rfl, rfl⟩) | ⟨h, es, rfl, hes, rfl⟩ | ⟨h, es, rfl, _, rfl⟩
      · exact absurd (hw.symm.trans h) jm
      · exact absurd (hw.symm.trans h) jn
      · obtain ⟨p2, xs, rfl, hp2, hz2, hX⟩ := hx.untup
        refine ⟨_, rfl, _, rfl, _, rfl, H0, p2, la, ra, xs, es, cs, F, rfl, hp2, hX, fun k hk => ⟨ok_kids hok k hk, ?_⟩, hP, q⟩
        have := depth_kids (.join es) k hk
        omega
      · exact absurd (hw.symm.trans h) jo
    refine ⟨_, rfl, rfl, _, rfl, ite2 (fun e3 => ?_) (fun e3 => ?_)⟩
    · have hw := vstr e3
      rcases hk' with (⟨h, k, rfl, rfl⟩ | ⟨h, k, rfl, rfl⟩) | ⟨h, es, rfl, hes, rfl⟩ | ⟨h, es, rfl, _, rfl⟩
      · exact absurd (hw.symm.trans h) om
      · exact absurd (hw.symm.trans h) on
      · exact absurd (h.symm.trans hw) jo
      · obtain ⟨p2, xs, rfl, hp2, hz2, hX⟩ := hx.untup
        refine ⟨_, rfl, _, rfl, _, rfl, H0, p2, la, ra, xs, es, cs, F, rfl, hp2, hX, fun k hk => ⟨ok_kids hok k hk, ?_⟩, hP, q⟩
        have := depth_kids (.alt es) k hk
        omega
    have hk2 := hk'.resolve_right fun c => c.elim (fun h => vstrN e2 h.1) (fun h => vstrN e3 h.1)
    obtain ⟨k0, hy, hok0, hd0, hpl, hle, hwk⟩ : ∃ k0 : E, y = k0.toD ∧ k0.ok = true ∧ k0.depth < n ∧ e.places = k0.places ∧ e.letters = k0.letters ∧ ((w = sMaybe ∧ e = .maybe k0) ∨ (w = sMany ∧ e = .many k0)) := by
      rcases hk2 with ⟨h, k, rfl, rfl⟩ | ⟨h, k, rfl, rfl⟩
      · rw [E.ok] at hok
        rw [E.depth] at hd
        exact ⟨k, rfl, hok, by omega, by rw [E.places], by rw [E.letters], .inl ⟨h, rfl⟩⟩
      · rw [E.ok] at hok
        rw [E.depth] at hd
        exact ⟨k, rfl, hok, by omega, by rw [E.places], by rw [E.letters], .inr ⟨h, rfl⟩⟩
    subst hy
    rw [hpl] at hP
    refine ⟨_, rfl, _, rfl, _, rfl, H0, x, la, ra, k0, cs, F, rfl, hok0, hd0, hx, hP, fun t2 f2 l2 H2 ht2 hR2 => ?_⟩
    refine ⟨t2, _, rfl, SqT.of ht2, rfl, _, _, rfl, _, _, rfl, _, _, rfl, rfl, ?_⟩
    have fin : ∀ H3, EndsR H0 H H3 la ra cs e.letters e.places F (gl e cs.length) f2 l2 → ([V.bl true, .ref f2, .ref l2].length ≤ sizeLine ∧ ∀ t, H3 t = none → Q (.ref t) (upd H3 t (.tup [V.bl true, .ref f2, .ref l2]))) := fun H3 h3 => ⟨(by show 3 ≤ sizeLine; decide), fun t ht => q t f2 l2 _ (by
      rw [upd_same]
      have : (gl e cs.length).nul = true := by rcases hwk with ⟨_, rfl⟩ | ⟨_, rfl⟩ <;> (rw [gl])
      rw [this]) (h3.same (same_upd ht))⟩
    refine ⟨_, rfl, rfl, _, rfl, ite2 (fun e4 => ?_) (fun e4 => ?_)⟩
    · have hw := vstr e4
      have hem : e = .many k0 := by
        rcases hwk with ⟨h, _⟩ | ⟨_, h⟩
        · exact absurd (h.symm.trans hw) mn
        · exact h
      have W := gl_within k0 cs.length
      have hsz := hP.sz
      refine ⟨_, rfl, _, rfl, _, rfl, H0, ra, l2, f2, _, _, _, _, rfl, hR2.rw, hR2.lst, hR2.fst, fun i hi => (W.lst i hi).2, fun j hj => by have := W.fst j hj; omega, fun H3 h3 h30 hRw3 => ?_⟩
      have nd : ∀ (xs : List V) kvs, HO.lst xs ≠ .dK kvs := fun _ _ c => by cases c
      refine ⟨_, rfl, _, rfl, fin H3 ?_⟩
      rw [hpl, hle]
      subst hem
      refine ⟨hR2.fr.trans fun b o hb h1 h2 h4 => h3 b o hb h4, h3 _ _ hR2.le (nd _), fun b o hb => h30 b o hb (hR2.k0 b o hb), hRw3.eqv fun i j => ?_, ?_, ?_, hR2.f1, hR2.f2, hR2.l1, hR2.l2⟩
      · rw [gl]
        show _ ↔ F i j ∨ (i, j) ∈ (gl k0 cs.length).fol ++ prodL (gl k0 cs.length).lst (gl k0 cs.length).fst
        rw [List.mem_append, mem_prodL, or_assoc]
      · rw [gl]
        exact h3 _ _ hR2.fst (nd _)
      · rw [gl]
        exact h3 _ _ hR2.lst (nd _)
    · have hw := vstrN e4
      have hem : e = .maybe k0 := by
        rcases hwk with ⟨_, h⟩ | ⟨h, _⟩
        · exact h
        · exact absurd h hw
      refine ⟨_, rfl, _, rfl, fin H2 ?_⟩
      rw [hpl, hle]
      subst hem
      refine ⟨hR2.fr, hR2.le, hR2.k0, hR2.rw.eqv fun i j => ?_, ?_, ?_, hR2.f1, hR2.f2, hR2.l1, hR2.l2⟩
      · rw [gl]
      · rw [gl]
        exact hR2.fst
      · rw [gl]
        exact hR2.lst
end
end My
namespace My
open PySem PySem.Spec PyProof.Rows L2
theorem boot_sorted : bootBuiltins "sorted" = some (.builtin "sorted") := by decide +kernel
def rTupOf (K : PySem.W.Frag) : List V → Hp → VK → Prop := fun xs H Q => ∃ p ys, xs = [.ref p] ∧ ((SqL K H p ys ∧ ∀ l, H l = none → Q (.ref l) (upd H l (.tup ys))) ∨ (SqT K H p ys ∧ Q (.ref p) H))
theorem call_tuple_ofK {X : Cx} : CallR X (.type "tuple") (rTupOf X.K) := call_tuple_of
theorem len_toList2 (z : Str) : z.cps.toList.length = z.length := Array.length_toList
theorem join_flat2 (ys : List Str) : (Txt.join sNo ys).cps.toList = (ys.map fun z => z.cps.toList).flatten := by
  rw [TL.join_eq]
  have e := TL.tl_join sNo ys
  have j : ∀ ps : List (List Nat), TL.joinL [] ps = ps.flatten := by
    intro ps
    induction ps with
    | nil => rfl
    | cons p ps ih =>
      cases ps with
      | nil => show p = (p :: []).flatten; simp
      | cons q r =>
        show p ++ ([] ++ TL.joinL [] (q :: r)) = _
        rw [ih]
        rfl
  have n : TL.tl sNo = [] := by decide +kernel
  rw [n, j] at e
  exact e
/-! ### a class's calls -/
structure Ck (P : Program) (w : World) (K : PySem.W.Frag) (mg : Str → Option Value) (base : Heap) (k : Nat) (x : Str) (ps : List Str) (sp : Sp) (C : Addr) : Prop where
  ex : ∃ (f : Addr) (fd : FuncData), Mk K C f ∧ FnOk P w K mg base CX0 k f fd ps sp ∧ Binds K fd ps [] ∧ mg x = some (.ref C)
theorem pe_mk {X : Cx} {k : Nat} {x : Str} {ps : List Str} {sp : Sp} {C : Addr} {p pos : Pos} {e : Expr} {es : List Expr} {t : TA} (h : Ck X.prog X.w X.K X.mg X.base k x ps sp C) (hr : Room (k + 1) X.A) (hg : L2.Gl X x) (ha : PA X (e :: es) t)
    (hdb : (x == ("__debug__" : Str)) = false := by decide) (he : starEach (e :: es) X.env = (false, eval e X.env) :: starEach es X.env := by rfl) (hpl : (backTo pos (starEach es X.env)).any (·.1) = false := by rfl) :
    PE X (.Call (.Name x p) (e :: es) [] pos) (tMake C sp [] E0 t) := by
  obtain ⟨f, fd, M, F, b, m⟩ := h.ex
  exact pe_make M F hr hg m b .nil pass0 ha hdb he hpl
/-! ### the object that tells the steps -/
theorem n1 : ¬ (("letters" : Str) = "empty") := by decide +kernel
theorem n2 : ¬ (("letters" : Str) = "first") := by decide +kernel
theorem n3 : ¬ (("letters" : Str) = "last") := by decide +kernel
theorem n4 : ¬ (("letters" : Str) = "following") := by decide +kernel
theorem n5 : ¬ (("empty" : Str) = "first") := by decide +kernel
theorem n6 : ¬ (("empty" : Str) = "last") := by decide +kernel
theorem n7 : ¬ (("empty" : Str) = "following") := by decide +kernel
theorem n8 : ¬ (("first" : Str) = "last") := by decide +kernel
theorem n9 : ¬ (("first" : Str) = "following") := by decide +kernel
theorem n0 : ¬ (("last" : Str) = "following") := by decide +kernel
def stF (z b f l o : V) : List (Str × V) := putF "following" o (putF "last" l (putF "first" f (putF "empty" b (putF "letters" z []))))
theorem stF_letters (z b f l o : V) : (stF z b f l o).lookup ("letters" : Str) = some z := by
  unfold stF
  rw [lookup_putF, if_neg n4, lookup_putF, if_neg n3, lookup_putF, if_neg n2, lookup_putF, if_neg n1, lookup_putF, if_pos rfl]
theorem stF_first (z b f l o : V) : (stF z b f l o).lookup ("first" : Str) = some f := by
  unfold stF
  rw [lookup_putF, if_neg n9, lookup_putF, if_neg n8, lookup_putF, if_pos rfl]
theorem stF_last (z b f l o : V) : (stF z b f l o).lookup ("last" : Str) = some l := by
  unfold stF
  rw [lookup_putF, if_neg n0, lookup_putF, if_pos rfl]
theorem stF_following (z b f l o : V) : (stF z b f l o).lookup ("following" : Str) = some o := by
  unfold stF
  rw [lookup_putF, if_pos rfl]
theorem putF_len (f : Str) (v : V) : ∀ fs : List (Str × V), (putF f v fs).length ≤ fs.length + 1
  | [] => Nat.le_refl _
  | (g, x) :: r => by
    have := putF_len f v r
    unfold putF
    split
    · exact Nat.le_succ _
    · rw [List.length_cons, List.length_cons]; omega
structure StTxt (K : PySem.W.Frag) (C : Addr) : Prop where
  cl : Cls K C
  a1 : NoAttr K C "letters"
  a2 : NoAttr K C "empty"
  a3 : NoAttr K C "first"
  a4 : NoAttr K C "last"
  a5 : NoAttr K C "following"
def spInit (C : Addr) : Sp := fun vs H Q _ => ∃ (p dx : Addr) (z b f l o : V), vs = [.ref p, z, b, f, l, o] ∧ H p = some (.ins C dx []) ∧ ∀ H' : Hp, H' p = some (.ins C dx (stF z b f l o)) → (∀ q u, H q = some u → q ≠ p → H' q = some u) → Q .non H'
def folAt (e : E) (i : Nat) : List Nat := (List.range e.places).filter fun j => decide ((i, j) ∈ (gl e 0).fol)
structure StepsAt (C : Addr) (H : Hp) (p : Addr) (e : E) : Prop where
  ex : ∃ (dx f l o : Addr) (z : Str) (ts : List V), H p = some (.ins C dx (stF (.str z) (.bl (gl e 0).nul) (.ref f) (.ref l) (.ref o))) ∧ z.cps.toList = e.letters ∧ H f = some (.tup (natsV (gl e 0).fst)) ∧ H l = some (.tup (natsV (gl e 0).lst)) ∧ H o = some (.lst ts) ∧ ts.length = e.places ∧
    ∀ i t, ts[i]? = some t → ∃ q, t = .ref q ∧ H q = some (.tup (natsV (folAt e i)))
theorem StepsAt.same {C : Addr} {H H' : Hp} {p : Addr} {e : E} (s : Same H H') (h : StepsAt C H p e) : StepsAt C H' p e := by
  obtain ⟨dx, f, l, o, z, ts, h1, h2, h3, h4, h5, h6, h7⟩ := h.ex
  refine ⟨dx, f, l, o, z, ts, s _ _ h1, h2, s _ _ h3, s _ _ h4, s _ _ h5, h6, fun i t ht => ?_⟩
  obtain ⟨q, a, b⟩ := h7 i t ht
  exact ⟨q, a, s _ _ b⟩
def spSteps (C : Addr) : Sp := fun vs H Q _ => ∃ (v : V) (e : E), vs = [v] ∧ e.ok = true ∧ e.depth < 42 ∧ e.places ≤ 40 ∧ Rep H v e.toD ∧ ∀ p H', Same H H' → StepsAt C H' p e → Q (.ref p) H'
/-- strictly rising lists with the same members -/
theorem eq_of_rise : ∀ (a b : List Int), a.Pairwise (· < ·) → b.Pairwise (· < ·) → (∀ x, x ∈ a ↔ x ∈ b) → a = b
  | [], [], _, _, _ => rfl
  | [], y :: b, _, _, h => by have := (h y).mpr (List.mem_cons_self ..); cases this
  | x :: a, [], _, _, h => by have := (h x).mp (List.mem_cons_self ..); cases this
  | x :: a, y :: b, ha, hb, h => by
    rw [List.pairwise_cons] at ha hb
    have e : x = y := by
      rcases List.mem_cons.mp ((h x).mp (List.mem_cons_self ..)) with c | c
      · exact c
      · rcases List.mem_cons.mp ((h y).mpr (List.mem_cons_self ..)) with d | d
        · exact d.symm
        · have := hb.1 x c
          have := ha.1 y d
          omega
    subst e
    rw [eq_of_rise a b ha.2 hb.2 fun z => ?_]
    constructor
    · intro hz
      rcases List.mem_cons.mp ((h z).mp (List.mem_cons_of_mem _ hz)) with c | c
      · have := ha.1 z hz
        omega
      · exact c
    · intro hz
      rcases List.mem_cons.mp ((h z).mpr (List.mem_cons_of_mem _ hz)) with c | c
      · have := hb.1 z hz
        omega
      · exact c
theorem rise_of {ks ys : List Int} (h : ys.Perm ks) (s : ys.Pairwise (· ≤ ·)) (n : ks.Nodup) : ys.Pairwise (· < ·) := by
  have n' : ys.Nodup := h.nodup_iff.mpr n
  exact (s.and n').imp fun ⟨a, b⟩ => by omega
theorem fol_rise (e : E) (i : Nat) : ((folAt e i).map fun (j : Nat) => (j : Int)).Pairwise (· < ·) := by
  rw [List.pairwise_map]
  unfold folAt
  refine (List.pairwise_lt_range.filter _).imp fun h => by omega
theorem natsV_int (xs : List Nat) : natsV xs = (xs.map fun (j : Nat) => (j : Int)).map V.int := by
  unfold natsV
  rw [List.map_map]
  rfl
section
variable {P : Program} {w : World} {K : PySem.W.Frag} {mg : Str → Option Value} {base : Heap} {a_BOUNDS a_LONG_BOUNDS : Addr} {tL tM : Tok}
abbrev N_Steps___init__ : List Str := ["self", "letters", "empty", "first", "last", "following"]
theorem sc_Steps___init__ : FnScope ["self", "letters", "empty", "first", "last", "following"] ["self", "letters", "empty", "first", "last", "following"] (defScope s_Steps___init__) := ⟨rfl, rfl, rfl, by decide +kernel, rfl, by decide +kernel, by decide +kernel⟩
theorem ok_stepsinit {C f : Addr} {fd : FuncData} (F : Fun K "__init__" "Steps.__init__" s_Steps___init__ f fd) (T : StTxt K C) : FnOk P w K mg base CX0 1 f fd ["self", "letters", "empty", "first", "last", "following"] (spInit C) := by
  refine F.ok sc_Steps___init__ (fun vs H Q Ex h => ?_) (fun cdv A outer s H vs Q Ex hr h => ?_)
  · obtain ⟨p, dx, z, b, f, l, o, rfl, _⟩ := h
    rfl
  obtain ⟨p, dx, z, b, f, l, o, rfl, hp, q⟩ := h
  refine ⟨_, (pss_cons (ps_fld (pv 0) (pv 1) rfl)
    (pss_cons (ps_fld (pv 0) (pv 2) rfl)
    (pss_cons (ps_fld (pv 0) (pv 3) rfl)
    (pss_cons (ps_fld (pv 0) (pv 4) rfl)
    (pss_one (ps_fld (pv 0) (pv 5) rfl)))))), ?_⟩
  have L0 : (putF "letters" z ([] : List (Str × V))).length ≤ 1 := putF_len _ _ _
  have L1 := putF_len "empty" b (putF "letters" z [])
  have L2' := putF_len "first" f (putF "empty" b (putF "letters" z []))
  have L3 := putF_len "last" l (putF "first" f (putF "empty" b (putF "letters" z [])))
  refine ⟨_, rfl, _, rfl, p, C, dx, _, rfl, hp, T.cl, T.a1, (by show 0 < 1000; decide), ?_⟩
  refine ⟨_, rfl, _, rfl, p, C, dx, _, rfl, upd_same, T.cl, T.a2, (by omega), ?_⟩
  refine ⟨_, rfl, _, rfl, p, C, dx, _, rfl, upd_same, T.cl, T.a3, (by omega), ?_⟩
  refine ⟨_, rfl, _, rfl, p, C, dx, _, rfl, upd_same, T.cl, T.a4, (by omega), ?_⟩
  refine ⟨_, rfl, _, rfl, p, C, dx, _, rfl, upd_same, T.cl, T.a5, (by omega), ?_⟩
  exact q _ upd_same fun x u hx hn => by rw [upd_ne hn, upd_ne hn, upd_ne hn, upd_ne hn, upd_ne hn]; exact hx
abbrev N_steps_of : List Str := ["expression", "letters", "rows", "empty", "first", "last", "following", "row"]
theorem sc_steps_of : FnScope ["expression", "letters", "rows", "empty", "first", "last", "following", "row"] ["expression"] (defScope s_steps_of) := ⟨rfl, rfl, rfl, by decide +kernel, rfl, by decide +kernel, by decide +kernel⟩
set_option maxHeartbeats 1000000 in
theorem ok_stepsof {C f : Addr} {fd : FuncData} (B : Bt K mg a_BOUNDS a_LONG_BOUNDS tL tM) (Dd : Df K mg "steps_of" s_steps_of ["expression"] f fd) (G_ends_of : Cl P w K mg base 86 "_ends_of" ["part", "letters", "rows"] (spEnds 42)) (MSteps : Ck P w K mg base 1 "Steps" ["self", "letters", "empty", "first", "last", "following"] (spInit C) C) : FnOk P w K mg base CX0 87 f fd ["expression"] (spSteps C) := by
  refine Dd.F.ok sc_steps_of (fun vs H Q Ex h => ?_) (fun cdv A outer s H vs Q Ex hr h => ?_)
  · obtain ⟨v, e, rfl, _⟩ := h
    rfl
  obtain ⟨v, e, rfl, hok, hd, hpl, hR, q⟩ := h
  refine ⟨_, (pss_cons (ps_set (i := 1) sc_steps_of.nd rfl (Or.inl rfl) (pe_lst pa_nil))
    (pss_cons (ps_set (i := 2) sc_steps_of.nd rfl (Or.inl rfl) (pe_lst pa_nil))
    (pss_cons (ps_asg (pe_cl G_ends_of (hr.mono (by omega)) rfl (pa_cons (pv 0) (pa_cons (pv 1) (pa_cons (pv 2) pa_nil)))) (pg_tup rfl (pgs_cons (pg_name (i := 3) sc_steps_of.nd rfl (Or.inl rfl)) (pgs_cons (pg_name (i := 4) sc_steps_of.nd rfl (Or.inl rfl)) (pgs_cons (pg_name (i := 5) sc_steps_of.nd rfl (Or.inl rfl)) pgs_nil)))))
    (pss_cons (ps_setLc (i := 6) (own := [("row", 7)]) (g := gName 7) (tt := tYes) rfl sc_steps_of.nd rfl rfl (sw_true rfl rfl rfl (by decide +kernel)) (pi_list (pv 2)) (blkOk_by (N := N_steps_of) (sc := defScope s_steps_of) (by decide +kernel)) (fun _ _ _ _ _ => pg_name (i := 7) sc_steps_of.nd rfl (Or.inl rfl)) (fun _ _ _ _ _ => pts_nil) (fun _ _ _ _ _ => (pe_callTy (r := rTupOf K) call_tuple_ofK rfl B.b_tuple boot_tuple (pa_cons (pe_callB (call_sortedDI rfl) rfl B.b_sorted boot_sorted (pa_cons (pv 7) pa_nil)) pa_nil))))
    (pss_one (ps_ret (pe_mk MSteps (hr.mono (by omega)) rfl (pa_cons (pe_join pe_str (pv 1)) (pa_cons (pv 3) (pa_cons (pe_callTy call_tuple_of rfl B.b_tuple boot_tuple (pa_cons (pv 4) pa_nil)) (pa_cons (pe_callTy call_tuple_of rfl B.b_tuple boot_tuple (pa_cons (pv 5) pa_nil)) (pa_cons (pv 6) pa_nil)))))))))))), ?_⟩
  refine ⟨Nat.zero_le _, fun la hla => ⟨Nat.zero_le _, fun ra hra => ?_⟩⟩
  have s0 := (same_upd (o := .lst []) hla).trans (same_upd (o := .lst []) hra)
  have hne : la ≠ ra := fun c => by rw [← c, upd_same] at hra; cases hra
  have hLe : LetAt (upd (upd H la (.lst [])) ra (.lst [])) la [] := (same_upd hra) _ _ upd_same
  have hRw : RowsAt H (upd (upd H la (.lst [])) ra (.lst [])) ra 0 (fun _ _ => False) := ⟨⟨[], upd_same, rfl, List.nodup_nil, fun i d h => by simp at h⟩, fun i j h => h.elim, fun i j h => h.elim, fun ds hds d hd => by
    rw [upd_same] at hds
    have e1 : ([] : List Addr).map V.ref = ds.map V.ref := HO.lst.inj (Option.some.inj hds)
    have e2 : [] = ds := map_ref_inj e1
    rw [← e2] at hd
    cases hd⟩
  refine ⟨_, rfl, _, rfl, _, rfl, H, v, la, ra, e, [], _, rfl, hok, hd, hR.pers (Pers.same s0), ⟨hne, hLe, hRw, s0, hla, (same_upd hla).free hra, by show 0 + e.places ≤ 40; omega⟩, fun t f0 l0 H2 ht hE => ?_⟩
  refine ⟨t, _, rfl, SqT.of ht, rfl, _, _, rfl, _, _, rfl, _, _, rfl, rfl, ?_⟩
  obtain ⟨ds, d1, d2, d3, d4⟩ := hE.rw.ex
  have W := gl_within e 0
  -- following
  refine ⟨_, rfl, ra, rfl, ⟨_, SqL.of d1⟩, fun L hL => ?_⟩
  refine lc_list (K := K) (a := ra) (xs := ds.map V.ref) (fun i H3 => Same H2 H3 ∧ ∃ ts : List V, ts.length = i ∧ H3 L = some (.lst ts) ∧ ∀ j t, ts[j]? = some t → ∃ q, t = .ref q ∧ q ≠ L ∧ H3 q = some (.tup (natsV (folAt e j)))) ⟨same_upd hL, [], rfl, upd_same, fun j t h => by simp at h⟩ (fun i H3 _ h => SqL.of (h.1 _ _ d1)) (fun i x H3 hx h => ?_) (fun H3 h => ?_)
  · obtain ⟨h1, ts, h2, h3, h4⟩ := h
    rw [List.getElem?_map] at hx
    obtain ⟨d, hdd, rfl⟩ := Option.map_eq_some_iff.mp hx
    have hi := (List.getElem?_eq_some_iff.mp hdd).1
    obtain ⟨ms, m1, m2, m3⟩ := d4 i d hdd
    have hml : ms.length ≤ 40 := nodup_len 40 ms m2 fun x hx => by
      obtain ⟨j, rfl, hf⟩ := (m3 x).mp hx
      have := hE.rw.bd i j hf
      omega
    refine ⟨rfl, tyes ⟨_, rfl, d, keysD ms, ms, rfl, .inl (h1 _ _ m1), ?_, by omega, fun ys p hp1 hp2 hp3 => ⟨p, _, rfl, .inl ⟨SqL.of upd_same, fun q hq => ⟨ts, ?_, ?_, ?_, ts ++ [.ref q], by rw [List.length_append, h2]; rfl, upd_same, fun j t ht => ?_⟩⟩⟩⟩⟩
    · unfold keysD
      rw [List.map_map]
      rfl
    · exact (same_upd hq) _ _ ((same_upd hp3) _ _ h3)
    · have hdl : i < ds.length := hi
      have : ds.length = 0 + e.places := d2
      exact Nat.lt_of_le_of_lt (m := 40) (by omega) (by decide)
    · exact fun b o hb => by rw [upd_ne (ne_of_none hb hL)]; exact (same_upd hq) _ _ ((same_upd hp3) _ _ (h1 _ _ hb))
    · have hqL : q ≠ L := (ne_of_none ((same_upd hp3) _ _ h3) hq).symm
      rcases Nat.lt_or_ge j ts.length with hj | hj
      · rw [List.getElem?_append_left hj] at ht
        obtain ⟨q', a1, a2, a3⟩ := h4 j t ht
        exact ⟨q', a1, a2, by rw [upd_ne a2]; exact (same_upd hq) _ _ ((same_upd hp3) _ _ a3)⟩
      · rw [List.getElem?_append_right hj] at ht
        have hj2 : j - ts.length = 0 := by
          have := (List.getElem?_eq_some_iff.mp ht).1
          simp at this
          omega
        rw [hj2] at ht
        cases ht
        have hji : j = i := by omega
        subst hji
        refine ⟨q, rfl, hqL, ?_⟩
        rw [upd_ne hqL, upd_same]
        have e1 : ys = (folAt e j).map fun (k : Nat) => (k : Int) := by
          refine eq_of_rise _ _ (rise_of hp1 hp2 m2) (fol_rise e j) fun x => ?_
          rw [hp1.mem_iff, m3]
          unfold folAt
          constructor
          · rintro ⟨k, rfl, hf | hf⟩
            · exact hf.elim
            · exact List.mem_map.mpr ⟨k, List.mem_filter.mpr ⟨List.mem_range.mpr (by have := (W.fol j k hf).2; omega), decide_eq_true hf⟩, rfl⟩
          · intro hx
            obtain ⟨k, hk, rfl⟩ := List.mem_map.mp hx
            exact ⟨k, rfl, .inr (of_decide_eq_true (List.mem_filter.mp hk).2)⟩
        rw [e1, natsV_int]
  · obtain ⟨h1, ts, h2, h3, h4⟩ := h
    have hle := h1 _ _ hE.le
    have hcs : ([] ++ e.letters : List Nat).length = e.places := by rw [List.nil_append, letters_len]
    -- Steps(..)
    refine ⟨⟨_, rfl⟩, _, rfl, sNo, la, ([] ++ e.letters).map (fun c => (⟨#[c]⟩ : Str)), rfl, rfl, .inl (SqL.of (by rw [List.map_map]; exact hle)), ?_, ?_⟩
    · have : (([] ++ e.letters).map (fun c => (⟨#[c]⟩ : Str))).map Str.length = List.replicate e.places 1 := by
        rw [List.map_map, ← hcs, ← List.map_const']
        rfl
      show ((([] ++ e.letters).map (fun c => (⟨#[c]⟩ : Str))).map Str.length).sum + _ ≤ _
      rw [this, List.sum_replicate_nat, lE]
      omega
    have hz : (Txt.join sNo (([] ++ e.letters).map (fun c => (⟨#[c]⟩ : Str)))).cps.toList = e.letters := by
      rw [join_flat2, List.map_map, List.nil_append]
      generalize e.letters = cs
      induction cs with
      | nil => rfl
      | cons c cs ih =>
        rw [List.map_cons, List.flatten_cons, ih]
        rfl
    have hf3 := h1 _ _ hE.fst
    have hl3 := h1 _ _ hE.lst
    refine ⟨_, rfl, _, rfl, f0, _, rfl, .inl ⟨SqL.of hf3, fun ft hft => ⟨_, rfl, l0, _, rfl, .inl ⟨SqL.of ((same_upd hft) _ _ hl3), fun lt hlt => ⟨_, rfl, fun x dx hx hdx hdn => ?_⟩⟩⟩⟩⟩
    refine ⟨x, dx, _, _, _, _, _, rfl, upd_same, fun H' hH' kp => ⟨rfl, ?_⟩⟩
    have sft := same_upd (o := .tup (natsV (gl e 0).fst)) hft
    have slt := same_upd (o := .tup (natsV (gl e 0).lst)) hlt
    have keep : ∀ b o, (upd (upd H3 ft (.tup (natsV (gl e 0).fst))) lt (.tup (natsV (gl e 0).lst))) b = some o → H' b = some o := fun b o hb => kp b o (by rw [upd_ne (ne_of_none hb hx), upd_ne (ne_of_none hb hdx)]; exact hb) (ne_of_none hb hx)
    have S3 : Same H3 H' := fun b o hb => keep b o (slt _ _ (sft _ _ hb))
    refine q x H' ((hE.k0.trans h1).trans S3) ⟨dx, ft, lt, L, _, ts, hH', hz, keep _ _ (slt _ _ upd_same), keep _ _ upd_same, S3 _ _ h3, ?_, fun i t ht => ?_⟩
    · rw [h2, List.length_map, d2]
      show 0 + e.places = e.places
      omega
    · obtain ⟨q', a1, a2, a3⟩ := h4 i t ht
      exact ⟨q', a1, S3 _ _ a3⟩
end
end My
namespace My
open PySem PySem.Spec PyProof.Rows L2
theorem boot_set : bootBuiltins "set" = some (.type "set") := by decide +kernel
theorem boot_sorted2 : bootBuiltins "sorted" = some (.builtin "sorted") := by decide +kernel
def spBehind (C : Addr) : Sp := fun vs H Q _ => ∃ (p r : Addr) (e : E) (xs : List Nat), vs = [.ref p, .ref r] ∧ StepsAt C H p e ∧ e.places ≤ 40 ∧ H r = some (.tup (natsV xs)) ∧ (∀ x ∈ xs, x < e.places) ∧ xs.length ≤ 1000 ∧
  ∀ (q : Addr) (ys : List Nat) H', Same H H' → H q = none → H' q = some (.lst (natsV ys)) → ys.Pairwise (· < ·) → (∀ y, y ∈ ys ↔ ∃ x ∈ xs, (x, y) ∈ (gl e 0).fol) → Q (.ref q) H'
/-- a set of places, told by a list of its members -/
def SetM (w : World) (H : Hp) (S : Addr) (ms : List Int) : Prop := ∃ (Sf : Int → Bool) (n : Nat), H S = some (SetO w S Sf n) ∧ (∀ k, Sf k = decide (k ∈ ms)) ∧ n = ms.length ∧ ms.Nodup
theorem mem_fol (e : E) (x y : Nat) : y ∈ folAt e x ↔ (x, y) ∈ (gl e 0).fol := by
  unfold folAt
  rw [List.mem_filter, List.mem_range, decide_eq_true_eq]
  exact ⟨fun h => h.2, fun h => ⟨by have := ((gl_within e 0).fol x y h).2; omega, h⟩⟩
theorem natsV_getB {xs : List Nat} {m : Nat} {y : V} (h : (natsV xs)[m]? = some y) : ∃ i, xs[m]? = some i ∧ y = .int (i : Int) := by
  unfold natsV at h
  rw [List.getElem?_map] at h
  obtain ⟨i, h1, rfl⟩ := Option.map_eq_some_iff.mp h
  exact ⟨i, h1, rfl⟩
section
variable {P : Program} {w : World} {K : PySem.W.Frag} {mg : Str → Option Value} {base : Heap} {a_BOUNDS a_LONG_BOUNDS : Addr} {tL tM : Tok}
abbrev N_places_behind : List Str := ["steps", "row", "found", "place", "other"]
theorem sc_places_behind : FnScope ["steps", "row", "found", "place", "other"] ["steps", "row"] (defScope s_places_behind) := ⟨rfl, rfl, rfl, by decide +kernel, rfl, by decide +kernel, by decide +kernel⟩
theorem ok_behind {C f : Addr} {fd : FuncData} (T : StTxt K C) (B : Bt K mg a_BOUNDS a_LONG_BOUNDS tL tM) (Dd : Df K mg "places_behind" s_places_behind ["steps", "row"] f fd) : FnOk P w K mg base CX0 1 f fd ["steps", "row"] (spBehind C) := by
  refine Dd.F.ok sc_places_behind (fun vs H Q Ex h => ?_) (fun cdv A outer s H vs Q Ex hr h => ?_)
  · obtain ⟨p, r, e, xs, rfl, _⟩ := h
    rfl
  obtain ⟨p, r, e, xs, rfl, hS, h40, hr0, hxs, hxl, q⟩ := h
  refine ⟨_, (pss_cons (ps_set (i := 2) sc_places_behind.nd rfl (Or.inl rfl) (pe_callTy0 cr_set0 rfl B.b_set boot_set))
    (pss_cons (ps_for PassesOwn.never rfl (pi_tup (pv 1)) (pg_name (i := 3) sc_places_behind.nd rfl (Or.inl rfl)) (pss_one (ps_for PassesOwn.never rfl (pi_tup (pe_ix (r := rIxL K) ix_list (pe_fld (pv 0) rfl) (pv 3) (fun _ _ => rfl))) (pg_name (i := 4) sc_places_behind.nd rfl (Or.inl rfl)) (pss_one (ps_expr (pe_sadd (pv 2) (pa_cons (pv 4) pa_nil)))))))
    (pss_one (ps_ret (pe_callB (cr_sortedSet rfl) rfl B.b_sorted boot_sorted (pa_cons (pv 2) pa_nil)))))), ?_⟩
  refine ⟨rfl, fun S hS0 => ?_⟩
  have base0 : SetM w (upd H S (SetO w S (fun _ => false) 0)) S [] := ⟨_, _, upd_same, fun k => (decide_eq_false (by intro h; cases h)).symm, rfl, List.nodup_nil⟩
  have rS : r ≠ S := ne_of_none hr0 hS0
  refine ⟨_, rfl, r, rfl, ⟨_, SqT.of ((same_upd hS0) _ _ hr0)⟩, for_tup (K := K) (a := r) (xs := natsV xs) (fun m σ' H' => ∃ (ms : List Int) (o3 o4 : Option V), σ' = [some (.ref p), some (.ref r), some (.ref S), o3, o4] ∧ Same H H' ∧ SetM w H' S ms ∧ ∀ k, k ∈ ms ↔ ∃ y : Nat, k = (y : Int) ∧ ∃ x ∈ xs.take m, (x, y) ∈ (gl e 0).fol) ?_ ?_ ?_ ?_⟩
  · exact ⟨[], none, none, rfl, same_upd hS0, base0, fun k => ⟨(fun h => by cases h), fun ⟨y, _, x, h, _⟩ => by cases h⟩⟩
  · rintro m σ' H' hm ⟨ms, o3, o4, rfl, s1, _⟩
    exact SqT.of (s1 _ _ hr0)
  · rintro m v σ' H1 hv ⟨ms, o3, o4, rfl, s1, hM, hms⟩
    obtain ⟨x, hx, rfl⟩ := natsV_getB hv
    have hxp := hxs x (List.mem_of_getElem? hx)
    obtain ⟨dx, f0, l0, o, z, ts, h1, h2, h3, h4, h5, h6, h7⟩ := (hS.same s1).ex
    obtain ⟨q1, e1, e2⟩ := h7 x _ (List.getElem?_eq_getElem (by omega))
    obtain ⟨dx', f0', l0', o', z', ts', h1', h2', h3', h4', h5', h6', h7'⟩ := hS.ex
    have ho : ∃ q2, H q2 = some (.tup (natsV (folAt e x))) ∧ q2 = q1 := by
      obtain ⟨q2, e3, e4⟩ := h7' x _ (List.getElem?_eq_getElem (by omega))
      have a1 := s1 _ _ h1'
      rw [h1] at a1
      have a2 : stF (.str z) (.bl (gl e 0).nul) (.ref f0) (.ref l0) (.ref o) = stF (.str z') (.bl (gl e 0).nul) (.ref f0') (.ref l0') (.ref o') := (HO.ins.inj (Option.some.inj a1)).2.2
      have a3 := congrArg (fun fs => fs.lookup ("following" : Str)) a2
      have a4 : (V.ref o) = .ref o' := by
        have b1 := stF_following (.str z) (.bl (gl e 0).nul) (.ref f0) (.ref l0) (.ref o)
        have b2 := stF_following (.str z') (.bl (gl e 0).nul) (.ref f0') (.ref l0') (.ref o')
        exact Option.some.inj (b1.symm.trans (a3.trans b2))
      have a5 := V.ref.inj a4
      subst a5
      have a6 := s1 _ _ h5'
      rw [h5] at a6
      have a7 : ts = ts' := HO.lst.inj (Option.some.inj a6)
      subst a7
      exact ⟨q2, e4, V.ref.inj (e3.symm.trans e1)⟩
    obtain ⟨q2, hq2, rfl⟩ := ho
    refine ⟨_, rfl, p, C, dx, _, _, rfl, h1, T.cl, T.a5, stF_following .., _, rfl, o, ts, (x : Int), ts[x]'(by omega), rfl, rfl, SqL.of h5, at_of (j := x) rfl (List.getElem?_eq_getElem (by omega)), q2, e1, ⟨_, SqT.of e2⟩, for_tup (K := K) (a := q2) (xs := natsV (folAt e x)) (fun c σ' H' => ∃ (ms : List Int) (o4 : Option V), σ' = [some (.ref p), some (.ref r), some (.ref S), some (.int (x : Int)), o4] ∧ Same H H' ∧ SetM w H' S ms ∧ ∀ k, k ∈ ms ↔ (∃ y : Nat, k = (y : Int) ∧ ∃ x ∈ xs.take m, (x, y) ∈ (gl e 0).fol) ∨ ∃ y : Nat, k = (y : Int) ∧ y ∈ (folAt e x).take c) ?_ ?_ ?_ ?_⟩
    · exact ⟨ms, o4, rfl, s1, hM, fun k => (hms k).trans ⟨.inl, fun h => h.elim id fun ⟨y, _, h⟩ => by cases h⟩⟩
    · rintro c σ' H' hc ⟨ms', o4', rfl, s2, _⟩
      exact SqT.of (s2 _ _ hq2)
    · rintro c v2 σ' H2 hv2 ⟨ms', o4', rfl, s2, ⟨Sf, n, hSs, hSf, hn, hnd⟩, hms'⟩
      obtain ⟨y, hy, rfl⟩ := natsV_getB hv2
      have hlen : ms'.length ≤ 40 := nodup_len 40 ms' hnd fun k hk => by
        have bd : ∀ a b, (a, b) ∈ (gl e 0).fol → b < e.places := fun a b h => by have := ((gl_within e 0).fol a b h).2; omega
        rcases (hms' k).mp hk with ⟨y, rfl, x', _, hf⟩ | ⟨y, rfl, hf⟩
        · have := bd _ _ hf
          omega
        · have := bd _ _ ((mem_fol e x y).mp (List.mem_of_mem_take hf))
          omega
      refine ⟨_, rfl, ⟨S, Sf, n, rfl, hSs⟩, _, rfl, S, (y : Int), Sf, n, rfl, rfl, hSs, ?_, addK ms' (y : Int), _, rfl, fun b o hb => ?_, ⟨_, _, upd_same, fun k => ?_, ?_, nodup_addK hnd⟩, fun k => ?_⟩
      · rw [hn]
        exact Nat.lt_of_le_of_lt (m := 41) (by omega) (by decide)
      · rw [upd_ne (ne_of_none hb hS0)]
        exact s2 _ _ hb
      · rw [hSf, ← Bool.decide_or]
        exact decide_eq_decide.mpr mem_addK.symm
      · rw [hSf, hn]
        unfold addK
        by_cases c1 : (y : Int) ∈ ms'
        · rw [if_pos c1, decide_eq_true c1]
          rfl
        · rw [if_neg c1, decide_eq_false c1, List.length_append]
          rfl
      · rw [mem_addK, hms', take_snoc hy]
        constructor
        · rintro ((h | ⟨y', rfl, h⟩) | rfl)
          · exact .inl h
          · exact .inr ⟨y', rfl, List.mem_append_left _ h⟩
          · exact .inr ⟨y, rfl, List.mem_append_right _ (List.mem_singleton.mpr rfl)⟩
        · rintro (h | ⟨y', rfl, h⟩)
          · exact .inl (.inl h)
          · rcases List.mem_append.mp h with h | h
            · exact .inl (.inr ⟨y', rfl, h⟩)
            · rw [List.mem_singleton] at h
              subst h
              exact .inr rfl
    · rintro σ' H2 ⟨ms', o4', rfl, s2, hM2, hms'⟩
      have hfl : (natsV (folAt e x)).length = (folAt e x).length := natsV_len _
      rw [hfl, List.take_length] at hms'
      refine ⟨ms', _, _, rfl, s2, hM2, fun k => ?_⟩
      rw [hms', take_snoc hx]
      constructor
      · rintro (⟨y, rfl, x', h, hf⟩ | ⟨y, rfl, h⟩)
        · exact ⟨y, rfl, x', List.mem_append_left _ h, hf⟩
        · exact ⟨y, rfl, x, List.mem_append_right _ (List.mem_singleton.mpr rfl), (mem_fol e x y).mp h⟩
      · rintro ⟨y, rfl, x', h, hf⟩
        rcases List.mem_append.mp h with h | h
        · exact .inl ⟨y, rfl, x', h, hf⟩
        · rw [List.mem_singleton] at h
          subst h
          exact .inr ⟨y, rfl, (mem_fol e x' y).mpr hf⟩
  · rintro σ' H1 ⟨ms, o3, o4, rfl, s1, ⟨Sf, n, hSs, hSf, hn, hnd⟩, hms⟩
    have hxl' : (natsV xs).length = xs.length := natsV_len _
    rw [hxl', List.take_length] at hms
    have bd : ∀ k ∈ ms, 0 ≤ k ∧ k < 40 := fun k hk => by
      obtain ⟨y, rfl, x, _, hf⟩ := (hms k).mp hk
      have := ((gl_within e 0).fol x y hf).2
      omega
    have hlen : ms.length ≤ 40 := nodup_len 40 ms hnd bd
    refine ⟨_, rfl, S, Sf, n, rfl, hSs, by omega, fun ns p' hpw hmem _ hp' => ?_⟩
    have mm : ∀ k, k ∈ ns ↔ k ∈ ms := fun k => by rw [hmem, hSf, decide_eq_true_eq]
    have nn : ∀ k ∈ ns, 0 ≤ k := fun k hk => (bd k ((mm k).mp hk)).1
    have ev : natsV (ns.map Int.toNat) = ns.map V.int := by
      unfold natsV
      rw [List.map_map]
      refine List.map_congr_left fun k hk => ?_
      have := nn k hk
      show V.int ((k.toNat : Nat) : Int) = V.int k
      rw [Int.toNat_of_nonneg this]
    refine q p' (ns.map Int.toNat) _ (s1.trans (same_upd hp')) (s1.free hp') (by rw [upd_same, ev]) ?_ fun y => ?_
    · rw [List.pairwise_map]
      refine (List.pairwise_iff_forall_sublist.mpr fun {a b} hab => ?_)
      have h1 : a < b := List.pairwise_iff_forall_sublist.mp hpw hab
      have h2 := nn a (hab.subset (by simp))
      omega
    · constructor
      · intro hy
        obtain ⟨k, hk, rfl⟩ := List.mem_map.mp hy
        obtain ⟨y, rfl, x, hx, hf⟩ := (hms k).mp ((mm k).mp hk)
        exact ⟨x, hx, hf⟩
      · rintro ⟨x, hx, hf⟩
        exact List.mem_map.mpr ⟨(y : Int), (mm _).mpr ((hms _).mpr ⟨y, rfl, x, hx, hf⟩), rfl⟩
end
end My
namespace My
open PySem PySem.Spec PyProof.Rows L2
theorem for_strB {z : Str} {g : TG} {tb : TS} {D : Ends} {σ : L2.St} {H : Hp} (Pv : Nat → L2.St → Hp → Prop) (h0 : Pv 0 σ H)
    (hs : ∀ i c σ H, z.cps[i]? = some c → Pv i σ H → g (.str ⟨#[c]⟩) σ H fun σ2 H2 => tb { D with nx := Pv (i + 1), ct := Pv (i + 1), bk := D.nx } σ2 H2) (hd : ∀ σ H, Pv z.cps.size σ H → D.nx σ H) :
    ∃ W : Nat → Nat → L2.St → Hp → Prop, (∃ m, W 0 m σ H) ∧ ∀ i m σ H, W i m σ H →
      ((Its z).stop i H ∧ D.nx σ H) ∨ ((Its z).go i H ∧ ∃ N : L2.St → Hp → Prop, (∀ σ' H', N σ' H' → ∃ m', m' < m ∧ W (i + 1) m' σ' H') ∧ ∀ x H', (Its z).yld i H x H' → g x σ H' fun σ2 H2 => tb { D with nx := N, ct := N, bk := D.nx } σ2 H2) := by
  refine ⟨fun i m σ H => m = z.cps.size - i ∧ i ≤ z.cps.size ∧ Pv i σ H, ⟨z.cps.size, by simp, Nat.zero_le _, h0⟩, ?_⟩
  rintro i m σ H ⟨rfl, hi, p⟩
  by_cases hlt : i < z.cps.size
  · refine .inr ⟨hlt, Pv (i + 1), fun σ' H' p' => ⟨z.cps.size - (i + 1), by omega, rfl, hlt, p'⟩, fun x H' y => ?_⟩
    obtain ⟨rfl, c, hc, rfl⟩ := y
    exact hs i c σ _ hc p
  · have e : i = z.cps.size := by omega
    subst e
    exact .inl ⟨Nat.le_refl _, hd σ H p⟩
theorem pe_fldB {X : Cx} {K : PySem.W.Frag} {o : Expr} {f : Str} {pos : Pos} {ta : TE} (hK : X.K = K) (ha : PE X o ta) (hb : attributeBase o f X.env (eval o X.env) = eval o X.env) : PE X (.Attribute o f pos) (tFld K ta f) := by
  subst hK
  exact pe_fld ha hb
/-- over a list or a tuple -/
def iSeqB (K : PySem.W.Frag) (tl : TE) : L2.TI := fun σ H R => iList K tl σ H R ∨ iTup K tl σ H R
theorem pi_seqB {X : Cx} {tg l : Expr} {tl : TE} (hl : PE X l tl) : PI X tg l (iSeqB X.K tl) := by
  refine ⟨fun pins s σ H R I h => ?_⟩
  rcases h with h | h
  · exact (pi_list hl).run pins s σ H R I h
  · exact (pi_tup hl).run pins s σ H R I h
/-! ### the candidates of a word -/
def behindL (e : E) (row : List Nat) : List Nat := (List.range e.places).filter fun y => row.any fun x => decide ((x, y) ∈ (gl e 0).fol)
def rowL (e : E) (near : List Nat) (c : Nat) : List Nat := near.filter fun i => decide (e.letters[i]? = some c)
def cstep (e : E) (s : List Nat × List (List Nat)) (c : Nat) : List Nat × List (List Nat) := (behindL e (rowL e s.1 c), s.2 ++ [rowL e s.1 c])
def cRun (e : E) (ws : List Nat) : List Nat × List (List Nat) := ws.foldl (cstep e) ((gl e 0).fst, [])
theorem cRun_snoc (e : E) (ws : List Nat) (c : Nat) : cRun e (ws ++ [c]) = cstep e (cRun e ws) c := by
  unfold cRun
  rw [List.foldl_append]
  rfl
def spCands (C : Addr) : Sp := fun vs H Q _ => ∃ (p : Addr) (z : Str) (e : E), vs = [.ref p, .str z] ∧ StepsAt C H p e ∧ e.places ≤ 40 ∧ z.length ≤ 1000 ∧
  ∀ (q : Addr) (ts : List V) H', Same H H' → H q = none → H' q = some (.lst ts) → Two (fun t row => ∃ a, t = V.ref a ∧ H' a = some (.tup (natsV row))) ts (cRun e z.cps.toList).2 → Q (.ref q) H'
theorem eq_of_riseN {a b : List Nat} (ha : a.Pairwise (· < ·)) (hb : b.Pairwise (· < ·)) (h : ∀ x, x ∈ a ↔ x ∈ b) : a = b := by
  have up : ∀ l : List Nat, l.Pairwise (· < ·) → (l.map fun (j : Nat) => (j : Int)).Pairwise (· < ·) := fun l hl => by
    rw [List.pairwise_map]
    exact hl.imp fun h => by omega
  have e := eq_of_rise _ _ (up a ha) (up b hb) fun x => by
    constructor
    · intro hx
      obtain ⟨y, hy, rfl⟩ := List.mem_map.mp hx
      exact List.mem_map.mpr ⟨y, (h y).mp hy, rfl⟩
    · intro hx
      obtain ⟨y, hy, rfl⟩ := List.mem_map.mp hx
      exact List.mem_map.mpr ⟨y, (h y).mpr hy, rfl⟩
  have e2 := congrArg (List.map Int.toNat) e
  rw [List.map_map, List.map_map] at e2
  have e3 : (Int.toNat ∘ fun (j : Nat) => (j : Int)) = id := funext fun j => rfl
  rw [e3, List.map_id, List.map_id] at e2
  exact e2
theorem behindL_mem (e : E) (row : List Nat) (y : Nat) : y ∈ behindL e row ↔ ∃ x ∈ row, (x, y) ∈ (gl e 0).fol := by
  unfold behindL
  rw [List.mem_filter, List.mem_range, List.any_eq_true]
  constructor
  · rintro ⟨_, x, hx, hf⟩
    exact ⟨x, hx, of_decide_eq_true hf⟩
  · rintro ⟨x, hx, hf⟩
    exact ⟨by have := ((gl_within e 0).fol x y hf).2; omega, x, hx, decide_eq_true hf⟩
section
variable {P : Program} {w : World} {K : PySem.W.Frag} {mg : Str → Option Value} {base : Heap} {a_BOUNDS a_LONG_BOUNDS : Addr} {tL tM : Tok}
abbrev N_candidates_of : List Str := ["steps", "word", "rows", "near", "letter", "row", "place"]
theorem sc_candidates_of : FnScope ["steps", "word", "rows", "near", "letter", "row", "place"] ["steps", "word"] (defScope s_candidates_of) := ⟨rfl, rfl, rfl, by decide +kernel, rfl, by decide +kernel, by decide +kernel⟩
theorem ok_cands {C f : Addr} {fd : FuncData} (T : StTxt K C) (B : Bt K mg a_BOUNDS a_LONG_BOUNDS tL tM) (Dd : Df K mg "candidates_of" s_candidates_of ["steps", "word"] f fd) (Gplaces_behind : Cl P w K mg base 1 "places_behind" ["steps", "row"] (spBehind C)) : FnOk P w K mg base CX0 2 f fd ["steps", "word"] (spCands C) := by
  refine Dd.F.ok sc_candidates_of (fun vs H Q Ex h => ?_) (fun cdv A outer s H vs Q Ex hr h => ?_)
  · obtain ⟨p, z, e, rfl, _⟩ := h
    rfl
  obtain ⟨p, z, e, rfl, hS, h40, hz, q⟩ := h
  refine ⟨_, (pss_cons (ps_set (i := 2) sc_candidates_of.nd rfl (Or.inl rfl) (pe_lst pa_nil))
    (pss_cons (ps_set (i := 3) sc_candidates_of.nd rfl (Or.inl rfl) (pe_fld (pv 0) rfl))
    (pss_cons (ps_for PassesOwn.never rfl (pi_str (pv 1)) (pg_name (i := 4) sc_candidates_of.nd rfl (Or.inr rfl)) (pss_cons (ps_set (i := 5) sc_candidates_of.nd rfl (Or.inl rfl) (pe_callTy (r := rTupOf K) call_tuple_ofK rfl B.b_tuple boot_tuple (pa_cons (pe_lc (own := [("place", 6)]) (g := gName 6) rfl sc_candidates_of.nd (pi_seqB (pv 3)) (blkOk_by (N := N_candidates_of) (sc := defScope s_candidates_of) (by decide +kernel)) (fun _ _ _ _ _ => pg_name (i := 6) sc_candidates_of.nd rfl (Or.inl rfl)) (fun _ _ _ _ _ => pts_one (pt_cmpR op_eq (pe_ix ix_str (pe_fldB (K := K) rfl (pv 0) rfl) (pv 6) (fun _ _ => rfl)) (pv 4) (nomark _))) (fun _ _ _ _ _ => (pv 6))) pa_nil)))
    (pss_cons (ps_expr (pe_bm PySem.F.plainAttrs_list PySem.F.slot_list_append PySem.F.type_list_append mt_append (pv 2) (pa_cons (pv 5) pa_nil)))
    (pss_one (ps_set (i := 3) sc_candidates_of.nd rfl (Or.inl rfl) (pe_cl Gplaces_behind (hr.mono (by omega)) rfl (pa_cons (pv 0) (pa_cons (pv 5) pa_nil))))))))
    (pss_one (ps_ret (pv 2)))))), ?_⟩
  obtain ⟨dx0, f0, l0, o0, z0, ts0, g1, g2, g3, g4, g5, g6, g7⟩ := hS.ex
  have SL := gl_len e 0
  refine ⟨(by show 0 ≤ sizeLine; decide), fun R hR0 => ?_⟩
  have sR := same_upd (o := .lst []) hR0
  have hRf : f0 ≠ R := ne_of_none g3 hR0
  refine ⟨_, rfl, p, C, dx0, _, _, rfl, sR _ _ g1, T.cl, T.a3, stF_first .., ?_⟩
  refine ⟨_, rfl, z, rfl, for_strB (z := z) (fun m σ' H' => ∃ (nr : Addr) (ts : List V) (o4 o5 : Option V), σ' = [some (.ref p), some (.str z), some (.ref R), some (.ref nr), o4, o5, none] ∧ Same H H' ∧ H' R = some (.lst ts) ∧ nr ≠ R ∧ (H' nr = some (.tup (natsV (cRun e (z.cps.toList.take m)).1)) ∨ H' nr = some (.lst (natsV (cRun e (z.cps.toList.take m)).1))) ∧ Two (fun t row => ∃ a, t = V.ref a ∧ H' a = some (.tup (natsV row))) ts (cRun e (z.cps.toList.take m)).2 ∧ ts.length = m ∧ (∀ x ∈ (cRun e (z.cps.toList.take m)).1, x < e.places) ∧ (cRun e (z.cps.toList.take m)).1.length ≤ 40) ?_ ?_ ?_⟩
  · exact ⟨f0, [], none, none, rfl, sR, upd_same, hRf, .inl (sR _ _ g3), .nil, rfl, fun x hx => by have := (gl_within e 0).fst x hx; omega, Nat.le_trans SL.fst h40⟩
  · rintro m c σ' H1 hc ⟨nr, ts, o4, o5, rfl, s1, hR1, hnR, hnr, hts, htl, hnb, hn40⟩
    have hcl : z.cps.toList[m]? = some c := by rw [Array.getElem?_toList]; exact hc
    have hm : m < z.length := by
      have := (List.getElem?_eq_some_iff.mp hcl).1
      rw [len_toList2] at this
      exact this
    have hrun := cRun_snoc e (z.cps.toList.take m) c
    rw [← take_snoc hcl] at hrun
    have hr1 : (cRun e (z.cps.toList.take (m + 1))).1 = behindL e (rowL e (cRun e (z.cps.toList.take m)).1 c) := by rw [hrun]; rfl
    have hr2 : (cRun e (z.cps.toList.take (m + 1))).2 = (cRun e (z.cps.toList.take m)).2 ++ [rowL e (cRun e (z.cps.toList.take m)).1 c] := by rw [hrun]; rfl
    rw [hr1, hr2]
    clear hrun hr1 hr2
    obtain ⟨dx, f1, l1, o1, z', ts1, h1, h2, h3, h4, h5, h6, h7⟩ := (hS.same s1).ex
    revert hnr hts hnb hn40
    generalize (cRun e (z.cps.toList.take m)).2 = rows
    generalize (cRun e (z.cps.toList.take m)).1 = near
    intro hnr hts hnb hn40
    rcases hnr with hnr | hnr
    · refine .inr ⟨_, rfl, nr, rfl, ⟨_, SqT.of hnr⟩, fun L hL => lc_tup (K := K) (a := nr) (xs := natsV near) (fun k H3 => Same H1 H3 ∧ H3 L = some (.lst (natsV (rowL e (near.take k) c)))) ⟨same_upd hL, upd_same⟩ (fun k H3 _ h => SqT.of (h.1 _ _ hnr)) (fun k v H3 hv h => ?_) (fun H3 h => ?_)⟩
      · obtain ⟨s3, hL3⟩ := h
        obtain ⟨i, hi, rfl⟩ := natsV_getB hv
        have hip := hnb i (List.mem_of_getElem? hi)
        have hkn : k < near.length := (List.getElem?_eq_some_iff.mp hi).1
        have hz' : z'.length = e.places := by rw [← len_toList2, h2, letters_len]
        have hil : i < e.letters.length := by rw [letters_len]; exact hip
        have hci : e.letters[i]? = some e.letters[i] := List.getElem?_eq_getElem hil
        have hat : atI z'.cps.toList (i : Int) = some e.letters[i] := by
          rw [h2]
          exact atI_nat hci
        have hlen : (natsV (rowL e (near.take k) c)).length ≤ 40 := by
          rw [natsV_len]
          unfold rowL
          have := List.length_filter_le (fun i => decide (e.letters[i]? = some c)) (near.take k)
          rw [List.length_take] at this
          omega
        refine ⟨rfl, _, rfl, p, C, dx, _, _, rfl, s3 _ _ h1, T.cl, T.a1, stF_letters .., _, rfl, z', (i : Int), e.letters[i], rfl, rfl, by rw [hz']; exact Nat.le_trans h40 (by decide), hat, _, rfl, rfl, _, rfl, ite2 (fun c1 => ?_) (fun c1 => ?_)⟩
        · have hcc : e.letters[i]? = some c := by
            have e1 := vstr c1
            have e2 : e.letters[i] = c := by
              have e3 := congrArg (fun s : Str => s.cps.toList) e1
              exact (List.cons.inj e3).1
            rw [hci, e2]
          refine ⟨_, rfl, _, hL3, Nat.lt_of_le_of_lt hlen (by decide), fun b o' hb => by rw [upd_ne (ne_of_none hb hL)]; exact s3 _ _ hb, ?_⟩
          rw [upd_same, take_snoc hi]
          unfold rowL
          rw [List.filter_append, List.filter_cons, if_pos (decide_eq_true hcc), List.filter_nil, ← natsV_app]
          rfl
        · have hcc : ¬ e.letters[i]? = some c := fun h => by
            rw [hci] at h
            have e2 : e.letters[i] = c := Option.some.inj h
            rw [e2] at c1
            exact c1 (decide_eq_true rfl)
          refine ⟨s3, ?_⟩
          rw [take_snoc hi]
          unfold rowL
          rw [List.filter_append, List.filter_cons, if_neg (fun h => hcc (of_decide_eq_true h)), List.filter_nil, List.append_nil]
          exact hL3
      · obtain ⟨s3, hL3⟩ := h
        rw [natsV_len, List.take_length] at hL3
        refine ⟨L, _, rfl, .inl ⟨SqL.of hL3, fun pr hpr => ?_⟩⟩
        have s4 := same_upd (o := .tup (natsV (rowL e near c))) hpr
        have hR4 := s4 _ _ (s3 _ _ hR1)
        refine ⟨_, rfl, .inl ⟨rfl, _, SqL.of hR4⟩, _, rfl, R, ts, _, rfl, rfl, hR4, Nat.lt_of_le_of_lt (m := 1000) (by omega) (by decide), ?_⟩
        have sA : Same H (upd (upd H3 pr (.tup (natsV (rowL e near c)))) R (.lst (ts ++ [.ref pr]))) := fun b o hb => by rw [upd_ne (ne_of_none hb hR0)]; exact s4 _ _ (s3 _ _ (s1 _ _ hb))
        have hpR : pr ≠ R := (ne_of_none (s3 _ _ hR1) hpr).symm
        have hfl := List.length_filter_le (fun i => decide (e.letters[i]? = some c)) near
        refine ⟨_, rfl, _, rfl, p, pr, e, rowL e near c, rfl, hS.same sA, h40, (by rw [upd_ne hpR]; exact upd_same), fun x hx => hnb x (List.mem_filter.mp hx).1, (by unfold rowL; omega), fun q2 ys H4 s5 hq0 hq hpw hmem => ?_⟩
        have hrg : (behindL e (rowL e near c)).Pairwise (· < ·) := by
          unfold behindL
          exact List.pairwise_lt_range.filter _
        have ey : ys = behindL e (rowL e near c) := eq_of_riseN hpw hrg fun y => by rw [hmem, behindL_mem]
        subst ey
        refine ⟨q2, ts ++ [.ref pr], _, _, rfl, sA.trans s5, s5 _ _ upd_same, (fun c => by rw [c, upd_same] at hq0; cases hq0), .inr hq, (hts.mono fun t row ⟨a, ea, ha⟩ => ⟨a, ea, s5 _ _ (by rw [upd_ne fun c => by rw [c, hR1] at ha; cases ha]; exact s4 _ _ (s3 _ _ ha))⟩).app (.cons ⟨pr, rfl, s5 _ _ (by rw [upd_ne hpR]; exact upd_same)⟩ .nil), by rw [List.length_append, htl]; rfl, fun x hx => List.mem_range.mp (List.mem_filter.mp hx).1, ?_⟩
        unfold behindL
        exact Nat.le_trans (List.length_filter_le _ _) (by rw [List.length_range]; exact h40)
    · refine .inl ⟨_, rfl, nr, rfl, ⟨_, SqL.of hnr⟩, fun L hL => lc_list (K := K) (a := nr) (xs := natsV near) (fun k H3 => Same H1 H3 ∧ H3 L = some (.lst (natsV (rowL e (near.take k) c)))) ⟨same_upd hL, upd_same⟩ (fun k H3 _ h => SqL.of (h.1 _ _ hnr)) (fun k v H3 hv h => ?_) (fun H3 h => ?_)⟩
      · obtain ⟨s3, hL3⟩ := h
        obtain ⟨i, hi, rfl⟩ := natsV_getB hv
        have hip := hnb i (List.mem_of_getElem? hi)
        have hkn : k < near.length := (List.getElem?_eq_some_iff.mp hi).1
        have hz' : z'.length = e.places := by rw [← len_toList2, h2, letters_len]
        have hil : i < e.letters.length := by rw [letters_len]; exact hip
        have hci : e.letters[i]? = some e.letters[i] := List.getElem?_eq_getElem hil
        have hat : atI z'.cps.toList (i : Int) = some e.letters[i] := by
          rw [h2]
          exact atI_nat hci
        have hlen : (natsV (rowL e (near.take k) c)).length ≤ 40 := by
          rw [natsV_len]
          unfold rowL
          have := List.length_filter_le (fun i => decide (e.letters[i]? = some c)) (near.take k)
          rw [List.length_take] at this
          omega
        refine ⟨rfl, _, rfl, p, C, dx, _, _, rfl, s3 _ _ h1, T.cl, T.a1, stF_letters .., _, rfl, z', (i : Int), e.letters[i], rfl, rfl, by rw [hz']; exact Nat.le_trans h40 (by decide), hat, _, rfl, rfl, _, rfl, ite2 (fun c1 => ?_) (fun c1 => ?_)⟩
        · have hcc : e.letters[i]? = some c := by
            have e1 := vstr c1
            have e2 : e.letters[i] = c := by
              have e3 := congrArg (fun s : Str => s.cps.toList) e1
              exact (List.cons.inj e3).1
            rw [hci, e2]
          refine ⟨_, rfl, _, hL3, Nat.lt_of_le_of_lt hlen (by decide), fun b o' hb => by rw [upd_ne (ne_of_none hb hL)]; exact s3 _ _ hb, ?_⟩
          rw [upd_same, take_snoc hi]
          unfold rowL
          rw [List.filter_append, List.filter_cons, if_pos (decide_eq_true hcc), List.filter_nil, ← natsV_app]
          rfl
        · have hcc : ¬ e.letters[i]? = some c := fun h => by
            rw [hci] at h
            have e2 : e.letters[i] = c := Option.some.inj h
            rw [e2] at c1
            exact c1 (decide_eq_true rfl)
          refine ⟨s3, ?_⟩
          rw [take_snoc hi]
          unfold rowL
          rw [List.filter_append, List.filter_cons, if_neg (fun h => hcc (of_decide_eq_true h)), List.filter_nil, List.append_nil]
          exact hL3
      · obtain ⟨s3, hL3⟩ := h
        rw [natsV_len, List.take_length] at hL3
        refine ⟨L, _, rfl, .inl ⟨SqL.of hL3, fun pr hpr => ?_⟩⟩
        have s4 := same_upd (o := .tup (natsV (rowL e near c))) hpr
        have hR4 := s4 _ _ (s3 _ _ hR1)
        refine ⟨_, rfl, .inl ⟨rfl, _, SqL.of hR4⟩, _, rfl, R, ts, _, rfl, rfl, hR4, Nat.lt_of_le_of_lt (m := 1000) (by omega) (by decide), ?_⟩
        have sA : Same H (upd (upd H3 pr (.tup (natsV (rowL e near c)))) R (.lst (ts ++ [.ref pr]))) := fun b o hb => by rw [upd_ne (ne_of_none hb hR0)]; exact s4 _ _ (s3 _ _ (s1 _ _ hb))
        have hpR : pr ≠ R := (ne_of_none (s3 _ _ hR1) hpr).symm
        have hfl := List.length_filter_le (fun i => decide (e.letters[i]? = some c)) near
        refine ⟨_, rfl, _, rfl, p, pr, e, rowL e near c, rfl, hS.same sA, h40, (by rw [upd_ne hpR]; exact upd_same), fun x hx => hnb x (List.mem_filter.mp hx).1, (by unfold rowL; omega), fun q2 ys H4 s5 hq0 hq hpw hmem => ?_⟩
        have hrg : (behindL e (rowL e near c)).Pairwise (· < ·) := by
          unfold behindL
          exact List.pairwise_lt_range.filter _
        have ey : ys = behindL e (rowL e near c) := eq_of_riseN hpw hrg fun y => by rw [hmem, behindL_mem]
        subst ey
        refine ⟨q2, ts ++ [.ref pr], _, _, rfl, sA.trans s5, s5 _ _ upd_same, (fun c => by rw [c, upd_same] at hq0; cases hq0), .inr hq, (hts.mono fun t row ⟨a, ea, ha⟩ => ⟨a, ea, s5 _ _ (by rw [upd_ne fun c => by rw [c, hR1] at ha; cases ha]; exact s4 _ _ (s3 _ _ ha))⟩).app (.cons ⟨pr, rfl, s5 _ _ (by rw [upd_ne hpR]; exact upd_same)⟩ .nil), by rw [List.length_append, htl]; rfl, fun x hx => List.mem_range.mp (List.mem_filter.mp hx).1, ?_⟩
        unfold behindL
        exact Nat.le_trans (List.length_filter_le _ _) (by rw [List.length_range]; exact h40)
  · rintro σ' H1 ⟨nr, ts, o4, o5, rfl, s1, hR1, hnR, hnr, hts, htl, hnb, hn40⟩
    have e1 : z.cps.toList.take z.cps.size = z.cps.toList := by
      rw [← Array.length_toList, List.take_length]
    rw [e1] at hts
    exact ⟨_, rfl, q R ts H1 s1 hR0 hR1 hts⟩
end
end My
namespace My
open PySem PySem.Spec PyProof.Rows L2
/-- the word is right: all of it is read and the last place is a last place -/
def rightL (e : E) (ws : List Nat) : Bool := match (cRun e ws).2.getLast? with
  | none => (gl e 0).nul
  | some row => row.any fun x => decide (x ∈ (gl e 0).lst)
theorem stF_empty (z b f l o : V) : (stF z b f l o).lookup ("empty" : Str) = some b := by
  unfold stF
  rw [lookup_putF, if_neg n7, lookup_putF, if_neg n6, lookup_putF, if_neg n5, lookup_putF, if_pos rfl]
theorem at_last {xs : List V} {v : V} (h : xs.getLast? = some v) : atI xs (-1) = some v := by
  rw [List.getLast?_eq_getElem?] at h
  have hl := (List.getElem?_eq_some_iff.mp h).1
  have e : ixN xs.length (-1) = some (xs.length - 1) := by
    unfold ixN
    have h1 : ¬ (0 : Int) ≤ -1 := by omega
    rw [if_neg h1]
    have h2 : -(xs.length : Int) ≤ -1 := by omega
    rw [if_pos h2]
    congr 1
    omega
  unfold atI
  rw [e]
  exact h
theorem Two.last {α β : Type} {R : α → β → Prop} {as : List α} {bs : List β} (h : Two R as bs) {b : β} (hb : bs.getLast? = some b) : ∃ a, as.getLast? = some a ∧ R a b := by
  rw [List.getLast?_eq_getElem?] at hb
  have hl := (List.getElem?_eq_some_iff.mp hb).1
  have he := h.len
  obtain ⟨a, ha⟩ : ∃ a, as[as.length - 1]? = some a := ⟨_, List.getElem?_eq_getElem (by omega)⟩
  refine ⟨a, by rw [List.getLast?_eq_getElem?]; exact ha, h.get2 ha (by rw [he]; exact hb)⟩
theorem in_nats (x : Nat) (ys : List Nat) : inV (V.int (x : Int)) (natsV ys) = decide (x ∈ ys) := by
  unfold inV natsV
  rw [Bool.eq_iff_iff]
  simp [eqV]
  constructor
  · rintro ⟨y, hy, h⟩
    have e : y = x := by omega
    rw [← e]
    exact hy
  · exact fun h => ⟨x, h, rfl⟩
theorem near_len (e : E) (ws : List Nat) : (cRun e ws).1.length ≤ e.places := by
  rcases List.eq_nil_or_concat ws with h | ⟨vs, c, h⟩
  · rw [h]
    exact (gl_len e 0).fst
  · rw [h, List.concat_eq_append, cRun_snoc]
    show (behindL e _).length ≤ _
    unfold behindL
    exact Nat.le_trans (List.length_filter_le _ _) (by rw [List.length_range]; exact Nat.le_refl _)
theorem flat_nats (ys : List Nat) : (natsV ys).all flatV = true := by
  rw [List.all_eq_true]
  intro v hv
  obtain ⟨i, _, rfl⟩ := List.mem_map.mp hv
  rfl
def rInB (K : PySem.W.Frag) : R2 := rIn K false
theorem op_in_seqB {X : Cx} {K : PySem.W.Frag} (hK : X.K = K) : OpR X (compareOp .In) (rInB K) := by
  subst hK
  exact op_in_seq
def spRight (C : Addr) : Sp := fun vs H Q _ => ∃ (p : Addr) (z : Str) (e : E), vs = [.ref p, .str z] ∧ StepsAt C H p e ∧ e.places ≤ 40 ∧ z.length ≤ 1000 ∧
  ∀ H', Same H H' → Q (.bl (rightL e z.cps.toList)) H'
section
variable {P : Program} {w : World} {K : PySem.W.Frag} {mg : Str → Option Value} {base : Heap} {a_BOUNDS a_LONG_BOUNDS : Addr} {tL tM : Tok}
abbrev N_is_right : List Str := ["steps", "word", "place"]
theorem sc_is_right : FnScope ["steps", "word", "place"] ["steps", "word"] (defScope s_is_right) := ⟨rfl, rfl, rfl, by decide +kernel, rfl, by decide +kernel, by decide +kernel⟩
theorem ok_right {C f : Addr} {fd : FuncData} (T : StTxt K C) (B : Bt K mg a_BOUNDS a_LONG_BOUNDS tL tM) (Dd : Df K mg "is_right" s_is_right ["steps", "word"] f fd) (Gcandidates_of : Cl P w K mg base 2 "candidates_of" ["steps", "word"] (spCands C)) : FnOk P w K mg base CX0 3 f fd ["steps", "word"] (spRight C) := by
  refine Dd.F.ok sc_is_right (fun vs H Q Ex h => ?_) (fun cdv A outer s H vs Q Ex hr h => ?_)
  · obtain ⟨p, z, e, rfl, _⟩ := h
    rfl
  obtain ⟨p, z, e, rfl, hS, h40, hz, q⟩ := h
  refine ⟨_, (pss_cons (ps_if (pt_cmpR op_eq (pv 1) pe_str (nomark _)) (pss_one (ps_ret (pe_fld (pv 0) rfl))) pss_nil)
    (pss_one (ps_ret (pe_callB (cr_any rfl) rfl B.b_any boot_any (pa_cons (pe_lc (own := [("place", 2)]) (g := gName 2) (tt := tYes) rfl sc_is_right.nd (pi_tup (pe_ix (r := rIxL K) ix_list (pe_cl Gcandidates_of (hr.mono (by omega)) rfl (pa_cons (pv 0) (pa_cons (pv 1) pa_nil))) (pe_un un_neg pe_int) (fun _ _ => rfl))) (blkOk_by (N := N_is_right) (sc := defScope s_is_right) (by decide +kernel)) (fun _ _ _ _ _ => pg_name (i := 2) sc_is_right.nd rfl (Or.inl rfl)) (fun _ _ _ _ _ => pts_nil) (fun _ _ _ _ _ => (pe_cmpR (r := rInB K) (op_in_seqB rfl) (pv 2) (pe_fldB (K := K) rfl (pv 0) rfl) rfl))) pa_nil))))), ?_⟩
  obtain ⟨dx0, f0, l0, o0, z0, ts0, g1, g2, g3, g4, g5, g6, g7⟩ := hS.ex
  refine ⟨_, rfl, rfl, _, rfl, ite2 (fun e1 => ?_) (fun e1 => ?_)⟩
  · have hzz : z = sNo := vstr e1
    refine ⟨_, rfl, p, C, dx0, _, _, rfl, g1, T.cl, T.a2, stF_empty .., ?_⟩
    have h := q H (Same.refl H)
    rw [hzz] at h
    exact h
  have hzz : z ≠ sNo := fun h => e1 (decide_eq_true (congrArg V.str h))
  refine ⟨_, rfl, _, rfl, p, z, e, rfl, hS, h40, hz, fun q1 ts H1 s1 hq0 hq hts => ?_⟩
  obtain ⟨row, hrow, hrl⟩ : ∃ row, (cRun e z.cps.toList).2.getLast? = some row ∧ row.length ≤ 40 := by
    rcases List.eq_nil_or_concat z.cps.toList with h | ⟨ws, c, h⟩
    · exact absurd (by
        have : z = ⟨z.cps.toList.toArray⟩ := rfl
        rw [this, h]
        decide +kernel) hzz
    · rw [h, List.concat_eq_append, cRun_snoc]
      unfold cstep
      refine ⟨rowL e (cRun e ws).1 c, by simp, ?_⟩
      unfold rowL
      exact Nat.le_trans (List.length_filter_le _ _) (Nat.le_trans (near_len e ws) h40)
  have hright : rightL e z.cps.toList = row.any fun x => decide (x ∈ (gl e 0).lst) := by
    unfold rightL
    rw [hrow]
  obtain ⟨v, hv, a, rfl, ha⟩ := hts.last hrow
  refine ⟨_, rfl, q1, ts, -1, .ref a, rfl, rfl, SqL.of hq, at_last hv, a, rfl, ⟨_, SqT.of ha⟩, fun L hL => ?_⟩
  refine lc_tup (K := K) (a := a) (xs := natsV row) (fun k H3 => Same H1 H3 ∧ H3 L = some (.lst (((row.take k).map fun x => decide (x ∈ (gl e 0).lst)).map V.bl))) ⟨same_upd hL, upd_same⟩ (fun k H3 _ h => SqT.of (h.1 _ _ ha)) (fun k v H3 hv h => ?_) (fun H3 h => ?_)
  · obtain ⟨s3, hL3⟩ := h
    obtain ⟨x, hx, rfl⟩ := natsV_getB hv
    refine ⟨rfl, tyes ⟨_, rfl, _, rfl, p, C, dx0, _, _, rfl, s3 _ _ (s1 _ _ g1), T.cl, T.a4, stF_last .., l0, _, rfl, .inr (SqT.of (s3 _ _ (s1 _ _ g4))), rfl, flat_nats _, ?_⟩⟩
    refine ⟨_, hL3, ?_, fun b o' hb => by rw [upd_ne (ne_of_none hb hL)]; exact s3 _ _ hb, ?_⟩
    · rw [List.length_map, List.length_map, List.length_take]
      exact Nat.lt_of_le_of_lt (m := 40) (by omega) (by decide)
    · rw [upd_same, take_snoc hx, List.map_append, List.map_append]
      show _ = some (HO.lst (_ ++ [V.bl (decide (x ∈ (gl e 0).lst))]))
      rw [← in_nats]
      rfl
  · obtain ⟨s3, hL3⟩ := h
    rw [natsV_len, List.take_length] at hL3
    refine ⟨L, _, rfl, SqL.of hL3, ?_⟩
    have e2 : (row.map fun x => decide (x ∈ (gl e 0).lst)).any id = rightL e z.cps.toList := by
      rw [hright, List.any_map]
      rfl
    rw [e2]
    exact q H3 (s1.trans s3)
end
end My
namespace My
open PySem PySem.Spec PyProof.Rows L2
/-! ### a word is read right exactly if it is right -/
theorem chn_snoc {F : List (Nat × Nat)} {y : Nat} : ∀ (us : List Nat) (x : Nat), chn F x (us ++ [y]) ↔ chn F x us ∧ (lastN x us, y) ∈ F
  | [], x => by
    show ((x, y) ∈ F ∧ True) ↔ True ∧ (x, y) ∈ F
    rw [and_true, true_and]
  | u :: us, x => by
    show ((x, u) ∈ F ∧ chn F u (us ++ [y])) ↔ ((x, u) ∈ F ∧ chn F u us) ∧ (lastN u us, y) ∈ F
    rw [chn_snoc us u, and_assoc]
theorem lastN_snoc (us : List Nat) (x y : Nat) : lastN x (us ++ [y]) = y := lastN_app us x y []
/-- a way that begins at a first place, with these letters, up to a place -/
def Way (e : E) (ws : List Nat) (x : Nat) : Prop := ∃ p ps, p ∈ (gl e 0).fst ∧ chn (gl e 0).fol p ps ∧ lastN p ps = x ∧ (p :: ps).map (fun p => e.letters[p]?) = ws.map some
theorem row_mem (e : E) (near : List Nat) (c x : Nat) : x ∈ rowL e near c ↔ x ∈ near ∧ e.letters[x]? = some c := by
  unfold rowL
  rw [List.mem_filter]
  exact and_congr Iff.rfl ⟨of_decide_eq_true, decide_eq_true⟩
theorem map_snoc_inv {ps : List Nat} {f : Nat → Option Nat} {ws : List Nat} {c : Nat} (h : ps.map f = (ws ++ [c]).map some) : ∃ qs x, ps = qs ++ [x] ∧ qs.map f = ws.map some ∧ f x = some c := by
  rw [List.map_append] at h
  obtain ⟨p1, p2, rfl, h1, h2⟩ := map_split h
  have hl : p2.length = 1 := by
    have := congrArg List.length h2
    rw [List.length_map] at this
    exact this
  obtain ⟨x, rfl⟩ := List.length_eq_one_iff.mp hl
  exact ⟨p1, x, rfl, h1, (List.cons.inj h2).1⟩
/-- the places that come next -/
def Near (e : E) (ws : List Nat) (y : Nat) : Prop := (ws = [] ∧ y ∈ (gl e 0).fst) ∨ (ws ≠ [] ∧ ∃ x, Way e ws x ∧ (x, y) ∈ (gl e 0).fol)
theorem way_snoc (e : E) (ws : List Nat) (c x : Nat) : Way e (ws ++ [c]) x ↔ Near e ws x ∧ e.letters[x]? = some c := by
  constructor
  · rintro ⟨p, ps, h1, h2, h3, h4⟩
    obtain ⟨qs, y, e1, e2, e3⟩ := map_snoc_inv h4
    cases qs with
    | nil =>
      have e1' : p :: ps = [y] := e1
      cases e1'
      have h3' : p = x := h3
      subst h3'
      have : ws = [] := by
        cases ws with
        | nil => rfl
        | cons a b => cases e2
      exact ⟨.inl ⟨this, h1⟩, e3⟩
    | cons q qs =>
      have e1' : p :: ps = q :: (qs ++ [y]) := e1
      obtain ⟨rfl, rfl⟩ := List.cons.inj e1'
      rw [lastN_snoc] at h3
      subst h3
      rw [chn_snoc] at h2
      refine ⟨.inr ⟨fun c => ?_, _, ⟨p, qs, h1, h2.1, rfl, e2⟩, h2.2⟩, e3⟩
      subst c
      cases e2
  · rintro ⟨⟨rfl, h⟩ | ⟨hn, y, ⟨p, ps, h1, h2, h3, h4⟩, hy⟩, hc⟩
    · refine ⟨x, [], h, trivial, rfl, ?_⟩
      show [e.letters[x]?] = [some c]
      rw [hc]
    · subst h3
      refine ⟨p, ps ++ [x], h1, chn_snoc ps p |>.mpr ⟨h2, hy⟩, lastN_snoc ps p x, ?_⟩
      show (p :: ps ++ [x]).map _ = _
      rw [List.map_append, h4, List.map_append, List.map_singleton, List.map_singleton, hc]
theorem near_iff (e : E) (ws : List Nat) : ∀ y, y ∈ (cRun e ws).1 ↔ Near e ws y := by
  rcases List.eq_nil_or_concat ws with h | ⟨vs, c, h⟩
  · subst h
    intro y
    show y ∈ (gl e 0).fst ↔ _
    unfold Near
    simp
  · rw [List.concat_eq_append] at h
    subst h
    intro y
    have ih := near_iff e vs
    rw [cRun_snoc]
    show y ∈ behindL e (rowL e (cRun e vs).1 c) ↔ _
    rw [behindL_mem]
    constructor
    · rintro ⟨x, hx, hf⟩
      rw [row_mem, ih] at hx
      exact .inr ⟨by simp, x, (way_snoc e vs c x).mpr hx, hf⟩
    · rintro (⟨h, _⟩ | ⟨_, x, hw, hf⟩)
      · simp at h
      · refine ⟨x, ?_, hf⟩
        rw [row_mem, ih]
        exact (way_snoc e vs c x).mp hw
termination_by ws.length
decreasing_by
  subst h
  simp
theorem right_iff (e : E) (ws : List Nat) : rightL e ws = true ↔ MW e ws := by
  rw [mw_acc]
  rcases List.eq_nil_or_concat ws with h | ⟨vs, c, h⟩
  · subst h
    show (gl e 0).nul = true ↔ _
    constructor
    · intro h
      exact ⟨[], h, rfl⟩
    · rintro ⟨ps, h, e⟩
      cases ps with
      | nil => exact h
      | cons x xs => cases e
  · rw [List.concat_eq_append] at h
    subst h
    have hl : (cRun e (vs ++ [c])).2.getLast? = some (rowL e (cRun e vs).1 c) := by
      rw [cRun_snoc]
      show ((cRun e vs).2 ++ [rowL e (cRun e vs).1 c]).getLast? = _
      simp
    unfold rightL
    rw [hl]
    show (rowL e (cRun e vs).1 c).any _ = true ↔ _
    rw [List.any_eq_true]
    constructor
    · rintro ⟨x, hx, hd⟩
      rw [row_mem, near_iff] at hx
      obtain ⟨p, ps, h1, h2, h3, h4⟩ := (way_snoc e vs c x).mpr hx
      refine ⟨p :: ps, ⟨h1, h2, ?_⟩, h4⟩
      rw [h3]
      exact of_decide_eq_true hd
    · rintro ⟨ps, ha, hm⟩
      cases ps with
      | nil => simp at hm
      | cons p ps =>
        refine ⟨lastN p ps, ?_, decide_eq_true ha.2.2⟩
        rw [row_mem, near_iff]
        exact (way_snoc e vs c _).mp ⟨p, ps, ha.1, ha.2.1, rfl, hm⟩
end My
namespace My
open PySem PySem.Spec PyProof.Rows L2
structure Eok (e : E) : Prop where
  ok : e.ok = true
  dep : e.depth ≤ 40
  pl : e.places ≤ 40
  pt : e.parts ≤ 200
  sz : e.toD.size ≤ 1000000
theorem long_top {e : E} (h : Eok e) : (sizesOf (40, 40, 200) e.toD).isSome = true := by
  rw [sizes_ok h.ok (by decide), if_pos (within_iff.mpr ⟨h.pl, Nat.le_trans h.dep (by decide), h.pt⟩)]
  rfl
def spPlc (g : Gl → List Nat) : Sp := fun vs H Q _ => ∃ (v : V) (e : E), vs = [v] ∧ Eok e ∧ Rep H v e.toD ∧ ∀ p H', Same H H' → H' p = some (.tup (natsV (g (gl e 0)))) → Q (.ref p) H'
def spNum : Sp := fun vs H Q _ => ∃ (i a b : Int), vs = [.int i, .int a, .int b] ∧ Q (.bl (decide (a ≤ i ∧ i ≤ b))) H
def spIsPlace (C : Addr) : Sp := fun vs H Q _ => ∃ (p : Addr) (e : E) (i : Nat), vs = [.ref p, .int i] ∧ i < e.places ∧ e.places ≤ 40 ∧ StepsAt C H p e ∧ Q (.bl true) H
def spFolw : Sp := fun vs H Q _ => ∃ (v : V) (e : E) (i : Nat), vs = [v, .int i] ∧ Eok e ∧ i < e.places ∧ Rep H v e.toD ∧ ∀ p H', Same H H' → H' p = some (.tup (natsV (folAt e i))) → Q (.ref p) H'
section
variable {P : Program} {w : World} {K : PySem.W.Frag} {mg : Str → Option Value} {base : Heap} {a_BOUNDS a_LONG_BOUNDS : Addr} {tL tM : Tok}
end
end My
namespace My
open PySem PySem.Spec PyProof.Rows L2
/-! ### drawn expressions -/
def outS : Option Bool → Str
  | none => sNo
  | some false => sJoin
  | some true => sOr
def rowOf : E → Option Bool
  | .join _ => some false
  | .alt _ => some true
  | _ => none
/-- the parts that a drawn expression of such a depth has at most -/
def pb : Nat → Nat
  | 0 => 1
  | n + 1 => 1 + 3 * pb n
theorem pb_mono {m n : Nat} (h : m ≤ n) : pb m ≤ pb n := by
  induction h with
  | refl => exact Nat.le_refl _
  | step _ ih =>
    refine Nat.le_trans ih ?_
    rw [pb]
    omega
structure Drawn (e : E) (room deep : Nat) (outer : Option Bool) : Prop where
  ok : e.ok = true
  pl : e.places ≤ room
  dp : e.depth ≤ deep
  pt : e.parts ≤ pb deep
  hd : rowOf e = none ∨ rowOf e ≠ outer
def Lets (z : Str) : Prop := 0 < z.length ∧ z.length ≤ 100 ∧ ∀ c ∈ z.cps.toList, 97 ≤ c ∧ c ≤ 100
def spGrown (n : Nat) : Sp := fun vs H Q _ => ∃ (a : Addr) (z : Str) (room deep : Nat) (outer : Option Bool), vs = [.ref a, .str z, .int room, .int deep, .str (outS outer)] ∧ Strm H a ∧ Lets z ∧ room ≤ 100 ∧ deep < n ∧
  ∀ v H' e, Go a H H' → Rep H' v e.toD → Drawn e room deep outer → Q v H'
section
variable {P : Program} {w : World} {K : PySem.W.Frag} {mg : Str → Option Value} {base : Heap} {a_BOUNDS a_LONG_BOUNDS : Addr} {tL tM : Tok}
theorem none_left {f : Addr} {fd : FuncData} {k : Nat} {ps : List Str} {sp : Sp} (no : ∀ vs H Q E, ¬ sp vs H Q E) : FnOk P w K mg base CX0 k f fd ps sp :=
  ⟨fun vs H Q E h => absurd h (no vs H Q E), fun A outer s H args us vs Q E _ _ _ _ h => absurd h (no vs H Q E)⟩
theorem mem_signs {v : V} {z : Str} (h : v ∈ signsV z) : ∃ c ∈ z.cps.toList, v = .str ⟨#[c]⟩ := by
  unfold signsV at h
  rw [List.mem_map] at h
  obtain ⟨c, hc, rfl⟩ := h
  exact ⟨c, hc, rfl⟩
theorem rep_sym {H : Hp} (c : Nat) : Rep H (.str ⟨#[c]⟩) (E.sym c).toD := by
  rw [E.toD]
  exact .str (by show 1 ≤ 1000; decide)
theorem rep_eps {H : Hp} : Rep H (.str sNo) E.eps.toD := by
  rw [E.toD]
  exact .str (by rw [lE]; decide)
theorem drawn_sym {c room deep : Nat} {outer : Option Bool} (h : 97 ≤ c ∧ c ≤ 100) (hr : 0 < room) : Drawn (.sym c) room deep outer where
  ok := by
    rw [E.ok, decide_eq_true h.1, decide_eq_true h.2]
    rfl
  pl := by rw [E.places]; omega
  dp := by rw [E.depth]; omega
  pt := by rw [E.parts]; exact Nat.le_trans (by decide) (pb_mono (Nat.zero_le deep))
  hd := .inl rfl
theorem drawn_eps {room deep : Nat} {outer : Option Bool} : Drawn .eps room deep outer where
  ok := rfl
  pl := by rw [E.places]; omega
  dp := by rw [E.depth]; omega
  pt := by rw [E.parts]; exact Nat.le_trans (by decide) (pb_mono (Nat.zero_le deep))
  hd := .inl rfl
theorem signs_len (z : Str) : (signsV z).length = z.length := by
  unfold signsV
  rw [List.length_map, Array.length_toList]
  rfl
theorem outS_inj {x y : Option Bool} (h : outS x = outS y) : x = y := by
  match x, y, h with
  | none, none, _ => rfl
  | none, some false, h => exact absurd h.symm je
  | none, some true, h => exact absurd h.symm oe
  | some false, none, h => exact absurd h je
  | some true, none, h => exact absurd h oe
  | some false, some false, _ => rfl
  | some true, some true, _ => rfl
  | some false, some true, h => exact absurd h jo
  | some true, some false, h => exact absurd h.symm jo
theorem any_no {α : Type} {p : α → Bool} {xs : List α} (h : ∀ x ∈ xs, p x = false) : xs.any p = false := by
  rw [List.any_eq_false]
  intro x hx c
  rw [h x hx] at c
  cases c
theorem sum_le_mul {es : List E} {f : E → Nat} {n : Nat} (h : ∀ e ∈ es, f e ≤ n) : (es.map f).sum ≤ es.length * n := by
  induction es with
  | nil => exact Nat.zero_le _
  | cons e es ih =>
    have h1 := h e (List.mem_cons_self ..)
    have h2 := ih fun x hx => h x (List.mem_cons_of_mem _ hx)
    rw [List.map_cons, List.sum_cons, List.length_cons, Nat.succ_mul]
    omega
abbrev N__law_grown : List Str := ["stream", "letters", "room", "deep", "outer", "pick", "word", "many", "left", "parts", "k", "share"]
theorem sc__law_grown : FnScope ["stream", "letters", "room", "deep", "outer", "pick", "word", "many", "left", "parts", "k", "share"] ["stream", "letters", "room", "deep", "outer"] (defScope s__law_grown) := ⟨rfl, rfl, rfl, by decide +kernel, rfl, by decide +kernel, by decide +kernel⟩
theorem ok_grown_step {f : Addr} {fd : FuncData} (B : Bt K mg a_BOUNDS a_LONG_BOUNDS tL tM) (Dd : Df K mg "_law_grown" s__law_grown ["stream", "letters", "room", "deep", "outer"] f fd) (G_law_next : Cl P w K mg base 1 "_law_next" ["stream", "many"] spNext) (G_law_pick : Cl P w K mg base 2 "_law_pick" ["stream", "rows"] (spPick K)) (n : Nat)
    (G_law_grown : Cl P w K mg base (n + 2) "_law_grown" ["stream", "letters", "room", "deep", "outer"] (spGrown n)) : FnOk P w K mg base CX0 (n + 3) f fd ["stream", "letters", "room", "deep", "outer"] (spGrown (n + 1)) := by
  refine Dd.F.ok sc__law_grown (fun vs H Q Ex h => ?_) (fun cdv A outer s H vs Q Ex hr h => ?_)
  · obtain ⟨a, z, room, deep, outer, rfl, _⟩ := h
    rfl
  obtain ⟨a, z, room, deep, outer, rfl, hS, hz, hroom, hdeep, q⟩ := h
  refine ⟨_, (pss_cons (ps_set (i := 5) sc__law_grown.nd rfl (Or.inl rfl) (pe_cl G_law_next (hr.mono (by omega)) rfl (pa_cons (pv 0) (pa_cons pe_int pa_nil))))
    (pss_cons (ps_if (PW.pt (pw_or (pt_cmpR op_eq (pv 3) pe_int (nomark _)) (pw_or (pt_cmpR op_eq (pv 2) pe_int (nomark _)) (pw_or1 (pt_cmpR op_eq (pv 5) pe_int (nomark _)))))) (pss_one (ps_ret (pe_ifExp (PW.pt (pw_and (pt_cmpR op_gt (pv 2) pe_int (nomark _)) (pw_and1 (pt_cmpR op_gt (pe_cl G_law_next (hr.mono (by omega)) rfl (pa_cons (pv 0) (pa_cons pe_int pa_nil))) pe_int (nomark _))))) (pe_cl G_law_pick (hr.mono (by omega)) rfl (pa_cons (pv 0) (pa_cons (pe_callTy (call_list_text rfl) rfl B.b_list boot_list (pa_cons (pv 1) pa_nil)) pa_nil))) pe_str))) pss_nil)
    (pss_cons (ps_if (pt_cmpR op_lt (pv 5) pe_int (nomark _)) (pss_one (ps_ret (pe_tup (pa_cons (pe_cl G_law_pick (hr.mono (by omega)) rfl (pa_cons (pv 0) (pa_cons (pe_lst (pa_cons pe_str (pa_cons pe_str pa_nil))) pa_nil))) (pa_cons (pe_cl G_law_grown (hr.mono (by omega)) rfl (pa_cons (pv 0) (pa_cons (pv 1) (pa_cons (pv 2) (pa_cons (pe_op op_sub (pv 3) pe_int) (pa_cons pe_str pa_nil)))))) pa_nil))))) pss_nil)
    (pss_cons (ps_set (i := 6) sc__law_grown.nd rfl (Or.inl rfl) (pe_cl G_law_pick (hr.mono (by omega)) rfl (pa_cons (pv 0) (pa_cons (pe_lst (pa_cons pe_str (pa_cons pe_str pa_nil))) pa_nil))))
    (C8.pss_cut (ps_if (pt_cmpR op_eq (pv 6) (pv 4) (nomark _)) (pss_one (ps_set (i := 6) sc__law_grown.nd rfl (Or.inl rfl) (pe_ifExp (pt_cmpR op_eq (pv 4) pe_str (nomark _)) pe_str pe_str))) pss_nil)
    (pss_cons (ps_set (i := 7) sc__law_grown.nd rfl (Or.inl rfl) (pe_op op_add pe_int (pe_cl G_law_next (hr.mono (by omega)) rfl (pa_cons (pv 0) (pa_cons pe_int pa_nil)))))
    (pss_cons (ps_set (i := 8) sc__law_grown.nd rfl (Or.inl rfl) (pv 2))
    (pss_cons (ps_set (i := 9) sc__law_grown.nd rfl (Or.inl rfl) (pe_lst pa_nil))
    (pss_cons (ps_for PassesOwn.never rfl (pi_range1 rfl B.b_range (pa_cons (pv 7) pa_nil)) (pg_name (i := 10) sc__law_grown.nd rfl (Or.inl rfl)) (C8.pss_cut (ps_set (i := 11) sc__law_grown.nd rfl (Or.inl rfl) (pe_ifExp (pt_cmpR op_eq (pe_op op_add (pv 10) pe_int) (pv 7) (nomark _)) (pv 8) (pe_cl G_law_next (hr.mono (by omega)) rfl (pa_cons (pv 0) (pa_cons (pe_op op_add (pv 8) pe_int) pa_nil)))))
    (pss_cons (ps_set (i := 8) sc__law_grown.nd rfl (Or.inl rfl) (pe_op op_sub (pv 8) (pv 11)))
    (pss_one (ps_expr (pe_bm PySem.F.plainAttrs_list PySem.F.slot_list_append PySem.F.type_list_append mt_append (pv 9) (pa_cons (pe_cl G_law_grown (hr.mono (by omega)) rfl (pa_cons (pv 0) (pa_cons (pv 1) (pa_cons (pv 11) (pa_cons (pe_op op_sub (pv 3) pe_int) (pa_cons (pv 6) pa_nil)))))) pa_nil)))))))
    (pss_one (ps_ret (pe_tup (pa_cons (pv 6) (pa_cons (pe_callTy call_tuple_of rfl B.b_tuple boot_tuple (pa_cons (pv 9) pa_nil)) pa_nil)))))))))))))), ?_⟩
  -- pick
  refine ⟨_, rfl, a, 8, rfl, hS, by decide, by decide, fun d H1 d0 d1 g1 => ?_⟩
  refine ⟨_, rfl, rfl, _, rfl, ite2 (fun e1 => iteT ?_) (fun e1 => ⟨_, rfl, rfl, _, rfl, ite2 (fun e2 => iteT ?_) (fun e2 => ⟨_, rfl, rfl, _, rfl, ite2 (fun e3 => ?_) (fun e3 => ?rest)⟩)⟩)⟩
  case rest =>
    have hd1 : ¬ (deep : Int) = 0 := fun c => e1 (decide_eq_true (congrArg V.int c))
    obtain ⟨m, rfl⟩ : ∃ m, deep = m + 1 := ⟨deep - 1, by omega⟩
    have em : ((m + 1 : Nat) : Int) - 1 = (m : Int) := by omega
    refine ⟨_, rfl, _, _, rfl, rfl, _, rfl, ite2 (fun e4 => ?_) (fun e4 => ?_)⟩
    · -- a maybe, a many
      refine ⟨_, rfl, (by show 2 ≤ sizeLine; decide), fun l hl => ⟨a, l, _, rfl, g1.st.same (same_upd hl), SqL.of upd_same, (g1.st.ne hl).symm, by decide, by decide, fun v H2 hv g2 => ?_⟩⟩
      refine ⟨_, rfl, _, rfl, _, rfl, _, rfl, _, _, rfl, rfl, a, z, room, m, none, congrArg (fun i => [V.ref a, V.str z, V.int room, V.int i, V.str sNo]) em, g2.st, hz, hroom, by omega, fun v' H3 e' g3 r3 d3 => ⟨(by show 2 ≤ sizeLine; decide), fun p hp => ?_⟩⟩
      have G : Go a H (upd H3 p (.tup [v, v'])) := g1.trans ((Go.new g1.st hl).trans (g2.trans (g3.trans (Go.new g3.st hp))))
      have hP : v = .str sMaybe ∨ v = .str sMany := by simpa using hv
      have pbm : pb m + 1 ≤ pb (m + 1) := by rw [pb]; omega
      have R : Rep (upd H3 p (.tup [v, v'])) v' e'.toD := r3.pers (Pers.new hp)
      rcases hP with rfl | rfl
      · refine q _ _ (.maybe e') G ?_ ⟨by rw [E.ok]; exact d3.ok, by rw [E.places]; exact d3.pl, by rw [E.depth]; exact Nat.succ_le_succ d3.dp, by rw [E.parts]; exact Nat.le_trans (Nat.succ_le_succ d3.pt) pbm, .inl rfl⟩
        rw [E.toD]
        exact Rep.tup2 upd_same (by show 2 ≤ 100000; decide) (.cons (.str (by rw [lM]; decide)) (.cons R .nil))
      · refine q _ _ (.many e') G ?_ ⟨by rw [E.ok]; exact d3.ok, by rw [E.places]; exact d3.pl, by rw [E.depth]; exact Nat.succ_le_succ d3.dp, by rw [E.parts]; exact Nat.le_trans (Nat.succ_le_succ d3.pt) pbm, .inl rfl⟩
        rw [E.toD]
        exact Rep.tup2 upd_same (by show 2 ≤ 100000; decide) (.cons (.str (by rw [lN]; decide)) (.cons R .nil))
    · -- a row
      refine ⟨_, rfl, (by show 2 ≤ sizeLine; decide), fun l hl => ⟨a, l, _, rfl, g1.st.same (same_upd hl), SqL.of upd_same, (g1.st.ne hl).symm, by decide, by decide, fun v H2 hv g2 => ?_⟩⟩
      have G2 : Go a H H2 := g1.trans ((Go.new g1.st hl).trans g2)
      obtain ⟨wb, rfl⟩ : ∃ wb : Bool, v = .str (outS (some wb)) := by
        have hP : v = .str sJoin ∨ v = .str sOr := by simpa using hv
        rcases hP with rfl | rfl
        · exact ⟨false, rfl⟩
        · exact ⟨true, rfl⟩
      refine ⟨fun σ' H' => ∃ wb : Bool, some wb ≠ outer ∧ σ' = [some (.ref a), some (.str z), some (.int room), some (.int ((m + 1 : Nat) : Int)), some (.str (outS outer)), some (.int d), some (.str (outS (some wb))), none, none, none, none, none] ∧ H' = H2, ?_, ?_⟩
      · refine ⟨_, rfl, _, rfl, rfl, _, rfl, ite2 (fun e5 => ?_) (fun e5 => ?_)⟩
        · have e6 := outS_inj (vstr e5)
          subst e6
          refine ⟨_, rfl, rfl, _, rfl, ite2 (fun e7 => ?_) (fun e7 => ?_)⟩
          · have e8 : outS (some wb) = outS (some false) := vstr e7
            have e9 := outS_inj e8
            refine ⟨true, fun c => ?_, rfl, rfl⟩
            rw [← c] at e9
            cases e9
          · have e8 : ¬ outS (some wb) = outS (some false) := vstrN e7
            refine ⟨false, fun c => ?_, rfl, rfl⟩
            rw [c] at e8
            exact e8 rfl
        · exact ⟨wb, fun c => vstrN e5 (congrArg outS c), rfl, rfl⟩
      · clear wb hv
        rintro σ' H' ⟨wb, hwo, rfl, rfl⟩
        refine ⟨_, rfl, a, 2, rfl, G2.st, by decide, by decide, fun d2 H3 d20 d21 g3 => ⟨_, _, rfl, rfl, _, rfl, (by show 0 ≤ sizeLine; decide), fun pl hpl => ?_⟩⟩
        have hpa : pl ≠ a := (g3.st.ne hpl).symm
        have G3 : Go a H (upd H3 pl (.lst [])) := G2.trans (g3.trans (Go.new g3.st hpl))
        have nH : H pl = none := by
          cases c : H pl with
          | none => rfl
          | some o =>
            have := (G2.trans g3).keep _ _ c hpa
            rw [hpl] at this
            cases this
        refine ⟨_, rfl, _, rfl, by omega, by omega, for_range (lo := 0) (n := (2 + d2).toNat) (fun i σ' H' => ∃ (left : Int) (xs : List V) (es : List E) (kk sh : Option V), σ' = [some (.ref a), some (.str z), some (.int room), some (.int ((m + 1 : Nat) : Int)), some (.str (outS outer)), some (.int d), some (.str (outS (some wb))), some (.int (2 + d2)), some (.int left), some (.ref pl), kk, sh] ∧ Go a H H' ∧ H' pl = some (.lst xs) ∧ Two (Rep H') xs (es.map E.toD) ∧ es.length = i ∧ 0 ≤ left ∧ left + ((es.map E.places).sum : Nat) ≤ room ∧ ∀ e ∈ es, Drawn e room m (some wb)) ?_ ?_ ?_⟩
        · exact ⟨room, [], [], none, none, rfl, G3, upd_same, .nil, rfl, by omega, by show (room : Int) + ((0 : Nat) : Int) ≤ room; omega, fun e he => by cases he⟩
        · rintro i σ' H4 hi ⟨left, xs, es, kk, sh, rfl, G4, h4, hX, hle, hl0, hls, hdr⟩
          refine ⟨fun σ' H' => ∃ share : Int, 0 ≤ share ∧ share ≤ left ∧ σ' = [some (.ref a), some (.str z), some (.int room), some (.int ((m + 1 : Nat) : Int)), some (.str (outS outer)), some (.int d), some (.str (outS (some wb))), some (.int (2 + d2)), some (.int left), some (.ref pl), some (.int (0 + i)), some (.int share)] ∧ Go a H4 H', ?_, ?_⟩
          · refine ⟨_, rfl, _, _, rfl, rfl, _, rfl, rfl, _, rfl, ite2 (fun e5 => ?_) (fun e5 => ?_)⟩
            · exact ⟨_, rfl, left, hl0, Int.le_refl _, rfl, Go.refl G4.st⟩
            · exact ⟨_, rfl, _, rfl, _, _, rfl, rfl, a, left + 1, rfl, G4.st, by omega, by omega, fun d5 H5 d50 d51 g5 => ⟨d5, d50, by omega, rfl, g5⟩⟩
          · rintro σ' H5 ⟨share, hs0, hs1, rfl, g5⟩
            have h5 := g5.keep _ _ h4 hpa
            refine ⟨_, rfl, _, rfl, _, _, rfl, rfl, _, rfl, .inl ⟨rfl, _, SqL.of h5⟩, _, rfl, _, rfl, _, rfl, _, rfl, _, _, rfl, rfl, _, rfl, a, z, share.toNat, m, some wb, ?_, g5.st, hz, by omega, by omega, fun v6 H6 e6 g6 r6 dr6 => ?_⟩
            · have e1 : share = ((share.toNat : Nat) : Int) := by omega
              have e2 : ∀ i j i' j' : Int, i = i' → j = j' → ([V.ref a, V.str z, V.int i, V.int j, V.str (outS (some wb))] : List V) = [V.ref a, V.str z, V.int i', V.int j', V.str (outS (some wb))] := fun i j i' j' h h' => by rw [h, h']
              exact e2 _ _ _ _ e1 em
            · have h6 := g6.keep _ _ h5 hpa
              have hlx := hX.len
              rw [List.length_map] at hlx
              have P6 : Pers H4 (upd H6 pl (.lst (xs ++ [v6]))) := (g5.pers.trans g6.pers).trans (Pers.store h6)
              refine ⟨pl, xs, v6, rfl, rfl, h6, Nat.lt_of_le_of_lt (m := 100) (by omega) (by decide), ?_⟩
              refine ⟨left - share, _, es ++ [e6], _, _, rfl, ?_, upd_same, ?_, ?_, by omega, ?_, ?_⟩
              · exact (G4.trans (g5.trans g6)).loc nH
              · rw [List.map_append]
                exact (Rep.pers2 P6 hX).app (.cons (r6.pers (Pers.store h6)) .nil)
              · rw [List.length_append, hle]
                rfl
              · rw [List.map_append, List.sum_append]
                have := dr6.pl
                show left - share + (((es.map E.places).sum + (e6.places + 0) : Nat) : Int) ≤ room
                omega
              · intro e he
                rcases List.mem_append.mp he with he | he
                · exact hdr e he
                · rw [List.mem_singleton] at he
                  subst he
                  exact ⟨dr6.ok, by have := dr6.pl; omega, dr6.dp, dr6.pt, dr6.hd⟩
        · rintro σ' H4 ⟨left, xs, es, kk, sh, rfl, G4, h4, hX, hle, hl0, hls, hdr⟩
          refine ⟨_, rfl, _, rfl, pl, xs, rfl, .inl ⟨SqL.of h4, fun l hl => ⟨(by show 2 ≤ sizeLine; decide), fun p hp => ?_⟩⟩⟩
          have G : Go a H (upd (upd H4 l (.tup xs)) p (.tup [.str (outS (some wb)), .ref l])) := G4.trans ((Go.new G4.st hl).trans (Go.new (G4.st.same (same_upd hl)) hp))
          have hln : l ≠ p := fun c => by
            rw [← c, upd_same] at hp
            cases hp
          have hlx := hX.len
          rw [List.length_map] at hlx
          have R : Rep (upd (upd H4 l (.tup xs)) p (.tup [.str (outS (some wb)), .ref l])) (.ref l) (.tup (es.map E.toD)) := Rep.tup2 (by rw [upd_ne hln]; exact upd_same) (by omega) (Rep.pers2 ((Pers.new hl).trans (Pers.new hp)) hX)
          have hsum : (es.map E.places).sum ≤ room := by omega
          have hdep : E.depth.depths es ≤ m := depths_le fun e he => (hdr e he).dp
          have hpar : (es.map E.parts).sum + 1 ≤ pb (m + 1) := by
            have := sum_le_mul (es := es) (f := E.parts) (n := pb m) fun e he => (hdr e he).pt
            have l3 : es.length ≤ 3 := by omega
            have := Nat.mul_le_mul_right (pb m) l3
            rw [pb]
            omega
          have hok : es.all E.ok = true := List.all_eq_true.mpr fun e he => (hdr e he).ok
          have h2 : decide (2 ≤ es.length) = true := decide_eq_true (by omega)
          cases wb with
          | false =>
            refine q _ _ (.join es) G ?_ ⟨?_, by rw [E.places, placess_eq]; exact hsum, by rw [E.depth]; exact Nat.succ_le_succ hdep, by rw [E.parts, partss_eq]; exact hpar, .inr hwo⟩
            · rw [E.toD, toDs_eq]
              exact Rep.tup2 upd_same (by show 2 ≤ 100000; decide) (.cons (.str (by show sJoin.length ≤ 1000; rw [lJ]; decide)) (.cons R .nil))
            · have : es.any isJoin = false := any_no fun e he => by
                have := (hdr e he).hd
                cases e <;> first | rfl | exact absurd (this.resolve_left (by intro c; cases c)) (fun c => c rfl)
              rw [E.ok, oks_eq, h2, hok, this]
              rfl
          | true =>
            refine q _ _ (.alt es) G ?_ ⟨?_, by rw [E.places, placess_eq]; exact hsum, by rw [E.depth]; exact Nat.succ_le_succ hdep, by rw [E.parts, partss_eq]; exact hpar, .inr hwo⟩
            · rw [E.toD, toDs_eq]
              exact Rep.tup2 upd_same (by show 2 ≤ 100000; decide) (.cons (.str (by show sOr.length ≤ 1000; rw [lO]; decide)) (.cons R .nil))
            · have : es.any isAlt = false := any_no fun e he => by
                have := (hdr e he).hd
                cases e <;> first | rfl | exact absurd (this.resolve_left (by intro c; cases c)) (fun c => c rfl)
              rw [E.ok, oks_eq, h2, hok, this]
              rfl
  all_goals
    refine ⟨_, rfl, _, _, rfl, rfl, _, rfl, ite2 (fun e5 => ?_) (fun e5 => ?_)⟩
    · have hr0 : 0 < room := by
        have : (0 : Int) < (room : Int) := of_decide_eq_true e5
        omega
      refine ⟨_, rfl, a, 8, rfl, g1.st, by decide, by decide, fun d2 H2 d20 d21 g2 => ⟨_, _, rfl, rfl, _, rfl, ite2 (fun e6 => ?_) (fun e6 => ?_)⟩⟩
      · refine ⟨_, rfl, _, rfl, z, rfl, Nat.le_trans hz.2.1 (by decide), fun l hl => ⟨a, l, signsV z, rfl, g2.st.same (same_upd hl), SqL.of upd_same, (g2.st.ne hl).symm, ?_, ?_, fun v H3 hv g3 => ?_⟩⟩
        · rw [signs_len]
          exact hz.1
        · rw [signs_len]
          exact Nat.lt_of_le_of_lt hz.2.1 (by decide)
        · obtain ⟨c, hc, rfl⟩ := mem_signs hv
          exact q _ _ (.sym c) (g1.trans (g2.trans ((Go.new g2.st hl).trans g3))) (rep_sym c) (drawn_sym (hz.2.2 c hc) hr0)
      · exact q _ _ .eps (g1.trans g2) rep_eps drawn_eps
    · exact iteF (q _ _ .eps g1 rep_eps drawn_eps)
end
end My
namespace My
open PySem PySem.Spec PyProof.Rows L2
def spExpr : Sp := fun vs H Q _ => ∃ (a : Addr) (most : Nat), vs = [.ref a, .int most] ∧ Strm H a ∧ 1 ≤ most ∧ most ≤ 50 ∧ ∀ v H' e, Go a H H' → Rep H' v e.toD → Drawn e most 4 none → Q v H'
def spEqual (n : Nat) : Sp := fun vs H Q _ => ∃ (x y : V) (j : J) (k : Nat), vs = [x, y] ∧ k < n ∧ RepJ H x j k ∧ RepJ H y j k ∧ ∀ H', Same H H' → Q (.bl true) H'
def spInside : Sp := fun vs H Q _ => ∃ (v : V) (e : E), vs = [v] ∧ e.ok = true ∧ Rep H v e.toD ∧ ∀ p xs H', Same H H' → H' p = some (.tup xs) → xs.length ≤ 100000 → Two (Rep H') xs (e.kids.map E.toD) → Q (.ref p) H'
def spCount (n : Nat) : Sp := fun vs H Q _ => ∃ (v : V) (e : E), vs = [v] ∧ e.ok = true ∧ e.depth < n ∧ Rep H v e.toD ∧ ∀ H', Same H H' → Q (.int e.parts) H'
section
variable {P : Program} {w : World} {K : PySem.W.Frag} {mg : Str → Option Value} {base : Heap} {a_BOUNDS a_LONG_BOUNDS : Addr} {tL tM : Tok}
theorem Drawn.mono {e : E} {r r' d d' : Nat} {o : Option Bool} (h : Drawn e r d o) (hr : r ≤ r') (hd : d ≤ d') : Drawn e r' d' none where
  ok := h.ok
  pl := Nat.le_trans h.pl hr
  dp := Nat.le_trans h.dp hd
  pt := Nat.le_trans h.pt (pb_mono hd)
  hd := by
    cases e with
    | join es => exact .inr fun c => by cases c
    | alt es => exact .inr fun c => by cases c
    | _ => exact .inl rfl
theorem lets_by {z : Str} (h : (decide (0 < z.length) && decide (z.length ≤ 100) && z.cps.toList.all fun c => decide (97 ≤ c) && decide (c ≤ 100)) = true) : Lets z := by
  simp only [Bool.and_eq_true, decide_eq_true_eq, List.all_eq_true] at h
  exact ⟨h.1.1, h.1.2, h.2⟩
abbrev N__law_expression : List Str := ["stream", "most", "letters"]
theorem sc__law_expression : FnScope ["stream", "most", "letters"] ["stream", "most"] (defScope s__law_expression) := ⟨rfl, rfl, rfl, by decide +kernel, rfl, by decide +kernel, by decide +kernel⟩
theorem ok_expr {f : Addr} {fd : FuncData} (B : Bt K mg a_BOUNDS a_LONG_BOUNDS tL tM) (Dd : Df K mg "_law_expression" s__law_expression ["stream", "most"] f fd) (G_law_next : Cl P w K mg base 1 "_law_next" ["stream", "many"] spNext) (G_law_pick : Cl P w K mg base 2 "_law_pick" ["stream", "rows"] (spPick K))
    (G_law_grown : Cl P w K mg base 7 "_law_grown" ["stream", "letters", "room", "deep", "outer"] (spGrown 5)) : FnOk P w K mg base CX0 8 f fd ["stream", "most"] spExpr := by
  refine Dd.F.ok sc__law_expression (fun vs H Q Ex h => ?_) (fun cdv A outer s H vs Q Ex hr h => ?_)
  · obtain ⟨a, most, rfl, _⟩ := h
    rfl
  obtain ⟨a, most, rfl, hS, hm1, hm2, q⟩ := h
  refine ⟨_, (pss_cons (ps_set (i := 2) sc__law_expression.nd rfl (Or.inl rfl) (pe_cl G_law_pick (hr.mono (by omega)) rfl (pa_cons (pv 0) (pa_cons (pe_lst (pa_cons pe_str (pa_cons pe_str (pa_cons pe_str (pa_cons pe_str (pa_cons pe_str (pa_cons pe_str pa_nil))))))) pa_nil))))
    (pss_one (ps_ret (pe_cl G_law_grown (hr.mono (by omega)) rfl (pa_cons (pv 0) (pa_cons (pv 2) (pa_cons (pe_op op_add pe_int (pe_cl G_law_next (hr.mono (by omega)) rfl (pa_cons (pv 0) (pa_cons (pv 1) pa_nil)))) (pa_cons (pe_op op_add pe_int (pe_cl G_law_next (hr.mono (by omega)) rfl (pa_cons (pv 0) (pa_cons pe_int pa_nil)))) (pa_cons pe_str pa_nil))))))))), ?_⟩
  refine ⟨_, rfl, (by show 6 ≤ sizeLine; decide), fun l hl => ⟨a, l, _, rfl, hS.same (same_upd hl), SqL.of upd_same, (hS.ne hl).symm, by decide, by decide, fun v H1 hv g1 => ?_⟩⟩
  have G1 : Go a H H1 := (Go.new hS hl).trans g1
  obtain ⟨z, rfl, hz⟩ : ∃ z, v = .str z ∧ Lets z := by
    simp only [List.mem_cons, List.not_mem_nil, or_false] at hv
    rcases hv with rfl | rfl | rfl | rfl | rfl | rfl <;> exact ⟨_, rfl, lets_by (by decide +kernel)⟩
  refine ⟨_, rfl, _, rfl, _, rfl, _, rfl, a, most, rfl, G1.st, by omega, by omega, fun d H2 d0 d1 g2 => ⟨_, _, rfl, rfl, _, rfl, a, 4, rfl, g2.st, by decide, by decide, fun d' H3 d0' d1' g3 => ⟨_, _, rfl, rfl, a, z, (1 + d).toNat, (1 + d').toNat, none, ?_, g3.st, hz, by omega, by omega, fun v' H4 e g4 r4 dr => ?_⟩⟩⟩
  · have e1 : 1 + d = (((1 + d).toNat : Nat) : Int) := by omega
    have e2 : 1 + d' = (((1 + d').toNat : Nat) : Int) := by omega
    have e3 : ∀ i j i' j' : Int, i = i' → j = j' → ([V.ref a, V.str z, V.int i, V.int j, V.str sNo] : List V) = [V.ref a, V.str z, V.int i', V.int j', V.str sNo] := fun i j i' j' h h' => by rw [h, h']
    exact e3 _ _ _ _ e1 e2
  · exact q v' H4 e (G1.trans (g2.trans (g3.trans g4))) r4 (dr.mono (by omega) (by omega))
theorem sum_cast (es : List E) (f : E → Nat) : (es.map fun k => ((f k : Nat) : Int)).sum = (((es.map f).sum : Nat) : Int) := by
  induction es with
  | nil => rfl
  | cons e es ih =>
    rw [List.map_cons, List.sum_cons, List.map_cons, List.sum_cons, ih]
    omega
/-! ### the law's own comparison, of equal data -/
def SeqV (K : PySem.W.Frag) (H : Hp) (p : Addr) (xs : List V) : Prop := SqL K H p xs ∨ SqT K H p xs
theorem SeqV.len {K : PySem.W.Frag} {H : Hp} {p : Addr} {xs : List V} (h : SeqV K H p xs) {n : Nat} (e : n = xs.length) : LenV K (.ref p) H n := by
  rcases h with h | h
  · exact .inl ⟨xs, h, e⟩
  · exact .inr ⟨xs, h, e⟩
theorem SeqV.ix {K : PySem.W.Frag} {H : Hp} {p : Addr} {xs : List V} (h : SeqV K H p xs) {i : Int} {v : V} {Q : VK} (hi : atI xs i = some v) (q : Q v H) : rIx K (.ref p) (.int i) H Q := by
  rcases h with h | h
  · exact .inl ⟨p, xs, i, v, rfl, rfl, h, hi, q⟩
  · exact .inr (.inl ⟨p, xs, i, v, rfl, rfl, h, hi, q⟩)
theorem SeqV.same {K : PySem.W.Frag} {H H' : Hp} {p : Addr} {xs : List V} (s : Same H H') (h : SeqV K H p xs) : SeqV K H' p xs := by
  rcases h with h | h
  · exact .inl (s.seq h)
  · rcases h with (h | ⟨o, h⟩) | h
    · exact .inr (.inl (.inl (s _ _ h)))
    · exact .inr (.inl (.inr ⟨o, s _ _ h⟩))
    · exact .inr (.inr h)
theorem RepJ.both {K : PySem.W.Frag} {H : Hp} {x y : V} {j : J} {k : Nat} (hx : RepJ H x j k) (hy : RepJ H y j k) : (x = .non ∧ y = .non) ∨ (∃ b, x = .bl b ∧ y = .bl b) ∨ (∃ i, x = .int i ∧ y = .int i) ∨ (∃ z, x = .str z ∧ y = .str z) ∨
    ∃ (isT : Bool) (p q : Addr) (xs ys : List V) (js : List J) (k' : Nat), k = k' + 1 ∧ x = .ref p ∧ y = .ref q ∧ TyX K H x (.type (if isT then "tuple" else "list")) ∧ TyX K H y (.type (if isT then "tuple" else "list")) ∧ SeqV K H p xs ∧ SeqV K H q ys ∧ xs.length ≤ 100000 ∧ xs.length = js.length ∧ ys.length = js.length ∧
      (∀ (i : Nat) (x : V) (j : J), xs[i]? = some x → js[i]? = some j → RepJ H x j k') ∧ (∀ (i : Nat) (x : V) (j : J), ys[i]? = some x → js[i]? = some j → RepJ H x j k') := by
  cases hx with
  | non => cases hy; exact .inl ⟨rfl, rfl⟩
  | bl b => cases hy; exact .inr (.inl ⟨b, rfl, rfl⟩)
  | int i => cases hy; exact .inr (.inr (.inl ⟨i, rfl, rfl⟩))
  | str z => cases hy; exact .inr (.inr (.inr (.inl ⟨z, rfl, rfl⟩)))
  | @tup n p xs js h z l r =>
    cases hy with
    | @tup _ q ys _ h' z' l' r' => exact .inr (.inr (.inr (.inr ⟨true, p, q, xs, ys, js, n, rfl, rfl, rfl, .base (.tup h), .base (.tup h'), .inr (SqT.of h), .inr (SqT.of h'), z, l, l', r, r'⟩)))
  | @lst n p xs js h z l r =>
    cases hy with
    | @lst _ q ys _ h' z' l' r' => exact .inr (.inr (.inr (.inr ⟨false, p, q, xs, ys, js, n, rfl, rfl, rfl, .base (.lst h), .base (.lst h'), .inl (SqL.of h), .inl (SqL.of h'), z, l, l', r, r'⟩)))
def spIsInt : Sp := fun vs H Q _ => ∃ i : Int, vs = [.int i] ∧ Q (.bl true) H
end
end My
namespace My
open PySem PySem.Spec PyProof.Rows L2
def rLenOf (K : PySem.W.Frag) : List V → Hp → VK → Prop := fun xs H Q => ∃ x n, xs = [x] ∧ LenV K x H n ∧ Q (.int n) H
theorem call_lenK {X : Cx} : CallR X (.builtin "len") (rLenOf X.K) := call_len
/-- over a list or a text -/
def iLT (K : PySem.W.Frag) (tl : TE) : TI := fun σ H R => iList K tl σ H R ∨ iStr tl σ H R
theorem pi_lt {X : Cx} {tg l : Expr} {tl : TE} (hl : PE X l tl) : PI X tg l (iLT X.K tl) := by
  refine ⟨fun pins s σ H R I h => ?_⟩
  rcases h with h | h
  · exact (pi_list hl).run pins s σ H R I h
  · exact (pi_str hl).run pins s σ H R I h
theorem mem_takeA {α : Type} {ns : List α} {i : Nat} {z : α} (h : ns[i]? = some z) (x : α) : x ∈ ns.take (i + 1) ↔ x ∈ ns.take i ∨ x = z := by
  rw [List.take_add_one, h, List.mem_append]
  show _ ∨ x ∈ [z] ↔ _
  rw [List.mem_singleton]
def signsS (z : Str) : List Str := z.cps.toList.map fun c => ⟨#[c]⟩
def spPickB (K : PySem.W.Frag) : Sp := fun vs H Q _ => ∃ (a r : Addr) (xs : List V), vs = [.ref a, .ref r] ∧ Strm H a ∧ SqL K H r xs ∧ r ≠ a ∧ 0 < xs.length ∧ xs.length < 100000 ∧ ∀ v H', v ∈ xs → Go a H H' → Q v H'
def spOnceS : Sp := fun vs H Q _ => ∃ (v : V) (zs : List Str), vs = [v] ∧ ((∃ r, v = .ref r ∧ H r = some (.lst (zs.map V.str))) ∨ (∃ z, v = .str z ∧ zs = signsS z)) ∧ zs.length ≤ 16000000 ∧
  ∀ (p : Addr) (H' : Hp) (ms : List Str), Same H H' → H p = none → H' p = some (.lst (ms.map V.str)) → ms.Nodup → (∀ x, x ∈ ms ↔ x ∈ zs) → ms.length ≤ zs.length → Q (.ref p) H'
def spJoined : Sp := fun vs H Q _ => ∃ (r t : Addr) (xs ys : List Str) (most : Nat), vs = [.ref r, .ref t, .int most] ∧ H r = some (.lst (xs.map V.str)) ∧ H t = some (.lst (ys.map V.str)) ∧ xs.length ≤ 3125 ∧ ys.length ≤ 3125 ∧ (∀ x ∈ xs, x.length ≤ 100) ∧ (∀ x ∈ ys, x.length ≤ 100) ∧
  ∀ (p : Addr) (H' : Hp) (ms : List Str), Same H H' → H p = none → H' p = some (.lst (ms.map V.str)) → ms.Nodup → (∀ x, x ∈ ms ↔ ∃ a ∈ xs, ∃ b ∈ ys, a.length + b.length ≤ most ∧ x = a ++ b) → Q (.ref p) H'
def spLets (n : Nat) : Sp := fun vs H Q _ => ∃ (v : V) (e : E), vs = [v] ∧ e.ok = true ∧ e.depth < n ∧ e.places ≤ 100 ∧ Rep H v e.toD ∧ ∀ (z : Str) H', Same H H' → z.cps.toList = e.letters → Q (.str z) H'
theorem letterss_flat (es : List E) : E.letters.letterss es = (es.map E.letters).flatten := by
  induction es with
  | nil => rfl
  | cons e es ih => rw [E.letters.letterss, ih, List.map_cons, List.flatten_cons]
theorem letters_kids (e : E) (h : ¬ isStr e.toD = true) : e.letters = (e.kids.map E.letters).flatten := by
  cases e with
  | eps => exact absurd (by rw [E.toD]; rfl) h
  | sym c => exact absurd (by rw [E.toD]; rfl) h
  | maybe e => rw [E.letters, E.kids]; simp
  | many e => rw [E.letters, E.kids]; simp
  | join es => rw [E.letters, E.kids, letterss_flat]
  | alt es => rw [E.letters, E.kids, letterss_flat]
section
variable {P : Program} {w : World} {K : PySem.W.Frag} {mg : Str → Option Value} {base : Heap} {a_BOUNDS a_LONG_BOUNDS : Addr} {tL tM : Tok}
theorem ok_pickB {f : Addr} {fd : FuncData} (B : Bt K mg a_BOUNDS a_LONG_BOUNDS tL tM) (D : Df K mg "_law_pick" s__law_pick ["stream", "rows"] f fd) (G_law_next : Cl P w K mg base 1 "_law_next" ["stream", "many"] spNext) : FnOk P w K mg base CX0 2 f fd ["stream", "rows"] (spPickB K) := by
  refine D.F.ok sc__law_pick (fun vs H Q E h => ?_) (fun cdv A outer s H vs Q E hr h => ?_)
  · obtain ⟨a, r, xs, rfl, _⟩ := h
    rfl
  obtain ⟨a, r, xs, rfl, hS, hX, hra, h0, h1, q⟩ := h
  refine ⟨_, (pss_one (ps_ret (pe_ix (r := rIxL K) ix_list (pv 1) (pe_cl G_law_next (hr.mono (by omega)) rfl (pa_cons (pv 0) (pa_cons (pe_callB call_len rfl B.b_len boot_len (pa_cons (pv 1) pa_nil)) pa_nil))) (fun _ _ => rfl)))), ?_⟩
  refine ⟨_, rfl, _, rfl, _, rfl, _, _, rfl, .inl ⟨_, hX, rfl⟩, a, _, rfl, hS, by omega, by omega, fun d H' d0 d1 g => ?_⟩
  have hd : d.toNat < xs.length := by omega
  exact ⟨r, xs, d, xs[d.toNat], rfl, rfl, g.seq hra hX, at_of (j := d.toNat) (by omega) (List.getElem?_eq_getElem hd), q _ _ (List.getElem_mem hd) g⟩
end
end My
namespace My
open PySem PySem.Spec PyProof.Rows L2
def ofL (l : List Nat) : Str := ⟨l.toArray⟩
theorem ofL_cps (l : List Nat) : (ofL l).cps.toList = l := by
  show l.toArray.toList = l
  simp
theorem ofL_len (l : List Nat) : (ofL l).length = l.length := by rw [len_cps, ofL_cps]
theorem words_one {L : List Nat → Prop} {z : Str} {most : Nat} (hL : ∀ w, L w ↔ w = z.cps.toList) (h : z.length ≤ most) : WordsOf L most [z] where
  nd := by simp
  mem x := by
    rw [List.mem_singleton, hL]
    constructor
    · rintro rfl
      exact ⟨h, rfl⟩
    · rintro ⟨_, h⟩
      exact str_ext h
theorem words_none {L : List Nat → Prop} {z : Str} {most : Nat} (hL : ∀ w, L w ↔ w = z.cps.toList) (h : ¬ z.length ≤ most) : WordsOf L most [] where
  nd := by simp
  mem x := by
    rw [hL]
    constructor
    · intro c
      cases c
    · rintro ⟨h1, h2⟩
      exact absurd ((str_ext h2) ▸ h1) h
theorem words_join {A B C : List Nat → Prop} {most : Nat} {xs ys ms : List Str} (hA : WordsOf A most xs) (hB : WordsOf B most ys) (nd : ms.Nodup) (hm : ∀ x, x ∈ ms ↔ ∃ a ∈ xs, ∃ b ∈ ys, a.length + b.length ≤ most ∧ x = a ++ b)
    (hC : ∀ w, C w ↔ ∃ u v, w = u ++ v ∧ A u ∧ B v) : WordsOf C most ms where
  nd := nd
  mem x := by
    rw [hm, hC]
    constructor
    · rintro ⟨a, ha, b, hb, hl, rfl⟩
      exact ⟨by rw [len_app]; exact hl, _, _, cps_app a b, ((hA.mem a).mp ha).2, ((hB.mem b).mp hb).2⟩
    · rintro ⟨hl, u, v, e, h1, h2⟩
      rw [len_cps, e, List.length_append] at hl
      refine ⟨ofL u, (hA.mem _).mpr ⟨by rw [ofL_len]; omega, by rw [ofL_cps]; exact h1⟩, ofL v, (hB.mem _).mpr ⟨by rw [ofL_len]; omega, by rw [ofL_cps]; exact h2⟩, by rw [ofL_len, ofL_len]; exact hl, str_ext ?_⟩
      rw [cps_app, ofL_cps, ofL_cps, e]
theorem words_pw1 {L : List Nat → Prop} {most : Nat} {xs ms : List Str} (h : WordsOf L most xs) (nd : ms.Nodup) (hm : ∀ x, x ∈ ms ↔ x = sNo ∨ x ∈ xs) : WordsOf (Pw L 1) most ms where
  nd := nd
  mem x := by
    rw [hm, h.mem]
    constructor
    · rintro (rfl | ⟨h1, h2⟩)
      · exact ⟨by rw [len_no]; exact Nat.zero_le _, .inl cps_no⟩
      · exact ⟨h1, .inr ⟨[], x.cps.toList, rfl, rfl, h2⟩⟩
    · rintro ⟨h1, h2 | ⟨u, v, e, hu, hv⟩⟩
      · exact .inl (no_of_cps h2)
      · have hu' : u = [] := hu
        subst hu'
        rw [List.nil_append] at e
        exact .inr ⟨h1, by rw [e]; exact hv⟩
theorem words_pw {L : List Nat → Prop} {most n : Nat} {xs ys us ms : List Str} (hA : WordsOf (Pw L n) most xs) (hB : WordsOf L most ys) (hu : ∀ x, x ∈ us ↔ ∃ a ∈ xs, ∃ b ∈ ys, a.length + b.length ≤ most ∧ x = a ++ b) (nd : ms.Nodup) (hm : ∀ x, x ∈ ms ↔ x ∈ xs ∨ x ∈ us) : WordsOf (Pw L (n + 1)) most ms where
  nd := nd
  mem x := by
    rw [hm, hA.mem, hu]
    constructor
    · rintro (⟨h1, h2⟩ | ⟨a, ha, b, hb, hl, rfl⟩)
      · exact ⟨h1, .inl h2⟩
      · exact ⟨by rw [len_app]; exact hl, .inr ⟨_, _, cps_app a b, ((hA.mem a).mp ha).2, ((hB.mem b).mp hb).2⟩⟩
    · rintro ⟨hl, h | ⟨u, v, e, h1, h2⟩⟩
      · exact .inl ⟨hl, h⟩
      · rw [len_cps, e, List.length_append] at hl
        refine .inr ⟨ofL u, (hA.mem _).mpr ⟨by rw [ofL_len]; omega, by rw [ofL_cps]; exact h1⟩, ofL v, (hB.mem _).mpr ⟨by rw [ofL_len]; omega, by rw [ofL_cps]; exact h2⟩, by rw [ofL_len, ofL_len]; exact hl, str_ext ?_⟩
        rw [cps_app, ofL_cps, ofL_cps, e]
theorem WordsOf.of {A C : List Nat → Prop} {most : Nat} {ms : List Str} (h : WordsOf A most ms) (k : ∀ w, w.length ≤ most → (A w ↔ C w)) : WordsOf C most ms where
  nd := h.nd
  mem x := by
    rw [h.mem]
    exact and_congr_right fun hl => k _ (by rw [← len_cps]; exact hl)
theorem WordsOf.short {L : List Nat → Prop} {most : Nat} {ms : List Str} (h : WordsOf L most ms) (hm : most ≤ 5) : ∀ x ∈ ms, x.length ≤ 100 := fun x hx => by
  have := ((h.mem x).mp hx).1
  omega
structure WordAt (L : Addr) (H : Hp) (most : Nat) (v : V) (k : E) : Prop where
  ex : ∃ (p : Addr) (ms : List Str), v = .ref p ∧ p ≠ L ∧ H p = some (.lst (ms.map V.str)) ∧ WordsOf (MW k) most ms
theorem WordAt.same {L : Addr} {H H' : Hp} (s : Same H H') {most : Nat} {v : V} {k : E} (h : WordAt L H most v k) : WordAt L H' most v k := by
  obtain ⟨p, ns, h1, h0, h2, h3⟩ := h.ex
  exact ⟨p, ns, h1, h0, s _ _ h2, h3⟩
theorem WordAt.store {L : Addr} {H : Hp} {o : HO} {most : Nat} {v : V} {k : E} (h : WordAt L H most v k) : WordAt L (upd H L o) most v k := by
  obtain ⟨p, ns, h1, h0, h2, h3⟩ := h.ex
  exact ⟨p, ns, h1, h0, by rw [upd_ne h0]; exact h2, h3⟩
def spWords (n : Nat) : Sp := fun vs H Q _ => ∃ (v : V) (e : E) (most : Nat), vs = [v, .int most] ∧ e.ok = true ∧ e.depth < n ∧ e.parts ≤ 400 ∧ most ≤ 5 ∧ Rep H v e.toD ∧ ∀ (p : Addr) (H' : Hp) (ms : List Str), Same H H' → H p = none → H' p = some (.lst (ms.map V.str)) → WordsOf (MW e) most ms → Q (.ref p) H'
theorem kid_parts {e k : E} (h : k ∈ e.kids) : k.parts ≤ e.parts ∧ e.kids.length ≤ e.parts := by
  have hp := parts_kids e
  have h1 : ∀ l : List E, k ∈ l → k.parts ≤ (l.map E.parts).sum ∧ l.length ≤ (l.map E.parts).sum := by
    have h2 : ∀ l : List E, l.length ≤ (l.map E.parts).sum := by
      intro l
      induction l with
      | nil => exact Nat.zero_le _
      | cons a l ih =>
        have := parts_pos a
        rw [List.map_cons, List.sum_cons, List.length_cons]
        omega
    intro l hl
    refine ⟨?_, h2 l⟩
    induction l with
    | nil => cases hl
    | cons a l ih =>
      rw [List.map_cons, List.sum_cons]
      rcases List.mem_cons.mp hl with rfl | hl
      · omega
      · have := ih hl
        omega
  have := h1 _ h
  omega
section
variable {P : Program} {w : World} {K : PySem.W.Frag} {mg : Str → Option Value} {base : Heap} {a_BOUNDS a_LONG_BOUNDS : Addr} {tL tM : Tok}
end
end My
namespace My
open PySem PySem.Spec PyProof.Rows L2
def spCheckW : Sp := fun vs H Q _ => ∃ (v : V) (d : My.D), vs = [v] ∧ Rep H v d ∧ isWord d = true ∧ ∀ H', Same H H' → Q .non H'
def spMatches : Sp := fun vs H Q _ => ∃ (v : V) (e : E) (z : Str), vs = [v, .str z] ∧ Eok e ∧ Rep H v e.toD ∧ z.length ≤ 24 ∧ LetW z ∧ ∀ H', Same H H' → Q (.bl (rightL e z.cps.toList)) H'
def spAllW : Sp := fun vs H Q _ => ∃ (z : Str) (most : Nat), vs = [.str z, .int most] ∧ z.length ≤ 8 ∧ most ≤ 4 ∧ LetW z ∧ ∀ (p : Addr) (H' : Hp) (ms : List Str), Same H H' → H p = none → H' p = some (.lst (ms.map V.str)) → (∀ x ∈ ms, x.length ≤ most ∧ LetW x) → Q (.ref p) H'
theorem isWord_ok {z : Str} (h : z.length ≤ 24) (l : LetW z) : isWord (.str z) = true := by
  show (decide (z.length ≤ 24) && z.cps.toList.all fun c => decide (c ∈ (Str.ofString "abcd").cps.toList)) = true
  rw [decide_eq_true h, Bool.true_and, List.all_eq_true]
  exact fun c hc => decide_eq_true ((abcd_in c).mpr (l c hc))
theorem letW_app {a b : Str} (ha : LetW a) (hb : LetW b) : LetW (a ++ b) := fun c hc => by
  rw [cps_app] at hc
  rcases List.mem_append.mp hc with h | h
  · exact ha c h
  · exact hb c h
theorem letW_no : LetW sNo := fun c hc => by
  rw [cps_no] at hc
  cases hc
theorem size_le : ∀ e : E, e.toD.size ≤ 4 * e.parts := by
  have A : ∀ n (e : E), e.depth ≤ n → e.toD.size ≤ 4 * e.parts := by
    intro n
    induction n with
    | zero =>
      intro e h
      cases e with
      | eps => rw [E.toD, E.parts, My.D.size]; omega
      | sym c => rw [E.toD, E.parts, My.D.size]; omega
      | maybe e => rw [E.depth] at h; omega
      | many e => rw [E.depth] at h; omega
      | join es => rw [E.depth] at h; omega
      | alt es => rw [E.depth] at h; omega
    | succ n ih =>
      have rows : ∀ es : List E, (∀ e ∈ es, e.depth ≤ n) → ((es.map E.toD).map My.D.size).sum ≤ 4 * (es.map E.parts).sum := by
        intro es
        induction es with
        | nil => intro _; exact Nat.zero_le _
        | cons e es ih2 =>
          intro h
          have h1 := ih e (h e (List.mem_cons_self ..))
          have h2 := ih2 fun x hx => h x (List.mem_cons_of_mem _ hx)
          simp only [List.map_cons, List.sum_cons]
          omega
      intro e h
      cases e with
      | eps => rw [E.toD, E.parts, My.D.size]; omega
      | sym c => rw [E.toD, E.parts, My.D.size]; omega
      | maybe e =>
        rw [E.depth] at h
        have := ih e (by omega)
        rw [E.toD, E.parts]
        simp only [My.D.size, My.D.size.sizes]
        omega
      | many e =>
        rw [E.depth] at h
        have := ih e (by omega)
        rw [E.toD, E.parts]
        simp only [My.D.size, My.D.size.sizes]
        omega
      | join es =>
        have hk : ∀ e ∈ es, e.depth ≤ n := fun e he => by
          have := depth_kids (.join es) e he
          omega
        have := rows es hk
        rw [E.toD, E.parts, partss_eq, toDs_eq]
        simp only [My.D.size, My.D.size.sizes, sizes_eq]
        omega
      | alt es =>
        have hk : ∀ e ∈ es, e.depth ≤ n := fun e he => by
          have := depth_kids (.alt es) e he
          omega
        have := rows es hk
        rw [E.toD, E.parts, partss_eq, toDs_eq]
        simp only [My.D.size, My.D.size.sizes, sizes_eq]
        omega
  exact fun e => A _ e (Nat.le_refl _)
section
variable {P : Program} {w : World} {K : PySem.W.Frag} {mg : Str → Option Value} {base : Heap} {a_BOUNDS a_LONG_BOUNDS : Addr} {tL tM : Tok}
abbrev N_check_word : List Str := ["value"]
theorem sc_check_word : FnScope ["value"] ["value"] (defScope s_check_word) := ⟨rfl, rfl, rfl, by decide +kernel, rfl, by decide +kernel, by decide +kernel⟩
theorem ok_checkword {f : Addr} {fd : FuncData} (B : Bt K mg a_BOUNDS a_LONG_BOUNDS tL tM) (Dd : Df K mg "check_word" s_check_word ["value"] f fd) (Gis_word : Cl P w K mg base 2 "is_word" ["value"] spIsWord) : FnOk P w K mg base CX0 3 f fd ["value"] spCheckW := by
  refine Dd.F.ok sc_check_word (fun vs H Q Ex h => ?_) (fun cdv A outer s H vs Q Ex hr h => ?_)
  · obtain ⟨v, d, rfl, _⟩ := h
    rfl
  obtain ⟨v, d, rfl, hR, hs, q⟩ := h
  refine ⟨_, (pss_one (ps_if (pt_not (pt_val (pe_cl Gis_word (hr.mono (by omega)) rfl (pa_cons (pv 0) pa_nil)))) (pss_one ps_never) pss_nil)), ?_⟩
  refine ⟨_, rfl, v, d, rfl, hR, fun H1 s1 => ?_⟩
  rw [hs]
  exact ⟨_, rfl, iteF (q H1 s1)⟩
abbrev N_matches : List Str := ["expression", "word"]
theorem sc_matches : FnScope ["expression", "word"] ["expression", "word"] (defScope s_matches) := ⟨rfl, rfl, rfl, by decide +kernel, rfl, by decide +kernel, by decide +kernel⟩
theorem ok_matches {C f : Addr} {fd : FuncData} (B : Bt K mg a_BOUNDS a_LONG_BOUNDS tL tM) (Dd : Df K mg "matches" s_matches ["expression", "word"] f fd) (Gcheck_long : Cl P w K mg base 6 "check_long" ["value"] spCheck) (Gcheck_word : Cl P w K mg base 3 "check_word" ["value"] spCheckW) (Gsteps_of : Cl P w K mg base 87 "steps_of" ["expression"] (spSteps C)) (Gis_right : Cl P w K mg base 3 "is_right" ["steps", "word"] (spRight C)) : FnOk P w K mg base CX0 88 f fd ["expression", "word"] spMatches := by
  refine Dd.F.ok sc_matches (fun vs H Q Ex h => ?_) (fun cdv A outer s H vs Q Ex hr h => ?_)
  · obtain ⟨v, e, z, rfl, _⟩ := h
    rfl
  obtain ⟨v, e, z, rfl, hE, hR, hz, hl, q⟩ := h
  refine ⟨_, (pss_cons (ps_expr (pe_cl Gcheck_long (hr.mono (by omega)) rfl (pa_cons (pv 0) pa_nil)))
    (pss_cons (ps_expr (pe_cl Gcheck_word (hr.mono (by omega)) rfl (pa_cons (pv 1) pa_nil)))
    (pss_one (ps_ret (pe_cl Gis_right (hr.mono (by omega)) rfl (pa_cons (pe_cl Gsteps_of (hr.mono (by omega)) rfl (pa_cons (pv 0) pa_nil)) (pa_cons (pv 1) pa_nil))))))), ?_⟩
  refine ⟨_, rfl, v, _, rfl, hR, fl_toD e, hE.sz, long_top hE, fun H1 s1 => ?_⟩
  refine ⟨_, rfl, .str z, .str z, rfl, .str (by omega), isWord_ok hz hl, fun H2 s2 => ?_⟩
  refine ⟨_, rfl, v, e, rfl, hE.ok, Nat.lt_of_le_of_lt hE.dep (by decide), hE.pl, hR.pers (Pers.same (s1.trans s2)), fun p H3 s3 S => ?_⟩
  exact ⟨_, rfl, p, z, e, rfl, S, hE.pl, by omega, fun H4 s4 => q H4 (((s1.trans s2).trans s3).trans s4)⟩
end
end My
namespace My
open PySem PySem.Spec PyProof.Rows L2
theorem Two.rev {α β : Type} {R : α → β → Prop} {as : List α} {bs : List β} (h : Two R as bs) : Two R as.reverse bs.reverse := by
  induction h with
  | nil => exact .nil
  | cons h _ ih =>
    rw [List.reverse_cons, List.reverse_cons]
    exact ih.app (.cons h .nil)
/-- a tuple of a word and what stands behind it -/
theorem rep_node {H : Hp} {p : Addr} {w : Str} {x : V} {d : My.D} (h : H p = some (.tup [.str w, x])) (hw : w.length ≤ 1000) (hx : Rep H x d) : Rep H (.ref p) (.tup [.str w, d]) :=
  Rep.tup2 h (by show 2 ≤ 100000; decide) (.cons (.str hw) (.cons hx .nil))
def spTurn (n : Nat) : Sp := fun vs H Q _ => ∃ (v : V) (e : E), vs = [v] ∧ e.ok = true ∧ e.depth < n ∧ e.parts ≤ 400 ∧ Rep H v e.toD ∧ ∀ u H', Same H H' → Rep H' u (turnE e).toD → Q u H'
def spTurned : Sp := fun vs H Q _ => ∃ (v : V) (e : E), vs = [v] ∧ Eok e ∧ Rep H v e.toD ∧ ∀ u H', Same H H' → Rep H' u (turnE e).toD → Q u H'
theorem str_cases {H : Hp} {v : V} {e : E} (hR : Rep H v e.toD) (h : isStr e.toD = true) : ∃ z : Str, v = .str z ∧ z.length ≤ 1000 ∧ ((e = .eps ∧ z = sNo) ∨ ∃ c, e = .sym c ∧ z = ⟨#[c]⟩) := by
  cases e with
  | eps =>
    rw [E.toD] at hR
    cases hR with
    | str hz => exact ⟨_, rfl, hz, .inl ⟨rfl, rfl⟩⟩
  | sym c =>
    rw [E.toD] at hR
    cases hR with
    | str hz => exact ⟨_, rfl, hz, .inr ⟨c, rfl, rfl⟩⟩
  | maybe k => exact absurd h (by rw [E.toD]; intro c; cases c)
  | many k => exact absurd h (by rw [E.toD]; intro c; cases c)
  | join es => exact absurd h (by rw [E.toD]; intro c; cases c)
  | alt es => exact absurd h (by rw [E.toD]; intro c; cases c)
theorem parts_len {es : List E} : es.length ≤ (es.map E.parts).sum := by
  induction es with
  | nil => exact Nat.zero_le _
  | cons e es ih =>
    have := parts_pos e
    rw [List.map_cons, List.sum_cons, List.length_cons]
    omega
section
variable {P : Program} {w : World} {K : PySem.W.Frag} {mg : Str → Option Value} {base : Heap} {a_BOUNDS a_LONG_BOUNDS : Addr} {tL tM : Tok}
abbrev N__turned : List Str := ["part", "word", "inner", "each"]
theorem sc__turned : FnScope ["part", "word", "inner", "each"] ["part"] (defScope s__turned) := ⟨rfl, rfl, rfl, by decide +kernel, rfl, by decide +kernel, by decide +kernel⟩
theorem ok_turned_step {f : Addr} {fd : FuncData} (B : Bt K mg a_BOUNDS a_LONG_BOUNDS tL tM) (Dd : Df K mg "_turned" s__turned ["part"] f fd) (n : Nat) (G_turned : Cl P w K mg base n "_turned" ["part"] (spTurn n)) : FnOk P w K mg base CX0 (n + 1) f fd ["part"] (spTurn (n + 1)) := by
  refine Dd.F.ok sc__turned (fun vs H Q Ex h => ?_) (fun cdv A outer s H vs Q Ex hr h => ?_)
  · obtain ⟨v, e, rfl, _⟩ := h
    rfl
  obtain ⟨v, e, rfl, hok, hd, hpt, hR, q⟩ := h
  refine ⟨_, (pss_cons (ps_if (pt_val (pe_callB call_isi rfl B.b_isinstance boot_isinstance (pa_cons (pv 0) (pa_cons (pe_bltn (v := .ty "str") rfl B.b_str boot_str rfl) pa_nil)))) (pss_one (ps_ret (pv 0))) pss_nil)
    (pss_cons (ps_asg (pv 0) (pg_tup rfl (pgs_cons (pg_name (i := 1) sc__turned.nd rfl (Or.inl rfl)) (pgs_cons (pg_name (i := 2) sc__turned.nd rfl (Or.inl rfl)) pgs_nil))))
    (pss_cons (ps_if (PW.pt (pw_or (pt_cmpR op_eq (pv 1) pe_str (nomark _)) (pw_or1 (pt_cmpR op_eq (pv 1) pe_str (nomark _))))) (pss_one (ps_ret (pe_tup (pa_cons (pv 1) (pa_cons (pe_cl G_turned (hr.mono (by omega)) rfl (pa_cons (pv 2) pa_nil)) pa_nil))))) pss_nil)
    (pss_one (ps_ret (pe_tup (pa_cons (pv 1) (pa_cons (pe_callTy (r := rTupOf K) call_tuple_ofK rfl B.b_tuple boot_tuple (pa_cons (pe_lc (own := [("each", 3)]) (g := gName 3) (tt := tYes) rfl sc__turned.nd (pi_tup (pe_rev (r := rRvT K) (rv_tup rfl) (pv 2))) (blkOk_by (N := N__turned) (sc := defScope s__turned) (by decide +kernel)) (fun _ _ _ _ _ => pg_name (i := 3) sc__turned.nd rfl (Or.inl rfl)) (fun _ _ _ _ _ => pts_nil) (fun _ _ _ _ _ => (pe_cl G_turned (hr.mono (by omega)) rfl (pa_cons (pv 3) pa_nil)))) pa_nil)) pa_nil)))))))), ?_⟩
  obtain ⟨t, ht, k1, _⟩ := hR.ty (K := K)
  refine ⟨_, rfl, _, _, _, _, _, rfl, .ty _, ht, k1, _, rfl, ite2 (fun e1 => ?_) (fun e1 => ?_)⟩
  · have : turnE e = e := by
      obtain ⟨z, _, _, ⟨rfl, _⟩ | ⟨c, rfl, _⟩⟩ := str_cases hR e1 <;> rfl
    rw [this] at q
    exact ⟨_, rfl, q _ H (Same.refl H) hR⟩
  obtain ⟨w, y, p0, x0, hlw, rfl, hp0, hx0, hk⟩ := node_of hok hR e1
  refine ⟨_, rfl, p0, _, rfl, SqT.of hp0, rfl, _, _, rfl, _, _, rfl, rfl, ?_⟩
  have row : ∀ es : List E, e.kids = es → y = .tup (es.map E.toD) → ∃ p1 xs, x0 = .ref p1 ∧ H p1 = some (.tup xs) ∧ Two (Rep H) xs (es.map E.toD) ∧ xs.length = es.length ∧ es.length ≤ 400 := fun es hes hy => by
    rw [hy] at hx0
    obtain ⟨p1, xs, rfl, h1, _, h2⟩ := hx0.untup
    refine ⟨p1, xs, rfl, h1, h2, by rw [h2.len, List.length_map], ?_⟩
    have := parts_kids e
    rw [hes] at this
    have := parts_len (es := es)
    omega
  refine ⟨_, rfl, rfl, _, rfl, ite2 (fun e2 => iteT ?_) (fun e2 => ?_)⟩
  · have hw := vstr e2
    rcases hk with (⟨h, k, rfl, rfl⟩ | ⟨h, k, rfl, rfl⟩) | ⟨h, es, rfl, hes, rfl⟩ | ⟨h, es, rfl, _, rfl⟩
    · rw [E.ok] at hok
      rw [E.depth] at hd
      rw [E.parts] at hpt
      refine ⟨_, rfl, _, rfl, x0, k, rfl, hok, by omega, by omega, hx0, fun u H1 s1 r1 => ⟨by show 2 ≤ sizeLine; decide, fun p hp => q _ _ (s1.trans (same_upd hp)) ?_⟩⟩
      rw [turnE, E.toD, ← h]
      exact rep_node upd_same hlw (r1.pers (Pers.new hp))
    · exact absurd (hw.symm.trans h) mn
    · exact absurd (h.symm.trans hw) jm
    · exact absurd (h.symm.trans hw) om
  refine ⟨_, rfl, rfl, _, rfl, ite2 (fun e3 => ?_) (fun e3 => ?_)⟩
  · have hw := vstr e3
    rcases hk with (⟨h, k, rfl, rfl⟩ | ⟨h, k, rfl, rfl⟩) | ⟨h, es, rfl, hes, rfl⟩ | ⟨h, es, rfl, _, rfl⟩
    · exact absurd (h.symm.trans hw) mn
    · rw [E.ok] at hok
      rw [E.depth] at hd
      rw [E.parts] at hpt
      refine ⟨_, rfl, _, rfl, x0, k, rfl, hok, by omega, by omega, hx0, fun u H1 s1 r1 => ⟨by show 2 ≤ sizeLine; decide, fun p hp => q _ _ (s1.trans (same_upd hp)) ?_⟩⟩
      rw [turnE, E.toD, ← h]
      exact rep_node upd_same hlw (r1.pers (Pers.new hp))
    · exact absurd (h.symm.trans hw) jn
    · exact absurd (h.symm.trans hw) on
  obtain ⟨es, hes, hy, ht⟩ : ∃ es, e.kids = es ∧ y = .tup (es.map E.toD) ∧ (turnE e).toD = .tup [.str w, .tup ((es.reverse.map turnE).map E.toD)] := by
    rcases hk with (⟨h, k, rfl, rfl⟩ | ⟨h, k, rfl, rfl⟩) | ⟨h, es, rfl, hes, rfl⟩ | ⟨h, es, rfl, _, rfl⟩
    · exact absurd h (vstrN e2)
    · exact absurd h (vstrN e3)
    · exact ⟨es, rfl, rfl, by rw [turnE, turns_eq, E.toD, toDs_eq, h, ← List.map_reverse]⟩
    · exact ⟨es, rfl, rfl, by rw [turnE, turns_eq, E.toD, toDs_eq, h, ← List.map_reverse]⟩
  obtain ⟨p1, xs, rfl, hp1, hX, hxl, hel⟩ := row es hes hy
  refine ⟨_, rfl, _, rfl, p1, xs, rfl, SqT.of hp1, fun pr hpr => ⟨pr, rfl, ⟨_, SqT.of upd_same⟩, fun L hL => ?_⟩⟩
  have sr := same_upd (o := .tup xs.reverse) hpr
  have hXr := hX.rev
  rw [← List.map_reverse] at hXr
  refine lc_tup (K := K) (a := pr) (xs := xs.reverse) (fun i H2 => Same (upd H pr (.tup xs.reverse)) H2 ∧ ∃ zs : List V, H2 L = some (.lst zs) ∧ Two (Rep H2) zs (((es.reverse.map turnE).take i).map E.toD)) ⟨same_upd hL, [], upd_same, by rw [List.take_zero]; exact .nil⟩ (fun i H2 _ h => SqT.of (h.1 _ _ upd_same)) (fun i x H2 hx h => ?_) (fun H2 h => ?_)
  · obtain ⟨s2, zs, h1, h2⟩ := h
    obtain ⟨d, hd1, hxd⟩ := hXr.get hx
    rw [List.getElem?_map] at hd1
    obtain ⟨k, hk2, rfl⟩ := Option.map_eq_some_iff.mp hd1
    have hmem : k ∈ e.kids := by
      rw [hes]
      exact List.mem_reverse.mp (List.mem_of_getElem? hk2)
    have hdk := depth_kids e k hmem
    have hpk := kid_parts hmem
    have hzl := h2.len
    rw [List.length_map, List.length_take] at hzl
    refine ⟨rfl, tyes ⟨_, rfl, x, k, rfl, ok_kids hok k hmem, by omega, by omega, hxd.pers (Pers.same (sr.trans s2)), fun u H3 s3 r3 => ⟨zs, s3 _ _ h1, ?_, ?_, zs ++ [u], upd_same, ?_⟩⟩⟩
    · have : i < xs.reverse.length := (List.getElem?_eq_some_iff.mp hx).1
      rw [List.length_reverse] at this
      exact Nat.lt_of_le_of_lt (m := 400) (by omega) (by decide)
    · exact fun b o hb => by rw [upd_ne (ne_of_none hb hL)]; exact s3 _ _ (s2 _ _ hb)
    · have hm : (es.reverse.map turnE)[i]? = some (turnE k) := by rw [List.getElem?_map, hk2]; rfl
      have P3 : Pers H3 (upd H3 L (.lst (zs ++ [u]))) := Pers.store (s3 _ _ h1)
      rw [take_snoc hm, List.map_append]
      exact (h2.mono fun _ _ => Rep.pers ((Pers.same s3).trans P3)).app (.cons (r3.pers P3) .nil)
  · obtain ⟨s2, zs, h1, h2⟩ := h
    have el : xs.reverse.length = (es.reverse.map turnE).length := by rw [List.length_reverse, List.length_map, List.length_reverse, hxl]
    rw [el, List.take_length] at h2
    refine ⟨L, zs, rfl, .inl ⟨SqL.of h1, fun p2 hp2 => ⟨by show 2 ≤ sizeLine; decide, fun p hp => q _ _ (((sr.trans s2).trans (same_upd hp2)).trans (same_upd hp)) ?_⟩⟩⟩
    rw [ht]
    have P2 := (Pers.new (o := .tup zs) hp2).trans (Pers.new (o := .tup [V.str w, V.ref p2]) hp)
    refine rep_node upd_same hlw (Rep.tup2 ((same_upd hp) _ _ upd_same) ?_ (Rep.pers2 P2 h2))
    rw [h2.len, List.length_map, List.length_map, List.length_reverse]
    omega
end
end My
namespace My
open PySem PySem.Spec PyProof.Rows L2
structure Ord (z : Str) : Prop where
  pm : z.cps.toList.Perm [97, 98, 99, 100]
def ordF (z : Str) (c : Nat) : Nat := z.cps.toList.getD (c - 97) 0
def ordG (z : Str) (d : Nat) : Nat := if d = ordF z 97 then 97 else if d = ordF z 98 then 98 else if d = ordF z 99 then 99 else 100
theorem Ord.four {z : Str} (h : Ord z) : ∃ a b c d, z.cps.toList = [a, b, c, d] ∧ a ≠ b ∧ a ≠ c ∧ a ≠ d ∧ b ≠ c ∧ b ≠ d ∧ c ≠ d := by
  have hl := h.pm.length_eq
  have hn : z.cps.toList.Nodup := h.pm.nodup_iff.mpr (by decide)
  match hz : z.cps.toList, hl, hn with
  | [a, b, c, d], _, hn =>
    refine ⟨a, b, c, d, rfl, ?_⟩
    simp at hn
    exact ⟨hn.1.1, hn.1.2.1, hn.1.2.2, hn.2.1.1, hn.2.1.2, hn.2.2⟩
theorem Ord.gf {z : Str} (h : Ord z) (c : Nat) (hc : 97 ≤ c ∧ c ≤ 100) : ordG z (ordF z c) = c := by
  obtain ⟨a, b, d, e, hz, h1, h2, h3, h4, h5, h6⟩ := h.four
  have f1 : ordF z 97 = a := by unfold ordF; rw [hz]; rfl
  have f2 : ordF z 98 = b := by unfold ordF; rw [hz]; rfl
  have f3 : ordF z 99 = d := by unfold ordF; rw [hz]; rfl
  have f4 : ordF z 100 = e := by unfold ordF; rw [hz]; rfl
  have : c = 97 ∨ c = 98 ∨ c = 99 ∨ c = 100 := by omega
  unfold ordG
  rcases this with rfl | rfl | rfl | rfl
  · rw [if_pos rfl]
  · rw [f1, f2, if_neg h1.symm, if_pos rfl]
  · rw [f1, f2, f3, if_neg h2.symm, if_neg h4.symm, if_pos rfl]
  · rw [f1, f2, f3, f4, if_neg h3.symm, if_neg h5.symm, if_neg h6.symm]
theorem Ord.at {z : Str} (h : Ord z) {c : Nat} (hc : 97 ≤ c ∧ c ≤ 100) : z.cps.toList[c - 97]? = some (ordF z c) := by
  have hl := h.pm.length_eq
  have hl2 : z.cps.toList.length = 4 := hl
  have lt : c - 97 < z.cps.toList.length := by omega
  unfold ordF
  rw [List.getD_eq_getElem?_getD, List.getElem?_eq_getElem lt]
  rfl
theorem Ord.rng {z : Str} (h : Ord z) (c : Nat) (hc : 97 ≤ c ∧ c ≤ 100) : 97 ≤ ordF z c ∧ ordF z c ≤ 100 := by
  have := h.pm.mem_iff.mp (List.mem_of_getElem? (h.at hc))
  simp at this
  omega
theorem Ord.len {z : Str} (h : Ord z) : z.length = 4 := by
  rw [len_cps]
  exact h.pm.length_eq
theorem sidx {c : Nat} (hc : 97 ≤ c ∧ c ≤ 100) : ∃ rest, Builtin.Str.occurrences "abcd" ⟨#[c]⟩ 0 (Str.ofString "abcd").length 1 = (c - 97) :: rest := by
  have : c = 97 ∨ c = 98 ∨ c = 99 ∨ c = 100 := by omega
  rcases this with rfl | rfl | rfl | rfl <;> exact ⟨[], by decide +kernel⟩
def spIsOrd : Sp := fun vs H Q _ => ∃ z : Str, vs = [.str z] ∧ Ord z ∧ ∀ H', Same H H' → Q (.bl true) H'
theorem u64 {k : Nat} {A : Around} (h : Room k A) : A.units + 64 < cLine := by
  have := h.un
  omega
def E.isEps : E → Bool
  | .eps => true
  | _ => false
theorem iteT_of {b : Bool} {A B : Prop} (c : b = true) (h : A) : if b = true then A else B := by
  rw [if_pos c]
  exact h
theorem iteF_of {b : Bool} {A B : Prop} (c : ¬ b = true) (h : B) : if b = true then A else B := by
  rw [if_neg c]
  exact h
def dE : E → PyData
  | .eps => .str sNo
  | .sym c => .str ⟨#[c]⟩
  | .maybe e => .tuple [.str sMaybe, dE e]
  | .many e => .tuple [.str sMany, dE e]
  | .join es => .tuple [.str sJoin, .tuple (dEs es)]
  | .alt es => .tuple [.str sOr, .tuple (dEs es)]
where dEs : List E → List PyData
  | [] => []
  | e :: es => dE e :: dEs es
theorem strOk_sym {c : Nat} (h : 97 ≤ c ∧ c ≤ 100) : PyData.canLay0 (.str ⟨#[c]⟩) = true := by
  have : c = 97 ∨ c = 98 ∨ c = 99 ∨ c = 100 := by omega
  rcases this with rfl | rfl | rfl | rfl <;> decide +kernel
mutual
theorem dE_lay : ∀ e : E, e.ok = true → (dE e).canLay0 = true
  | .eps, _ => by rw [dE]; decide +kernel
  | .sym c, ho => by
    rw [E.ok] at ho
    simp only [Bool.and_eq_true, decide_eq_true_eq] at ho
    rw [dE]
    exact strOk_sym ho
  | .maybe e, ho => by
    have h := dE_lay e (by rw [E.ok] at ho; exact ho)
    have h2 : PyData.canLay0 (.str sMaybe) = true := by decide +kernel
    rw [dE]
    simp only [PyData.canLay0, PyData.canLayAll0] at h2 ⊢
    rw [h, h2]
    rfl
  | .many e, ho => by
    have h := dE_lay e (by rw [E.ok] at ho; exact ho)
    have h2 : PyData.canLay0 (.str sMany) = true := by decide +kernel
    rw [dE]
    simp only [PyData.canLay0, PyData.canLayAll0] at h2 ⊢
    rw [h, h2]
    rfl
  | .join es, ho => by
    rw [E.ok, oks_eq] at ho
    simp only [Bool.and_eq_true] at ho
    have h := dEs_lay es ho.1.2
    have h2 : PyData.canLay0 (.str sJoin) = true := by decide +kernel
    rw [dE]
    simp only [PyData.canLay0, PyData.canLayAll0] at h2 ⊢
    rw [h, h2]
    rfl
  | .alt es, ho => by
    rw [E.ok, oks_eq] at ho
    simp only [Bool.and_eq_true] at ho
    have h := dEs_lay es ho.1.2
    have h2 : PyData.canLay0 (.str sOr) = true := by decide +kernel
    rw [dE]
    simp only [PyData.canLay0, PyData.canLayAll0] at h2 ⊢
    rw [h, h2]
    rfl
theorem dEs_lay : ∀ es : List E, es.all E.ok = true → PyData.canLayAll0 (dE.dEs es) = true
  | [], _ => by rw [dE.dEs]; rfl
  | e :: es, ho => by
    rw [List.all_cons, Bool.and_eq_true] at ho
    rw [dE.dEs, PyData.canLayAll0, dE_lay e ho.1, dEs_lay es ho.2]
    rfl
end
mutual
theorem dE_dep : ∀ e : E, (dE e).depth ≤ 2 * e.depth
  | .eps => by rw [dE]; exact Nat.zero_le _
  | .sym c => by rw [dE]; exact Nat.zero_le _
  | .maybe e => by
    have h := dE_dep e
    rw [dE, E.depth]
    simp only [PyData.depth, PyData.depthAll]
    omega
  | .many e => by
    have h := dE_dep e
    rw [dE, E.depth]
    simp only [PyData.depth, PyData.depthAll]
    omega
  | .join es => by
    have h := dEs_dep es
    rw [dE, E.depth]
    simp only [PyData.depth, PyData.depthAll]
    omega
  | .alt es => by
    have h := dEs_dep es
    rw [dE, E.depth]
    simp only [PyData.depth, PyData.depthAll]
    omega
theorem dEs_dep : ∀ es : List E, PyData.depthAll (dE.dEs es) ≤ 2 * E.depth.depths es
  | [] => by rw [dE.dEs]; exact Nat.zero_le _
  | e :: es => by
    have h1 := dE_dep e
    have h2 := dEs_dep es
    rw [dE.dEs, PyData.depthAll, E.depth.depths]
    omega
end
theorem unpair {H : Hp} {v : V} {w : Str} {d : My.D} (h : Rep H v (.tup [.str w, d])) : ∃ p x, v = .ref p ∧ H p = some (.tup [.str w, x]) ∧ Rep H x d := by
  obtain ⟨p, xs, rfl, h1, _, h2⟩ := h.untup
  match xs, h2 with
  | [_, x], .cons (.str _) (.cons hx .nil) => exact ⟨p, x, rfl, h1, hx⟩
mutual
theorem rep_dp {K : PySem.W.Frag} {H : Hp} : ∀ (e : E) (v : V), Rep H v e.toD → Dp K H v (dE e)
  | .eps, v, h => by
    rw [E.toD] at h
    cases h with
    | str _ => exact .str _
  | .sym c, v, h => by
    rw [E.toD] at h
    cases h with
    | str _ => exact .str _
  | .maybe e, v, h => by
    rw [E.toD] at h
    obtain ⟨p, x, rfl, h1, h2⟩ := unpair h
    rw [dE]
    exact .tup (SqT.of h1) (.cons (.str _) (.cons (rep_dp e x h2) .nil))
  | .many e, v, h => by
    rw [E.toD] at h
    obtain ⟨p, x, rfl, h1, h2⟩ := unpair h
    rw [dE]
    exact .tup (SqT.of h1) (.cons (.str _) (.cons (rep_dp e x h2) .nil))
  | .join es, v, h => by
    rw [E.toD] at h
    obtain ⟨p, x, rfl, h1, h2⟩ := unpair h
    obtain ⟨p2, xs, rfl, h3, _, h4⟩ := h2.untup
    rw [dE]
    exact .tup (SqT.of h1) (.cons (.str _) (.cons (.tup (SqT.of h3) (reps_dp es xs h4)) .nil))
  | .alt es, v, h => by
    rw [E.toD] at h
    obtain ⟨p, x, rfl, h1, h2⟩ := unpair h
    obtain ⟨p2, xs, rfl, h3, _, h4⟩ := h2.untup
    rw [dE]
    exact .tup (SqT.of h1) (.cons (.str _) (.cons (.tup (SqT.of h3) (reps_dp es xs h4)) .nil))
theorem reps_dp {K : PySem.W.Frag} {H : Hp} : ∀ (es : List E) (vs : List V), Two (Rep H) vs (E.toD.toDs es) → DpAll K H vs (dE.dEs es)
  | [], vs, h => by
    rw [E.toD.toDs] at h
    cases h
    rw [dE.dEs]
    exact .nil
  | e :: es, vs, h => by
    rw [E.toD.toDs] at h
    cases h with
    | cons h1 h2 =>
      rw [dE.dEs]
      exact .cons (rep_dp e _ h1) (reps_dp es _ h2)
end
theorem dEs_kid : ∀ {es : List E} {k : E}, k ∈ es → (dE k).depth ≤ PyData.depthAll (dE.dEs es)
  | [], _, h => by cases h
  | e :: es, k, h => by
    rw [dE.dEs, PyData.depthAll]
    rcases List.mem_cons.mp h with rfl | h
    · omega
    · have := dEs_kid h
      omega
theorem dE_kids {e k : E} (h : k ∈ e.kids) : (dE k).depth ≤ (dE e).depth := by
  cases e with
  | eps => cases h
  | sym c => cases h
  | maybe x =>
    cases List.mem_singleton.mp h
    rw [dE.eq_3]
    simp only [PyData.depth, PyData.depthAll]
    omega
  | many x =>
    cases List.mem_singleton.mp h
    rw [dE.eq_4]
    simp only [PyData.depth, PyData.depthAll]
    omega
  | join es =>
    have := dEs_kid (es := es) h
    rw [dE.eq_5]
    simp only [PyData.depth, PyData.depthAll]
    omega
  | alt es =>
    have := dEs_kid (es := es) h
    rw [dE.eq_6]
    simp only [PyData.depth, PyData.depthAll]
    omega
theorem dE_shaped {e : E} (ho : e.ok = true) (hd : (dE e).depth ≤ 60) : SeqAt.shaped (dE e) = true := by
  show ((dE e).canLay0 && decide ((dE e).depth ≤ 64)) = true
  rw [dE_lay e ho, decide_eq_true (by omega)]
  rfl
def spRen (n : Nat) : Sp := fun vs H Q _ => ∃ (v : V) (e : E) (z : Str), vs = [v, .str z] ∧ e.ok = true ∧ e.depth < n ∧ (dE e).depth ≤ 60 ∧ e.parts ≤ 400 ∧ Ord z ∧ Rep H v e.toD ∧ ∀ u H', Same H H' → Rep H' u (renE (ordF z) e).toD → Q u H'
def spRenamed : Sp := fun vs H Q _ => ∃ (v : V) (e : E) (z : Str), vs = [v, .str z] ∧ Eok e ∧ (dE e).depth ≤ 60 ∧ Ord z ∧ Rep H v e.toD ∧ ∀ u H', Same H H' → Rep H' u (renE (ordF z) e).toD → Q u H'
theorem no_shaped : SeqAt.shaped (.str sNo) = true := by decide +kernel
/-- is it "" -/
theorem dE_no (e : E) : PyData.eqv (dE e) (.str sNo) = decide (e.isEps = true) := by
  cases e with
  | eps => rw [dE]; decide +kernel
  | sym c =>
    rw [dE]
    show ((⟨#[c]⟩ : Str) == sNo) = false
    rw [beq_eq_false_iff_ne]
    intro h
    have := congrArg Str.length h
    rw [len_no] at this
    cases this
  | maybe k => rw [dE]; simp [PyData.eqv, E.isEps]
  | many k => rw [dE]; simp [PyData.eqv, E.isEps]
  | join es => rw [dE]; simp [PyData.eqv, E.isEps]
  | alt es => rw [dE]; simp [PyData.eqv, E.isEps]
section
variable {P : Program} {w : World} {K : PySem.W.Frag} {mg : Str → Option Value} {base : Heap} {a_BOUNDS a_LONG_BOUNDS : Addr} {tL tM : Tok}
abbrev N_turned : List Str := ["expression"]
theorem sc_turned : FnScope ["expression"] ["expression"] (defScope s_turned) := ⟨rfl, rfl, rfl, by decide +kernel, rfl, by decide +kernel, by decide +kernel⟩
theorem ok_turned {f : Addr} {fd : FuncData} (B : Bt K mg a_BOUNDS a_LONG_BOUNDS tL tM) (Dd : Df K mg "turned" s_turned ["expression"] f fd) (Gcheck_long : Cl P w K mg base 6 "check_long" ["value"] spCheck) (G_turned : Cl P w K mg base 41 "_turned" ["part"] (spTurn 41)) : FnOk P w K mg base CX0 88 f fd ["expression"] spTurned := by
  refine Dd.F.ok sc_turned (fun vs H Q Ex h => ?_) (fun cdv A outer s H vs Q Ex hr h => ?_)
  · obtain ⟨v, e, rfl, _⟩ := h
    rfl
  obtain ⟨v, e, rfl, hE, hR, q⟩ := h
  refine ⟨_, (pss_cons (ps_expr (pe_cl Gcheck_long (hr.mono (by omega)) rfl (pa_cons (pv 0) pa_nil)))
    (pss_one (ps_ret (pe_cl G_turned (hr.mono (by omega)) rfl (pa_cons (pv 0) pa_nil))))), ?_⟩
  refine ⟨_, rfl, v, _, rfl, hR, fl_toD e, hE.sz, long_top hE, fun H1 s1 => ?_⟩
  exact ⟨_, rfl, v, e, rfl, hE.ok, Nat.lt_succ_of_le hE.dep, Nat.le_trans hE.pt (by decide), hR.pers (Pers.same s1), fun u H2 s2 r2 => q u H2 (s1.trans s2) r2⟩
abbrev N__is_order : List Str := ["value", "letter"]
theorem sc__is_order : FnScope ["value", "letter"] ["value"] (defScope s__is_order) := ⟨rfl, rfl, rfl, by decide +kernel, rfl, by decide +kernel, by decide +kernel⟩
theorem ok_isorder {f : Addr} {fd : FuncData} (B : Bt K mg a_BOUNDS a_LONG_BOUNDS tL tM) (Dd : Df K mg "_is_order" s__is_order ["value"] f fd) : FnOk P w K mg base CX0 1 f fd ["value"] spIsOrd := by
  refine Dd.F.ok sc__is_order (fun vs H Q Ex h => ?_) (fun cdv A outer s H vs Q Ex hr h => ?_)
  · obtain ⟨z, rfl, _⟩ := h
    rfl
  obtain ⟨z, rfl, hO, q⟩ := h
  refine ⟨_, (pss_cons (ps_if (PW.pt (pw_or (pt_not (pt_val (pe_callB call_isi rfl B.b_isinstance boot_isinstance (pa_cons (pv 0) (pa_cons (pe_bltn (v := .ty "str") rfl B.b_str boot_str rfl) pa_nil))))) (pw_or1 (pt_cmpR op_ne (pe_callB call_len rfl B.b_len boot_len (pa_cons (pv 0) pa_nil)) (pe_callB call_len rfl B.b_len boot_len (pa_cons (pe_glob (v := .str "abcd") rfl B.g_LETTERS ⟨_, rfl⟩) pa_nil)) (nomark _))))) (pss_one (ps_ret pe_bl)) pss_nil)
    (pss_one (ps_ret (pe_callB (cr_all rfl) rfl B.b_all boot_all (pa_cons (pe_lc (own := [("letter", 1)]) (g := gName 1) (tt := tYes) rfl sc__is_order.nd (pi_str (pe_glob (v := .str "abcd") rfl B.g_LETTERS ⟨_, rfl⟩)) (blkOk_by (N := N__is_order) (sc := defScope s__is_order) (by decide +kernel)) (fun _ _ _ _ _ => pg_name (i := 1) sc__is_order.nd rfl (Or.inl rfl)) (fun _ _ _ _ _ => pts_nil) (fun _ _ _ _ _ => (pe_cmpR op_in_sign (pv 1) (pv 0) rfl))) pa_nil))))), ?_⟩
  have T1 : TyX K H (.str z) (.type "str") := .base (.str z)
  have l4 : (Str.ofString "abcd").length = 4 := by decide +kernel
  refine ⟨_, rfl, _, _, _, _, _, rfl, .ty _, T1, kit_ty (r := true) (by decide +kernel), _, rfl, iteF ?_⟩
  refine ⟨_, rfl, _, z.length, rfl, ⟨by rw [hO.len]; decide, rfl⟩, _, 4, rfl, ⟨by rw [l4]; decide, l4.symm⟩, rfl, _, rfl, ?_⟩
  rw [hO.len]
  refine iteF ?_
  refine ⟨_, rfl, fun L hL => ?_⟩
  refine lc_str (z := Str.ofString "abcd") (fun i H' => Same H H' ∧ H' L = some (.lst ((((Str.ofString "abcd").cps.toList.take i).map fun c => decide (c ∈ z.cps.toList)).map V.bl))) ⟨same_upd hL, upd_same⟩ (fun i c H' hc h => ?_) (fun H' h => ?_)
  · have hc' : (Str.ofString "abcd").cps.toList[i]? = some c := by rw [Array.getElem?_toList]; exact hc
    refine ⟨rfl, tyes ⟨_, rfl, _, rfl, c, z, rfl, rfl, _, h.2, ?_, ?_, ?_⟩⟩
    · rw [List.length_map, List.length_map, List.length_take]
      have e4 : (Str.ofString "abcd").cps.toList.length = 4 := by decide +kernel
      rw [e4]
      exact Nat.lt_of_le_of_lt (Nat.min_le_right _ _) (by decide)
    · exact fun b o e => by rw [upd_ne (ne_of_none e hL)]; exact h.1 b o e
    · rw [upd_same, List.take_add_one, hc', List.map_append, List.map_append]
      rfl
  · obtain ⟨h1, h2⟩ := h
    rw [← Array.length_toList, List.take_length] at h2
    refine ⟨L, _, rfl, SqL.of h2, ?_⟩
    have e4 : (((Str.ofString "abcd").cps.toList.map fun c => decide (c ∈ z.cps.toList)).all id) = true := by
      rw [List.all_map, List.all_eq_true]
      intro c hc
      have := (abcd_in c).mp hc
      refine decide_eq_true (hO.pm.mem_iff.mpr ?_)
      simp
      omega
    rw [e4]
    exact q _ h1
abbrev N__renamed : List Str := ["part", "order", "word", "inner", "each"]
theorem sc__renamed : FnScope ["part", "order", "word", "inner", "each"] ["part", "order"] (defScope s__renamed) := ⟨rfl, rfl, rfl, by decide +kernel, rfl, by decide +kernel, by decide +kernel⟩
theorem ok_renamed_step {f : Addr} {fd : FuncData} (B : Bt K mg a_BOUNDS a_LONG_BOUNDS tL tM) (Dd : Df K mg "_renamed" s__renamed ["part", "order"] f fd) (n : Nat) (G_renamed : Cl P w K mg base n "_renamed" ["part", "order"] (spRen n)) : FnOk P w K mg base CX0 (n + 1) f fd ["part", "order"] (spRen (n + 1)) := by
  refine Dd.F.ok sc__renamed (fun vs H Q Ex h => ?_) (fun cdv A outer s H vs Q Ex hr h => ?_)
  · obtain ⟨v, e, z, rfl, _⟩ := h
    rfl
  obtain ⟨v, e, z, rfl, hok, hd, hd30, hpt, hO, hR, q⟩ := h
  refine ⟨_, (pss_cons (ps_if (pt_cmpR (op_eqD (u64 hr)) (pv 0) pe_str (nomark _)) (pss_one (ps_ret (pv 0))) pss_nil)
    (pss_cons (ps_if (pt_val (pe_callB call_isi rfl B.b_isinstance boot_isinstance (pa_cons (pv 0) (pa_cons (pe_bltn (v := .ty "str") rfl B.b_str boot_str rfl) pa_nil)))) (pss_one (ps_ret (pe_ix ix_str (pv 1) (pe_bm PySem.F.plainAttrs_str PySem.F.slot_str_index PySem.F.type_str_index mt_sindex (pe_glob (v := .str "abcd") rfl B.g_LETTERS ⟨_, rfl⟩) (pa_cons (pv 0) pa_nil)) (fun _ _ => rfl)))) pss_nil)
    (pss_cons (ps_asg (pv 0) (pg_tup rfl (pgs_cons (pg_name (i := 2) sc__renamed.nd rfl (Or.inl rfl)) (pgs_cons (pg_name (i := 3) sc__renamed.nd rfl (Or.inl rfl)) pgs_nil))))
    (pss_cons (ps_if (PW.pt (pw_or (pt_cmpR op_eq (pv 2) pe_str (nomark _)) (pw_or1 (pt_cmpR op_eq (pv 2) pe_str (nomark _))))) (pss_one (ps_ret (pe_tup (pa_cons (pv 2) (pa_cons (pe_cl G_renamed (hr.mono (by omega)) rfl (pa_cons (pv 3) (pa_cons (pv 1) pa_nil))) pa_nil))))) pss_nil)
    (pss_one (ps_ret (pe_tup (pa_cons (pv 2) (pa_cons (pe_callTy (r := rTupOf K) call_tuple_ofK rfl B.b_tuple boot_tuple (pa_cons (pe_lc (own := [("each", 4)]) (g := gName 4) (tt := tYes) rfl sc__renamed.nd (pi_tup (pv 3)) (blkOk_by (N := N__renamed) (sc := defScope s__renamed) (by decide +kernel)) (fun _ _ _ _ _ => pg_name (i := 4) sc__renamed.nd rfl (Or.inl rfl)) (fun _ _ _ _ _ => pts_nil) (fun _ _ _ _ _ => (pe_cl G_renamed (hr.mono (by omega)) rfl (pa_cons (pv 4) (pa_cons (pv 1) pa_nil))))) pa_nil)) pa_nil))))))))), ?_⟩
  refine ⟨_, rfl, dE e, .str sNo, rep_dp e v hR, .str _, dE_shaped hok hd30, no_shaped, _, rfl, ?_⟩
  rw [dE_no]
  refine ite2 (fun c => ?_) (fun c => ?_)
  · have c1 : e.isEps = true := of_decide_eq_true c
    cases e with
    | eps =>
      have : renE (ordF z) .eps = .eps := rfl
      rw [this] at q
      exact ⟨_, rfl, q _ H (Same.refl H) hR⟩
    | _ => cases c1
  have c1 : ¬ e.isEps = true := fun h => c (decide_eq_true h)
  obtain ⟨t, ht, k1, _⟩ := hR.ty (K := K)
  refine ⟨_, rfl, _, _, _, _, _, rfl, .ty _, ht, k1, _, rfl, ite2 (fun e1 => ?_) (fun e1 => ?_)⟩
  · obtain ⟨y, rfl, hy, ⟨rfl, _⟩ | ⟨cc, rfl, rfl⟩⟩ := str_cases hR e1
    · exact absurd rfl c1
    rw [E.ok] at hok
    simp only [Bool.and_eq_true, decide_eq_true_eq] at hok
    obtain ⟨rest, hrest⟩ := sidx hok
    refine ⟨_, rfl, rfl, _, rfl, Str.ofString "abcd", ⟨#[cc]⟩, cc - 97, rest, rfl, rfl, hrest, z, _, ordF z cc, rfl, rfl, by rw [hO.len]; decide, atI_nat (hO.at hok), q _ H (Same.refl H) ?_⟩
    rw [renE]
    exact rep_sym _
  obtain ⟨w, y, p0, x0, hlw, rfl, hp0, hx0, hk⟩ := node_of hok hR e1
  refine ⟨_, rfl, p0, _, rfl, SqT.of hp0, rfl, _, _, rfl, _, _, rfl, rfl, ?_⟩
  refine ⟨_, rfl, rfl, _, rfl, ite2 (fun e2 => iteT ?_) (fun e2 => ?_)⟩
  · have hw := vstr e2
    rcases hk with (⟨h, k, rfl, rfl⟩ | ⟨h, k, rfl, rfl⟩) | ⟨h, es, rfl, hes, rfl⟩ | ⟨h, es, rfl, _, rfl⟩
    · rw [E.ok] at hok
      rw [E.depth] at hd
      have hd31 := Nat.le_trans (dE_kids (e := _) (k := k) List.mem_cons_self) hd30
      rw [E.parts] at hpt
      refine ⟨_, rfl, _, rfl, _, rfl, x0, k, z, rfl, hok, by omega, hd31, by omega, hO, hx0, fun u H1 s1 r1 => ⟨by show 2 ≤ sizeLine; decide, fun p hp => q _ _ (s1.trans (same_upd hp)) ?_⟩⟩
      rw [renE, E.toD, ← h]
      exact rep_node upd_same hlw (r1.pers (Pers.new hp))
    · exact absurd (hw.symm.trans h) mn
    · exact absurd (h.symm.trans hw) jm
    · exact absurd (h.symm.trans hw) om
  refine ⟨_, rfl, rfl, _, rfl, ite2 (fun e3 => ?_) (fun e3 => ?_)⟩
  · have hw := vstr e3
    rcases hk with (⟨h, k, rfl, rfl⟩ | ⟨h, k, rfl, rfl⟩) | ⟨h, es, rfl, hes, rfl⟩ | ⟨h, es, rfl, _, rfl⟩
    · exact absurd (h.symm.trans hw) mn
    · rw [E.ok] at hok
      rw [E.depth] at hd
      have hd31 := Nat.le_trans (dE_kids (e := _) (k := k) List.mem_cons_self) hd30
      rw [E.parts] at hpt
      refine ⟨_, rfl, _, rfl, _, rfl, x0, k, z, rfl, hok, by omega, hd31, by omega, hO, hx0, fun u H1 s1 r1 => ⟨by show 2 ≤ sizeLine; decide, fun p hp => q _ _ (s1.trans (same_upd hp)) ?_⟩⟩
      rw [renE, E.toD, ← h]
      exact rep_node upd_same hlw (r1.pers (Pers.new hp))
    · exact absurd (h.symm.trans hw) jn
    · exact absurd (h.symm.trans hw) on
  obtain ⟨es, hes, hy, hrt⟩ : ∃ es, e.kids = es ∧ y = .tup (es.map E.toD) ∧ (renE (ordF z) e).toD = .tup [.str w, .tup ((es.map (renE (ordF z))).map E.toD)] := by
    rcases hk with (⟨h, k, rfl, rfl⟩ | ⟨h, k, rfl, rfl⟩) | ⟨h, es, rfl, hes, rfl⟩ | ⟨h, es, rfl, _, rfl⟩
    · exact absurd h (vstrN e2)
    · exact absurd h (vstrN e3)
    · exact ⟨es, rfl, rfl, by rw [renE, rens_eq, E.toD, toDs_eq, h]⟩
    · exact ⟨es, rfl, rfl, by rw [renE, rens_eq, E.toD, toDs_eq, h]⟩
  rw [hy] at hx0
  obtain ⟨p1, xs, rfl, hp1, _, hX⟩ := hx0.untup
  have hxl : xs.length = es.length := by rw [hX.len, List.length_map]
  have hel : es.length ≤ 400 := by
    have h1 := parts_kids e
    rw [hes] at h1
    have h2 := parts_len (es := es)
    omega
  refine ⟨_, rfl, _, rfl, p1, rfl, ⟨_, SqT.of hp1⟩, fun L hL => ?_⟩
  refine lc_tup (K := K) (a := p1) (xs := xs) (fun i H2 => Same H H2 ∧ ∃ zs : List V, H2 L = some (.lst zs) ∧ Two (Rep H2) zs (((es.map (renE (ordF z))).take i).map E.toD)) ⟨same_upd hL, [], upd_same, by rw [List.take_zero]; exact .nil⟩ (fun i H2 _ h => SqT.of (h.1 _ _ hp1)) (fun i x H2 hx h => ?_) (fun H2 h => ?_)
  · obtain ⟨s2, zs, h1, h2⟩ := h
    obtain ⟨d, hd1, hxd⟩ := hX.get hx
    rw [List.getElem?_map] at hd1
    obtain ⟨k, hk2, rfl⟩ := Option.map_eq_some_iff.mp hd1
    have hmem : k ∈ e.kids := by
      rw [hes]
      exact List.mem_of_getElem? hk2
    have hdk := depth_kids e k hmem
    have hpk := kid_parts hmem
    have hzl := h2.len
    rw [List.length_map, List.length_take] at hzl
    refine ⟨rfl, tyes ⟨_, rfl, _, rfl, x, k, z, rfl, ok_kids hok k hmem, by omega, Nat.le_trans (dE_kids hmem) hd30, by omega, hO, hxd.pers (Pers.same s2), fun u H3 s3 r3 => ⟨zs, s3 _ _ h1, ?_, ?_, zs ++ [u], upd_same, ?_⟩⟩⟩
    · have : i < xs.length := (List.getElem?_eq_some_iff.mp hx).1
      exact Nat.lt_of_le_of_lt (m := 400) (by omega) (by decide)
    · exact fun b o hb => by rw [upd_ne (ne_of_none hb hL)]; exact s3 _ _ (s2 _ _ hb)
    · have hm : (es.map (renE (ordF z)))[i]? = some (renE (ordF z) k) := by rw [List.getElem?_map, hk2]; rfl
      have P3 : Pers H3 (upd H3 L (.lst (zs ++ [u]))) := Pers.store (s3 _ _ h1)
      rw [take_snoc hm, List.map_append]
      exact (h2.mono fun _ _ => Rep.pers ((Pers.same s3).trans P3)).app (.cons (r3.pers P3) .nil)
  · obtain ⟨s2, zs, h1, h2⟩ := h
    have el : xs.length = (es.map (renE (ordF z))).length := by rw [List.length_map, hxl]
    rw [el, List.take_length] at h2
    refine ⟨L, zs, rfl, .inl ⟨SqL.of h1, fun p2 hp2 => ⟨by show 2 ≤ sizeLine; decide, fun p hp => q _ _ ((s2.trans (same_upd hp2)).trans (same_upd hp)) ?_⟩⟩⟩
    rw [hrt]
    have P2 := (Pers.new (o := .tup zs) hp2).trans (Pers.new (o := .tup [V.str w, V.ref p2]) hp)
    refine rep_node upd_same hlw (Rep.tup2 ((same_upd hp) _ _ upd_same) ?_ (Rep.pers2 P2 h2))
    rw [h2.len, List.length_map, List.length_map]
    omega
abbrev N_renamed : List Str := ["expression", "order"]
theorem sc_renamed : FnScope ["expression", "order"] ["expression", "order"] (defScope s_renamed) := ⟨rfl, rfl, rfl, by decide +kernel, rfl, by decide +kernel, by decide +kernel⟩
theorem ok_renamed {f : Addr} {fd : FuncData} (B : Bt K mg a_BOUNDS a_LONG_BOUNDS tL tM) (Dd : Df K mg "renamed" s_renamed ["expression", "order"] f fd) (Gcheck_long : Cl P w K mg base 6 "check_long" ["value"] spCheck) (G_is_order : Cl P w K mg base 1 "_is_order" ["value"] spIsOrd) (G_renamed : Cl P w K mg base 41 "_renamed" ["part", "order"] (spRen 41)) : FnOk P w K mg base CX0 88 f fd ["expression", "order"] spRenamed := by
  refine Dd.F.ok sc_renamed (fun vs H Q Ex h => ?_) (fun cdv A outer s H vs Q Ex hr h => ?_)
  · obtain ⟨v, e, z, rfl, _⟩ := h
    rfl
  obtain ⟨v, e, z, rfl, hE, hd60, hO, hR, q⟩ := h
  refine ⟨_, (pss_cons (ps_expr (pe_cl Gcheck_long (hr.mono (by omega)) rfl (pa_cons (pv 0) pa_nil)))
    (pss_cons (ps_if (pt_not (pt_val (pe_cl G_is_order (hr.mono (by omega)) rfl (pa_cons (pv 1) pa_nil)))) (pss_one ps_never) pss_nil)
    (pss_one (ps_ret (pe_cl G_renamed (hr.mono (by omega)) rfl (pa_cons (pv 0) (pa_cons (pv 1) pa_nil))))))), ?_⟩
  refine ⟨_, rfl, v, _, rfl, hR, fl_toD e, hE.sz, long_top hE, fun H1 s1 => ?_⟩
  refine ⟨_, rfl, z, rfl, hO, fun H2 s2 => ⟨_, rfl, iteF ?_⟩⟩
  exact ⟨_, rfl, _, rfl, v, e, z, rfl, hE.ok, Nat.lt_succ_of_le hE.dep, hd60, Nat.le_trans hE.pt (by decide), hO, hR.pers (Pers.same (s1.trans s2)), fun u H3 s3 r3 => q u H3 ((s1.trans s2).trans s3) r3⟩
end
end My
namespace My
open PySem PySem.Spec PyProof.Rows L2
def spLeast (n : Nat) : Sp := fun vs H Q _ => ∃ (v : V) (e : E), vs = [v] ∧ e.ok = true ∧ e.depth < n ∧ Rep H v e.toD ∧ ∀ H', Same H H' → Q (.int e.least) H'
def ov : Option Nat → V
  | none => .non
  | some g => .int g
def spGreat (n : Nat) : Sp := fun vs H Q _ => ∃ (v : V) (e : E), vs = [v] ∧ e.ok = true ∧ e.depth < n ∧ Rep H v e.toD ∧ ∀ H', Same H H' → Q (ov e.greatest) H'
theorem minL_is : ∀ (l : List Nat) (m : Int), m ∈ l.map (fun (a : Nat) => (a : Int)) → (∀ y ∈ l.map (fun (a : Nat) => (a : Int)), m ≤ y) → m = (minL l : Int)
  | [], m, h, _ => by cases h
  | [a], m, h, _ => by
    rw [List.map_cons, List.map_nil, List.mem_singleton] at h
    exact h
  | a :: b :: r, m, h, k => by
    have h0 := k a (by simp)
    by_cases c : m = (a : Int)
    · have hb : ∀ x ∈ (b :: r), a ≤ x := fun x hx => by
        have := k x (List.mem_map.mpr ⟨x, List.mem_cons_of_mem _ hx, rfl⟩)
        omega
      have : a ≤ minL (b :: r) := by
        have A : ∀ (l : List Nat), l ≠ [] → minL l ∈ l := by
          intro l
          induction l with
          | nil => intro h; exact absurd rfl h
          | cons x l ih =>
            intro _
            cases l with
            | nil => exact List.mem_singleton.mpr rfl
            | cons y l =>
              show min x (minL (y :: l)) ∈ x :: y :: l
              have h2 := ih (by intro e; cases e)
              by_cases c : x ≤ minL (y :: l)
              · rw [Nat.min_eq_left c]
                exact List.mem_cons_self ..
              · rw [Nat.min_eq_right (by omega)]
                exact List.mem_cons_of_mem _ h2
        exact hb _ (A _ (by intro e; cases e))
      show m = ((min a (minL (b :: r)) : Nat) : Int)
      omega
    · have h1 : m ∈ (b :: r).map (fun (a : Nat) => (a : Int)) := by
        rw [List.map_cons] at h
        rcases List.mem_cons.mp h with h | h
        · exact absurd h c
        · exact h
      have ih := minL_is (b :: r) m h1 fun y hy => k y (by rw [List.map_cons]; exact List.mem_cons_of_mem _ hy)
      show m = ((min a (minL (b :: r)) : Nat) : Int)
      omega
theorem maxL_is (l : List Nat) (m : Int) (h : m ∈ l.map (fun (a : Nat) => (a : Int))) (k : ∀ y ∈ l.map (fun (a : Nat) => (a : Int)), y ≤ m) : m = (maxL l : Int) := by
  have A : ∀ l : List Nat, (∀ x ∈ l, x ≤ maxL l) := by
    intro l
    induction l with
    | nil => intro x hx; cases hx
    | cons a l ih =>
      intro x hx
      show x ≤ max a (maxL l)
      rcases List.mem_cons.mp hx with rfl | hx
      · exact Nat.le_max_left _ _
      · exact Nat.le_trans (ih x hx) (Nat.le_max_right _ _)
  have B : ∀ l : List Nat, l ≠ [] → maxL l ∈ l := by
    intro l
    induction l with
    | nil => intro h; exact absurd rfl h
    | cons a l ih =>
      intro _
      show max a (maxL l) ∈ a :: l
      cases l with
      | nil =>
        show max a 0 ∈ [a]
        rw [Nat.max_eq_left (Nat.zero_le _)]
        exact List.mem_singleton.mpr rfl
      | cons b r =>
        have h2 := ih (by intro e; cases e)
        by_cases c : a ≤ maxL (b :: r)
        · rw [Nat.max_eq_right c]
          exact List.mem_cons_of_mem _ h2
        · rw [Nat.max_eq_left (by omega)]
          exact List.mem_cons_self ..
  obtain ⟨x, hx, rfl⟩ := List.mem_map.mp h
  have h1 := A l x hx
  have hne : l ≠ [] := fun e => by rw [e] at hx; cases hx
  have h2 := k _ (List.mem_map.mpr ⟨_, B l hne, rfl⟩)
  omega
section
variable {P : Program} {w : World} {K : PySem.W.Frag} {mg : Str → Option Value} {base : Heap} {a_BOUNDS a_LONG_BOUNDS : Addr} {tL tM : Tok}
abbrev N__least : List Str := ["part", "word", "inner", "lengths", "each"]
theorem sc__least : FnScope ["part", "word", "inner", "lengths", "each"] ["part"] (defScope s__least) := ⟨rfl, rfl, rfl, by decide +kernel, rfl, by decide +kernel, by decide +kernel⟩
theorem ok_least_step {f : Addr} {fd : FuncData} (B : Bt K mg a_BOUNDS a_LONG_BOUNDS tL tM) (Dd : Df K mg "_least" s__least ["part"] f fd) (n : Nat) (G_least : Cl P w K mg base n "_least" ["part"] (spLeast n)) : FnOk P w K mg base CX0 (n + 1) f fd ["part"] (spLeast (n + 1)) := by
  refine Dd.F.ok sc__least (fun vs H Q Ex h => ?_) (fun cdv A outer s H vs Q Ex hr h => ?_)
  · obtain ⟨v, e, rfl, _⟩ := h
    rfl
  obtain ⟨v, e, rfl, hok, hd, hR, q⟩ := h
  refine ⟨_, (pss_cons (ps_if (pt_val (pe_callB call_isi rfl B.b_isinstance boot_isinstance (pa_cons (pv 0) (pa_cons (pe_bltn (v := .ty "str") rfl B.b_str boot_str rfl) pa_nil)))) (pss_one (ps_ret (pe_callB call_len rfl B.b_len boot_len (pa_cons (pv 0) pa_nil)))) pss_nil)
    (pss_cons (ps_asg (pv 0) (pg_tup rfl (pgs_cons (pg_name (i := 1) sc__least.nd rfl (Or.inl rfl)) (pgs_cons (pg_name (i := 2) sc__least.nd rfl (Or.inl rfl)) pgs_nil))))
    (pss_cons (ps_if (PW.pt (pw_or (pt_cmpR op_eq (pv 1) pe_str (nomark _)) (pw_or1 (pt_cmpR op_eq (pv 1) pe_str (nomark _))))) (pss_one (ps_ret pe_int)) pss_nil)
    (pss_cons (ps_setLc (i := 3) (own := [("each", 4)]) (g := gName 4) (tt := tYes) rfl sc__least.nd rfl rfl (sw_true rfl rfl rfl (by decide +kernel)) (pi_tup (pv 2)) (blkOk_by (N := N__least) (sc := defScope s__least) (by decide +kernel)) (fun _ _ _ _ _ => pg_name (i := 4) sc__least.nd rfl (Or.inl rfl)) (fun _ _ _ _ _ => pts_nil) (fun _ _ _ _ _ => (pe_cl G_least (hr.mono (by omega)) rfl (pa_cons (pv 4) pa_nil))))
    (pss_one (ps_ret (pe_ifExp (pt_cmpR op_eq (pv 1) pe_str (nomark _)) (pe_callB (cr_sum rfl) rfl B.b_sum boot_sum (pa_cons (pv 3) pa_nil)) (pe_callB (cr_min rfl) rfl B.b_min boot_min (pa_cons (pv 3) pa_nil))))))))), ?_⟩
  obtain ⟨t, ht, k1, _⟩ := hR.ty (K := K)
  refine ⟨_, rfl, _, _, _, _, _, rfl, .ty _, ht, k1, _, rfl, ite2 (fun e1 => ?_) (fun e1 => ?_)⟩
  · have hq := q H (Same.refl H)
    cases e with
    | eps =>
      rw [E.toD] at hR
      cases hR with
      | str h => exact ⟨_, rfl, _, _, rfl, ⟨Nat.le_trans h (by decide), rfl⟩, hq⟩
    | sym c =>
      rw [E.toD] at hR
      cases hR with
      | str h => exact ⟨_, rfl, _, _, rfl, ⟨Nat.le_trans h (by decide), rfl⟩, hq⟩
    | maybe k => exact absurd e1 (by rw [E.toD]; intro c; cases c)
    | many k => exact absurd e1 (by rw [E.toD]; intro c; cases c)
    | join es => exact absurd e1 (by rw [E.toD]; intro c; cases c)
    | alt es => exact absurd e1 (by rw [E.toD]; intro c; cases c)
  · obtain ⟨w, y, p, x, hlw, rfl, hp, hx, hk⟩ := node_of hok hR e1
    refine ⟨_, rfl, p, _, rfl, SqT.of hp, rfl, _, _, rfl, _, _, rfl, rfl, ?_⟩
    refine ⟨_, rfl, rfl, _, rfl, ite2 (fun e2 => iteT ?_) (fun e2 => ⟨_, rfl, rfl, _, rfl, ite2 (fun e3 => ?_) (fun e3 => ?_)⟩)⟩
    · have hw := vstr e2
      rcases hk with (⟨h, k, rfl, rfl⟩ | ⟨h, k, rfl, rfl⟩) | ⟨h, es, rfl, _, rfl⟩ | ⟨h, es, rfl, _, rfl⟩
      · exact q H (Same.refl H)
      · exact q H (Same.refl H)
      · exact absurd (h.symm.trans hw) jm
      · exact absurd (h.symm.trans hw) om
    · have hw := vstr e3
      rcases hk with (⟨h, k, rfl, rfl⟩ | ⟨h, k, rfl, rfl⟩) | ⟨h, es, rfl, _, rfl⟩ | ⟨h, es, rfl, _, rfl⟩
      · exact q H (Same.refl H)
      · exact q H (Same.refl H)
      · exact absurd (h.symm.trans hw) jn
      · exact absurd (h.symm.trans hw) on
    · have hk' := hk.resolve_left fun c => c.elim (fun h => vstrN e2 h.1) (fun h => vstrN e3 h.1)
      obtain ⟨es, hes, h2, rfl, hwj⟩ : ∃ es, e.kids = es ∧ 2 ≤ es.length ∧ y = .tup (es.map E.toD) ∧ ((w = sJoin ∧ e.least = (es.map E.least).sum) ∨ (w = sOr ∧ e.least = minL (es.map E.least))) := by
        rcases hk' with ⟨h, es, rfl, h2, rfl⟩ | ⟨h, es, rfl, h2, rfl⟩
        · exact ⟨es, rfl, h2, rfl, .inl ⟨h, by rw [E.least, leastl_eq]⟩⟩
        · exact ⟨es, rfl, h2, rfl, .inr ⟨h, by rw [E.least, leastl_eq]⟩⟩
      obtain ⟨p2, xs, rfl, hp2, hz2, hX⟩ := hx.untup
      have hl := hX.len
      rw [List.length_map] at hl
      refine ⟨_, rfl, p2, rfl, ⟨_, SqT.of hp2⟩, fun L hL => ?_⟩
      refine lc_tup (K := K) (a := p2) (xs := xs) (fun i H2 => Same H H2 ∧ H2 L = some (.lst (((es.take i).map fun k => (k.least : Int)).map V.int))) ⟨same_upd hL, upd_same⟩ (fun i H2 _ h => SqT.of (h.1 _ _ hp2)) (fun i x H2 hx h => ?_) (fun H2 h => ?_)
      · obtain ⟨d, hd1, hxd⟩ := hX.get hx
        rw [List.getElem?_map] at hd1
        obtain ⟨k, hk, rfl⟩ := Option.map_eq_some_iff.mp hd1
        have hmem : k ∈ e.kids := by rw [hes]; exact List.mem_of_getElem? hk
        refine ⟨rfl, tyes ⟨_, rfl, x, k, rfl, ok_kids hok k hmem, ?_, hxd.pers (Pers.same h.1), fun H3 s3 => ⟨_, s3 _ _ h.2, ?_, ?_, ?_⟩⟩⟩
        · have := depth_kids e k hmem
          omega
        · have : i < xs.length := (List.getElem?_eq_some_iff.mp hx).1
          rw [List.length_map, List.length_map, List.length_take]
          exact Nat.lt_of_le_of_lt (m := 100000) (by omega) (by decide)
        · exact fun b o e => by rw [upd_ne (ne_of_none e hL)]; exact s3 _ _ (h.1 b o e)
        · rw [upd_same, List.take_add_one, hk, List.map_append, List.map_append]
          rfl
      · obtain ⟨h1, h3⟩ := h
        rw [hl, List.take_length] at h3
        refine ⟨_, rfl, rfl, _, rfl, ite2 (fun e4 => ?_) (fun e4 => ?_)⟩
        · have hw := vstr e4
          have hq := q H2 h1
          rcases hwj with ⟨_, h⟩ | ⟨h, _⟩
          · refine ⟨_, rfl, L, _, rfl, SqL.of h3, ?_⟩
            rw [h] at hq
            rw [sum_cast es E.least]
            exact hq
          · exact absurd (hw.symm.trans h) jo
        · have hw := vstrN e4
          have hq := q H2 h1
          rcases hwj with ⟨h, _⟩ | ⟨_, h⟩
          · exact absurd h hw
          · refine ⟨_, rfl, L, _, rfl, SqL.of h3, by rw [List.length_map]; omega, fun m hm hle => ?_⟩
            have em : (es.map fun k => (k.least : Int)) = (es.map E.least).map (fun (a : Nat) => (a : Int)) := by
              rw [List.map_map]
              rfl
            rw [em] at hm hle
            rw [minL_is _ m hm hle]
            rw [h] at hq
            exact hq
end
end My
namespace My
open PySem PySem.Spec PyProof.Rows L2
theorem ov_flat (gs : List (Option Nat)) : (gs.map ov).all flatV = true := by
  rw [List.all_eq_true]
  intro x hx
  obtain ⟨g, _, rfl⟩ := List.mem_map.mp hx
  cases g <;> rfl
theorem allO_some : ∀ {gs : List (Option Nat)} {l : List Nat}, allO gs = some l → gs.map ov = (l.map (fun (a : Nat) => (a : Int))).map V.int ∧ inV .non (gs.map ov) = false
  | [], l, h => by
    cases h
    exact ⟨rfl, rfl⟩
  | none :: gs, l, h => by cases h
  | some a :: gs, l, h => by
    have h' : (allO gs).map (a :: ·) = some l := h
    cases c : allO gs with
    | none => rw [c] at h'; cases h'
    | some r =>
      rw [c] at h'
      cases h'
      obtain ⟨h1, h2⟩ := allO_some c
      refine ⟨?_, ?_⟩
      · rw [List.map_cons, h1]
        rfl
      · exact h2
theorem allO_none : ∀ {gs : List (Option Nat)}, allO gs = none → inV .non (gs.map ov) = true
  | [], h => by cases h
  | none :: gs, h => rfl
  | some a :: gs, h => by
    have h' : (allO gs).map (a :: ·) = none := h
    cases c : allO gs with
    | some r => rw [c] at h'; cases h'
    | none =>
      have ih : inV .non (gs.map ov) = true := allO_none (gs := gs) c
      exact ih
theorem sum_castN (l : List Nat) : (l.map (fun (a : Nat) => (a : Int))).sum = ((l.sum : Nat) : Int) := by
  induction l with
  | nil => rfl
  | cons a l ih =>
    rw [List.map_cons, List.sum_cons, ih, List.sum_cons]
    omega
theorem allO_len : ∀ {gs : List (Option Nat)} {l : List Nat}, allO gs = some l → l.length = gs.length
  | [], l, h => by cases h; rfl
  | none :: gs, l, h => by cases h
  | some a :: gs, l, h => by
    have h' : (allO gs).map (a :: ·) = some l := h
    cases c : allO gs with
    | none => rw [c] at h'; cases h'
    | some r =>
      rw [c] at h'
      cases h'
      rw [List.length_cons, allO_len c, List.length_cons]
section
variable {P : Program} {w : World} {K : PySem.W.Frag} {mg : Str → Option Value} {base : Heap} {a_BOUNDS a_LONG_BOUNDS : Addr} {tL tM : Tok}
abbrev N__greatest : List Str := ["part", "word", "inner", "lengths", "each"]
theorem sc__greatest : FnScope ["part", "word", "inner", "lengths", "each"] ["part"] (defScope s__greatest) := ⟨rfl, rfl, rfl, by decide +kernel, rfl, by decide +kernel, by decide +kernel⟩
theorem ok_greatest_step {f : Addr} {fd : FuncData} (B : Bt K mg a_BOUNDS a_LONG_BOUNDS tL tM) (Dd : Df K mg "_greatest" s__greatest ["part"] f fd) (n : Nat) (G_greatest : Cl P w K mg base n "_greatest" ["part"] (spGreat n)) : FnOk P w K mg base CX0 (n + 1) f fd ["part"] (spGreat (n + 1)) := by
  refine Dd.F.ok sc__greatest (fun vs H Q Ex h => ?_) (fun cdv A outer s H vs Q Ex hr h => ?_)
  · obtain ⟨v, e, rfl, _⟩ := h
    rfl
  obtain ⟨v, e, rfl, hok, hd, hR, q⟩ := h
  refine ⟨_, (pss_cons (ps_if (pt_val (pe_callB call_isi rfl B.b_isinstance boot_isinstance (pa_cons (pv 0) (pa_cons (pe_bltn (v := .ty "str") rfl B.b_str boot_str rfl) pa_nil)))) (pss_one (ps_ret (pe_callB call_len rfl B.b_len boot_len (pa_cons (pv 0) pa_nil)))) pss_nil)
    (pss_cons (ps_asg (pv 0) (pg_tup rfl (pgs_cons (pg_name (i := 1) sc__greatest.nd rfl (Or.inl rfl)) (pgs_cons (pg_name (i := 2) sc__greatest.nd rfl (Or.inl rfl)) pgs_nil))))
    (pss_cons (ps_if (pt_cmpR op_eq (pv 1) pe_str (nomark _)) (pss_one (ps_ret (pe_cl G_greatest (hr.mono (by omega)) rfl (pa_cons (pv 2) pa_nil)))) pss_nil)
    (pss_cons (ps_if (pt_cmpR op_eq (pv 1) pe_str (nomark _)) (pss_one (ps_ret (pe_ifExp (pt_cmpR op_eq (pe_cl G_greatest (hr.mono (by omega)) rfl (pa_cons (pv 2) pa_nil)) pe_int (nomark _)) pe_int pe_non))) pss_nil)
    (pss_cons (ps_setLc (i := 3) (own := [("each", 4)]) (g := gName 4) (tt := tYes) rfl sc__greatest.nd rfl rfl (sw_true rfl rfl rfl (by decide +kernel)) (pi_tup (pv 2)) (blkOk_by (N := N__greatest) (sc := defScope s__greatest) (by decide +kernel)) (fun _ _ _ _ _ => pg_name (i := 4) sc__greatest.nd rfl (Or.inl rfl)) (fun _ _ _ _ _ => pts_nil) (fun _ _ _ _ _ => (pe_cl G_greatest (hr.mono (by omega)) rfl (pa_cons (pv 4) pa_nil))))
    (pss_cons (ps_if (pt_cmpR op_in_seq pe_non (pv 3) rfl) (pss_one (ps_ret pe_non)) pss_nil)
    (pss_one (ps_ret (pe_ifExp (pt_cmpR op_eq (pv 1) pe_str (nomark _)) (pe_callB (cr_sum rfl) rfl B.b_sum boot_sum (pa_cons (pv 3) pa_nil)) (pe_callB (cr_max rfl) rfl B.b_max boot_max (pa_cons (pv 3) pa_nil))))))))))), ?_⟩
  obtain ⟨t, ht, k1, _⟩ := hR.ty (K := K)
  refine ⟨_, rfl, _, _, _, _, _, rfl, .ty _, ht, k1, _, rfl, ite2 (fun e1 => ?_) (fun e1 => ?_)⟩
  · have hq := q H (Same.refl H)
    cases e with
    | eps =>
      rw [E.toD] at hR
      cases hR with
      | str h => exact ⟨_, rfl, _, _, rfl, ⟨Nat.le_trans h (by decide), rfl⟩, hq⟩
    | sym c =>
      rw [E.toD] at hR
      cases hR with
      | str h => exact ⟨_, rfl, _, _, rfl, ⟨Nat.le_trans h (by decide), rfl⟩, hq⟩
    | maybe k => exact absurd e1 (by rw [E.toD]; intro c; cases c)
    | many k => exact absurd e1 (by rw [E.toD]; intro c; cases c)
    | join es => exact absurd e1 (by rw [E.toD]; intro c; cases c)
    | alt es => exact absurd e1 (by rw [E.toD]; intro c; cases c)
  · obtain ⟨w, y, p, x, hlw, rfl, hp, hx, hk⟩ := node_of hok hR e1
    refine ⟨_, rfl, p, _, rfl, SqT.of hp, rfl, _, _, rfl, _, _, rfl, rfl, ?_⟩
    refine ⟨_, rfl, rfl, _, rfl, ite2 (fun e2 => ?_) (fun e2 => ⟨_, rfl, rfl, _, rfl, ite2 (fun e3 => ?_) (fun e3 => ?_)⟩)⟩
    · have hw := vstr e2
      rcases hk with (⟨h, k, rfl, rfl⟩ | ⟨h, k, rfl, rfl⟩) | ⟨h, es, rfl, _, rfl⟩ | ⟨h, es, rfl, _, rfl⟩
      · rw [E.ok] at hok
        rw [E.depth] at hd
        exact ⟨_, rfl, x, k, rfl, hok, by omega, hx, fun H1 s1 => by have := q H1 s1; rw [E.greatest] at this; exact this⟩
      · exact absurd (hw.symm.trans h) mn
      · exact absurd (h.symm.trans hw) jm
      · exact absurd (h.symm.trans hw) om
    · have hw := vstr e3
      rcases hk with (⟨h, k, rfl, rfl⟩ | ⟨h, k, rfl, rfl⟩) | ⟨h, es, rfl, _, rfl⟩ | ⟨h, es, rfl, _, rfl⟩
      · exact absurd (h.symm.trans hw) mn
      · rw [E.ok] at hok
        rw [E.depth] at hd
        refine ⟨_, rfl, x, k, rfl, hok, by omega, hx, fun H1 s1 => ?_⟩
        have hq := q H1 s1
        rw [E.greatest] at hq
        cases c : k.greatest with
        | none =>
          rw [c] at hq
          exact ⟨rfl, _, rfl, iteF hq⟩
        | some g =>
          rw [c] at hq
          refine ⟨rfl, _, rfl, ite2 (fun e4 => ?_) (fun e4 => ?_)⟩
          · have e5 : V.int (g : Int) = V.int 0 := of_decide_eq_true e4
            have e6 : (g : Int) = 0 := V.int.inj e5
            have e7 : g = 0 := by omega
            subst e7
            rw [if_pos rfl] at hq
            exact hq
          · have e5 : ¬ (some g = some 0) := fun h => e4 (by
              cases h
              exact decide_eq_true rfl)
            rw [if_neg e5] at hq
            exact hq
      · exact absurd (h.symm.trans hw) jn
      · exact absurd (h.symm.trans hw) on
    · have hk' := hk.resolve_left fun c => c.elim (fun h => vstrN e2 h.1) (fun h => vstrN e3 h.1)
      obtain ⟨es, hes, h2, rfl, hwj⟩ : ∃ es, e.kids = es ∧ 2 ≤ es.length ∧ y = .tup (es.map E.toD) ∧ ((w = sJoin ∧ e.greatest = (allO (es.map E.greatest)).map List.sum) ∨ (w = sOr ∧ e.greatest = (allO (es.map E.greatest)).map maxL)) := by
        rcases hk' with ⟨h, es, rfl, h2, rfl⟩ | ⟨h, es, rfl, h2, rfl⟩
        · exact ⟨es, rfl, h2, rfl, .inl ⟨h, by rw [E.greatest, greatl_eq]⟩⟩
        · exact ⟨es, rfl, h2, rfl, .inr ⟨h, by rw [E.greatest, greatl_eq]⟩⟩
      obtain ⟨p2, xs, rfl, hp2, hz2, hX⟩ := hx.untup
      have hl := hX.len
      rw [List.length_map] at hl
      refine ⟨_, rfl, p2, rfl, ⟨_, SqT.of hp2⟩, fun L hL => ?_⟩
      refine lc_tup (K := K) (a := p2) (xs := xs) (fun i H2 => Same H H2 ∧ H2 L = some (.lst (((es.take i).map E.greatest).map ov))) ⟨same_upd hL, upd_same⟩ (fun i H2 _ h => SqT.of (h.1 _ _ hp2)) (fun i x H2 hx h => ?_) (fun H2 h => ?_)
      · obtain ⟨d, hd1, hxd⟩ := hX.get hx
        rw [List.getElem?_map] at hd1
        obtain ⟨k, hk, rfl⟩ := Option.map_eq_some_iff.mp hd1
        have hmem : k ∈ e.kids := by rw [hes]; exact List.mem_of_getElem? hk
        refine ⟨rfl, tyes ⟨_, rfl, x, k, rfl, ok_kids hok k hmem, ?_, hxd.pers (Pers.same h.1), fun H3 s3 => ⟨_, s3 _ _ h.2, ?_, ?_, ?_⟩⟩⟩
        · have := depth_kids e k hmem
          omega
        · have : i < xs.length := (List.getElem?_eq_some_iff.mp hx).1
          rw [List.length_map, List.length_map, List.length_take]
          exact Nat.lt_of_le_of_lt (m := 100000) (by omega) (by decide)
        · exact fun b o e => by rw [upd_ne (ne_of_none e hL)]; exact s3 _ _ (h.1 b o e)
        · rw [upd_same, List.take_add_one, hk, List.map_append, List.map_append]
          rfl
      · obtain ⟨h1, h3⟩ := h
        rw [hl, List.take_length] at h3
        have hq := q H2 h1
        refine ⟨_, rfl, L, _, rfl, .inl (SqL.of h3), rfl, ov_flat _, _, rfl, ite2 (fun e6 => ?_) (fun e6 => ?_)⟩
        · have e7 : inV .non ((es.map E.greatest).map ov) = true := e6
          have : allO (es.map E.greatest) = none := by
            cases c : allO (es.map E.greatest) with
            | none => rfl
            | some l => rw [(allO_some c).2] at e7; cases e7
          have hn : e.greatest = none := by
            rcases hwj with ⟨_, h⟩ | ⟨_, h⟩ <;> rw [h, this] <;> rfl
          rw [hn] at hq
          exact hq
        · have e7 : ¬ inV .non ((es.map E.greatest).map ov) = true := e6
          obtain ⟨l, hl2⟩ : ∃ l, allO (es.map E.greatest) = some l := by
            cases c : allO (es.map E.greatest) with
            | none => exact absurd (allO_none c) e7
            | some l => exact ⟨l, rfl⟩
          have h4 := (allO_some hl2).1
          have h5 := allO_len hl2
          rw [List.length_map] at h5
          rw [h4] at h3
          refine ⟨_, rfl, rfl, _, rfl, ite2 (fun e4 => ?_) (fun e4 => ?_)⟩
          · have hw := vstr e4
            rcases hwj with ⟨_, h⟩ | ⟨h, _⟩
            · refine ⟨_, rfl, L, _, rfl, SqL.of h3, ?_⟩
              rw [h, hl2] at hq
              rw [sum_castN]
              exact hq
            · exact absurd (hw.symm.trans h) jo
          · have hw := vstrN e4
            rcases hwj with ⟨h, _⟩ | ⟨_, h⟩
            · exact absurd h hw
            · refine ⟨_, rfl, L, _, rfl, SqL.of h3, by rw [List.length_map]; omega, fun m hm hle => ?_⟩
              rw [maxL_is _ m hm hle]
              rw [h, hl2] at hq
              exact hq
def spLL : Sp := fun vs H Q _ => ∃ (v : V) (e : E), vs = [v] ∧ Eok e ∧ Rep H v e.toD ∧ ∀ H', Same H H' → Q (.int e.least) H'
def spGL : Sp := fun vs H Q _ => ∃ (v : V) (e : E), vs = [v] ∧ Eok e ∧ Rep H v e.toD ∧ ∀ H', Same H H' → Q (ov e.greatest) H'
abbrev N_least_length : List Str := ["expression"]
theorem sc_least_length : FnScope ["expression"] ["expression"] (defScope s_least_length) := ⟨rfl, rfl, rfl, by decide +kernel, rfl, by decide +kernel, by decide +kernel⟩
theorem ok_leastlength {f : Addr} {fd : FuncData} (B : Bt K mg a_BOUNDS a_LONG_BOUNDS tL tM) (Dd : Df K mg "least_length" s_least_length ["expression"] f fd) (Gcheck_long : Cl P w K mg base 6 "check_long" ["value"] spCheck) (G_least : Cl P w K mg base 42 "_least" ["part"] (spLeast 42)) : FnOk P w K mg base CX0 88 f fd ["expression"] spLL := by
  refine Dd.F.ok sc_least_length (fun vs H Q Ex h => ?_) (fun cdv A outer s H vs Q Ex hr h => ?_)
  · obtain ⟨v, e, rfl, _⟩ := h
    rfl
  obtain ⟨v, e, rfl, hE, hR, q⟩ := h
  refine ⟨_, (pss_cons (ps_expr (pe_cl Gcheck_long (hr.mono (by omega)) rfl (pa_cons (pv 0) pa_nil)))
    (pss_one (ps_ret (pe_cl G_least (hr.mono (by omega)) rfl (pa_cons (pv 0) pa_nil))))), ?_⟩
  exact ⟨_, rfl, v, _, rfl, hR, fl_toD e, hE.sz, long_top hE, fun H1 s1 => ⟨_, rfl, v, e, rfl, hE.ok, Nat.lt_of_le_of_lt hE.dep (by decide), hR.pers (Pers.same s1), fun H2 s2 => q H2 (s1.trans s2)⟩⟩
abbrev N_greatest_length : List Str := ["expression"]
theorem sc_greatest_length : FnScope ["expression"] ["expression"] (defScope s_greatest_length) := ⟨rfl, rfl, rfl, by decide +kernel, rfl, by decide +kernel, by decide +kernel⟩
theorem ok_greatestlength {f : Addr} {fd : FuncData} (B : Bt K mg a_BOUNDS a_LONG_BOUNDS tL tM) (Dd : Df K mg "greatest_length" s_greatest_length ["expression"] f fd) (Gcheck_long : Cl P w K mg base 6 "check_long" ["value"] spCheck) (G_greatest : Cl P w K mg base 42 "_greatest" ["part"] (spGreat 42)) : FnOk P w K mg base CX0 88 f fd ["expression"] spGL := by
  refine Dd.F.ok sc_greatest_length (fun vs H Q Ex h => ?_) (fun cdv A outer s H vs Q Ex hr h => ?_)
  · obtain ⟨v, e, rfl, _⟩ := h
    rfl
  obtain ⟨v, e, rfl, hE, hR, q⟩ := h
  refine ⟨_, (pss_cons (ps_expr (pe_cl Gcheck_long (hr.mono (by omega)) rfl (pa_cons (pv 0) pa_nil)))
    (pss_one (ps_ret (pe_cl G_greatest (hr.mono (by omega)) rfl (pa_cons (pv 0) pa_nil))))), ?_⟩
  exact ⟨_, rfl, v, _, rfl, hR, fl_toD e, hE.sz, long_top hE, fun H1 s1 => ⟨_, rfl, v, e, rfl, hE.ok, Nat.lt_of_le_of_lt hE.dep (by decide), hR.pers (Pers.same s1), fun H2 s2 => q H2 (s1.trans s2)⟩⟩
end
end My
namespace My
open PySem PySem.Spec PyProof.Rows L2
/-! ### the simple form -/
def isB (j : Bool) (e : E) : Bool := if j then isJoin e else isAlt e
def wJ (j : Bool) : Str := if j then sJoin else sOr
def openE (j : Bool) (es : List E) : List E := es.flatMap fun e => if isB j e then e.kids else [e]
def rowS (j : Bool) : List E → E
  | [] => .eps
  | [e] => e
  | e1 :: e2 :: r => if j then .join (e1 :: e2 :: r) else .alt (e1 :: e2 :: r)
def neE (es : List E) : List E := es.filter fun e => !e.isEps
def joinS (es : List E) : E := rowS true (neE (openE true es))
def dedF (ks : List E) (e : E) : List E := if (ks.any fun k => PyData.eqv (dE k) (dE e)) then ks else ks ++ [e]
def dedE (es : List E) : List E := es.foldl dedF []
def orS (es : List E) : E := if ((neE (dedE es)).any fun e => decide (e.least = 0)) then rowS false (neE (dedE es)) else rowS false (dedE es)
def maybeS (e : E) : E := if e.least = 0 then e else .maybe e
def manyS : E → E
  | .eps => .eps
  | .maybe x => .many x
  | .many x => .many x
  | e => .many e
def simpE : E → E
  | .eps => .eps
  | .sym c => .sym c
  | .maybe e => maybeS (simpE e)
  | .many e => manyS (simpE e)
  | .join es => joinS (simps es)
  | .alt es => orS (openE false (simps es))
where simps : List E → List E
  | [] => []
  | e :: es => simpE e :: simps es
theorem simps_eq (es : List E) : simpE.simps es = es.map simpE := by
  induction es with
  | nil => rfl
  | cons e es ih => rw [simpE.simps, ih, List.map_cons]
structure Sm (e e' : E) : Prop where
  ok : e'.ok = true
  dep : e'.depth ≤ e.depth
  pts : e'.parts ≤ e.parts
  dd : (dE e').depth ≤ (dE e).depth
structure RowB (j : Bool) (d p q : Nat) (L : List E) : Prop where
  ok : ∀ x ∈ L, x.ok = true
  no : ∀ x ∈ L, isB j x = false
  dep : ∀ x ∈ L, x.depth ≤ d
  dd : ∀ x ∈ L, (dE x).depth ≤ q
  pts : (L.map E.parts).sum ≤ p
theorem sub_sum {xs ys : List Nat} (h : xs.Sublist ys) : xs.sum ≤ ys.sum := by
  induction h with
  | slnil => exact Nat.le_refl _
  | cons a _ ih => rw [List.sum_cons]; omega
  | cons_cons a _ ih => rw [List.sum_cons, List.sum_cons]; omega
theorem RowB.sub {j : Bool} {d p q : Nat} {L M : List E} (h : RowB j d p q L) (s : M.Sublist L) : RowB j d p q M where
  ok x hx := h.ok x (s.subset hx)
  no x hx := h.no x (s.subset hx)
  dep x hx := h.dep x (s.subset hx)
  dd x hx := h.dd x (s.subset hx)
  pts := Nat.le_trans (sub_sum (s.map E.parts)) h.pts
theorem dEs_le {d : Nat} : ∀ {es : List E}, (∀ x ∈ es, (dE x).depth ≤ d) → PyData.depthAll (dE.dEs es) ≤ d
  | [], _ => by rw [dE.dEs]; exact Nat.zero_le _
  | e :: es, h => by
    rw [dE.dEs, PyData.depthAll]
    have := h e List.mem_cons_self
    have := dEs_le fun x hx => h x (List.mem_cons_of_mem _ hx)
    omega
theorem rowS_sm {j : Bool} {d p q : Nat} {L : List E} (h : RowB j d p q L) : (rowS j L).ok = true ∧ (rowS j L).depth ≤ d + 1 ∧ (rowS j L).parts ≤ p + 1 ∧ (dE (rowS j L)).depth ≤ q + 2 := by
  match L, h with
  | [], _ => exact ⟨rfl, Nat.zero_le _, by show 1 ≤ p + 1; omega, by show (dE .eps).depth ≤ q + 2; rw [dE]; exact Nat.zero_le _⟩
  | [e], h =>
    have h1 := h.dep e List.mem_cons_self
    have h2 := h.dd e List.mem_cons_self
    have h3 := h.pts
    rw [List.map_cons, List.sum_cons] at h3
    exact ⟨h.ok e List.mem_cons_self, by show e.depth ≤ d + 1; omega, by show e.parts ≤ p + 1; omega, by show (dE e).depth ≤ q + 2; omega⟩
  | e1 :: e2 :: r, h =>
    have hd := depths_le h.dep
    have hq := dEs_le h.dd
    have hp := h.pts
    have hok : E.ok.oks (e1 :: e2 :: r) = true := by rw [oks_eq, List.all_eq_true]; exact h.ok
    have hno : ((e1 :: e2 :: r).any (isB j)) = false := by rw [List.any_eq_false]; exact fun x hx => by rw [h.no x hx]; exact Bool.false_ne_true
    cases j with
    | true =>
      have hno : ((e1 :: e2 :: r).any isJoin) = false := hno
      refine ⟨?_, ?_, ?_, ?_⟩
      · show E.ok (.join (e1 :: e2 :: r)) = true
        rw [E.ok, hok, hno, decide_eq_true (by show 2 ≤ r.length + 1 + 1; omega)]
        rfl
      · show E.depth (.join (e1 :: e2 :: r)) ≤ d + 1
        rw [E.depth]
        omega
      · show E.parts (.join (e1 :: e2 :: r)) ≤ p + 1
        rw [E.parts, partss_eq]
        omega
      · show (dE (.join (e1 :: e2 :: r))).depth ≤ q + 2
        rw [dE]
        simp only [PyData.depth, PyData.depthAll]
        omega
    | false =>
      have hno : ((e1 :: e2 :: r).any isAlt) = false := hno
      refine ⟨?_, ?_, ?_, ?_⟩
      · show E.ok (.alt (e1 :: e2 :: r)) = true
        rw [E.ok, hok, hno, decide_eq_true (by show 2 ≤ r.length + 1 + 1; omega)]
        rfl
      · show E.depth (.alt (e1 :: e2 :: r)) ≤ d + 1
        rw [E.depth]
        omega
      · show E.parts (.alt (e1 :: e2 :: r)) ≤ p + 1
        rw [E.parts, partss_eq]
        omega
      · show (dE (.alt (e1 :: e2 :: r))).depth ≤ q + 2
        rw [dE]
        simp only [PyData.depth, PyData.depthAll]
        omega
theorem isB_kids {j : Bool} {e k : E} (ho : e.ok = true) (h : isB j e = true) (hk : k ∈ e.kids) : isB j k = false := by
  cases j with
  | true =>
    cases e with
    | join es =>
      rw [E.ok] at ho
      simp only [Bool.and_eq_true, Bool.not_eq_true'] at ho
      have := List.any_eq_false.mp ho.2 k hk
      show isJoin k = false
      simpa using this
    | _ => cases h
  | false =>
    cases e with
    | alt es =>
      rw [E.ok] at ho
      simp only [Bool.and_eq_true, Bool.not_eq_true'] at ho
      have := List.any_eq_false.mp ho.2 k hk
      show isAlt k = false
      simpa using this
    | _ => cases h
/-- rows that are opened -/
theorem openE_row {j : Bool} {d q : Nat} : ∀ {es es' : List E}, Two Sm es es' → (∀ x ∈ es, x.depth ≤ d) → (∀ x ∈ es, (dE x).depth ≤ q) → RowB j d ((es.map E.parts).sum) q (openE j es')
  | _, _, .nil, _, _ => ⟨fun x h => (by cases h), fun x h => (by cases h), fun x h => (by cases h), fun x h => (by cases h), Nat.le_refl _⟩
  | e :: es, e' :: es', .cons h t, h1, h2 => by
    have ih := openE_row (j := j) t (fun x hx => h1 x (List.mem_cons_of_mem _ hx)) fun x hx => h2 x (List.mem_cons_of_mem _ hx)
    have d0 := Nat.le_trans h.dep (h1 e List.mem_cons_self)
    have q0 := Nat.le_trans h.dd (h2 e List.mem_cons_self)
    have p0 := h.pts
    have pk := parts_kids e'
    have eo : openE j (e' :: es') = (if isB j e' then e'.kids else [e']) ++ openE j es' := by
      unfold openE
      rw [List.flatMap_cons]
    have hd : RowB j d e.parts q (if isB j e' then e'.kids else [e']) := by
      cases hb : isB j e' with
      | true =>
        refine ⟨ok_kids h.ok, fun x hx => isB_kids h.ok hb hx, fun x hx => ?_, fun x hx => ?_, ?_⟩
        · have := depth_kids e' x hx
          omega
        · exact Nat.le_trans (dE_kids hx) q0
        · show (e'.kids.map E.parts).sum ≤ e.parts
          omega
      | false =>
        refine ⟨fun x hx => ?_, fun x hx => ?_, fun x hx => ?_, fun x hx => ?_, ?_⟩
        · rw [List.mem_singleton.mp hx]; exact h.ok
        · rw [List.mem_singleton.mp hx]; exact hb
        · rw [List.mem_singleton.mp hx]; exact d0
        · rw [List.mem_singleton.mp hx]; exact q0
        · show e'.parts + 0 ≤ e.parts
          omega
    rw [eo]
    refine ⟨fun x hx => ?_, fun x hx => ?_, fun x hx => ?_, fun x hx => ?_, ?_⟩
    · rcases List.mem_append.mp hx with h | h
      · exact hd.ok x h
      · exact ih.ok x h
    · rcases List.mem_append.mp hx with h | h
      · exact hd.no x h
      · exact ih.no x h
    · rcases List.mem_append.mp hx with h | h
      · exact hd.dep x h
      · exact ih.dep x h
    · rcases List.mem_append.mp hx with h | h
      · exact hd.dd x h
      · exact ih.dd x h
    · rw [List.map_append, List.sum_append, List.map_cons, List.sum_cons]
      have := hd.pts
      have := ih.pts
      omega
theorem dedF_sub (es : List E) : ∀ ks : List E, (es.foldl dedF ks).Sublist (ks ++ es) := by
  induction es with
  | nil => intro ks; rw [List.append_nil]; exact List.Sublist.refl _
  | cons e es ih =>
    intro ks
    rw [List.foldl_cons]
    refine (ih _).trans ?_
    unfold dedF
    split
    · exact (List.Sublist.refl ks).append (List.sublist_cons_self e es)
    · rw [List.append_assoc]
      exact List.Sublist.refl _
theorem dedE_sub (es : List E) : (dedE es).Sublist es := dedF_sub es []
theorem neE_sub (es : List E) : (neE es).Sublist es := List.filter_sublist
theorem sm_join {es es' : List E} (h : Two Sm es es') : Sm (.join es) (joinS es') := by
  obtain ⟨h1, h2, h3, h4⟩ := rowS_sm ((openE_row (j := true) (d := E.depth.depths es) (q := PyData.depthAll (dE.dEs es)) h (fun x hx => by have := depth_kids (.join es) x hx; rw [E.depth] at this; omega) fun x hx => dEs_kid hx).sub (neE_sub _))
  refine ⟨h1, by rw [E.depth]; exact h2, by rw [E.parts, partss_eq]; exact h3, Nat.le_trans h4 ?_⟩
  rw [dE]
  simp only [PyData.depth, PyData.depthAll]
  omega
theorem sm_alt {es es' : List E} (h : Two Sm es es') : Sm (.alt es) (orS (openE false es')) := by
  have h0 := (openE_row (j := false) (d := E.depth.depths es) (q := PyData.depthAll (dE.dEs es)) h (fun x hx => by have := depth_kids (.alt es) x hx; rw [E.depth] at this; omega) fun x hx => dEs_kid hx).sub (dedE_sub _)
  have key : ∀ L : List E, L.Sublist (dedE (openE false es')) → Sm (.alt es) (rowS false L) := fun L hL => by
    obtain ⟨h1, h2, h3, h4⟩ := rowS_sm (h0.sub hL)
    refine ⟨h1, by rw [E.depth]; exact h2, by rw [E.parts, partss_eq]; exact h3, Nat.le_trans h4 ?_⟩
    rw [dE]
    simp only [PyData.depth, PyData.depthAll]
    omega
  unfold orS
  split
  · exact key _ (neE_sub _)
  · exact key _ (List.Sublist.refl _)
theorem dd_maybe (e : E) : (dE (.maybe e)).depth = (dE e).depth + 1 := by
  rw [dE]
  simp only [PyData.depth, PyData.depthAll]
  omega
theorem dd_many (e : E) : (dE (.many e)).depth = (dE e).depth + 1 := by
  rw [dE]
  simp only [PyData.depth, PyData.depthAll]
  omega
theorem sm_maybe {e e' : E} (h : Sm e e') : Sm (.maybe e) (maybeS e') := by
  have h1 := h.dep
  have h2 := h.pts
  have h3 := h.dd
  unfold maybeS
  split
  · exact ⟨h.ok, by rw [E.depth]; omega, by rw [E.parts]; omega, by rw [dd_maybe]; omega⟩
  · exact ⟨by rw [E.ok]; exact h.ok, by rw [E.depth, E.depth]; omega, by rw [E.parts, E.parts]; omega, by rw [dd_maybe, dd_maybe]; omega⟩
theorem sm_many {e e' : E} (h : Sm e e') : Sm (.many e) (manyS e') := by
  have h1 := h.dep
  have h2 := h.pts
  have h3 := h.dd
  have ho := h.ok
  have gen : Sm (.many e) (.many e') := ⟨by rw [E.ok]; exact ho, by rw [E.depth, E.depth]; omega, by rw [E.parts, E.parts]; omega, by rw [dd_many, dd_many]; omega⟩
  cases e' with
  | eps => exact ⟨rfl, Nat.zero_le _, by rw [E.parts]; show 1 ≤ e.parts + 1; omega, by show (dE .eps).depth ≤ _; rw [dE]; exact Nat.zero_le _⟩
  | maybe x =>
    rw [dd_maybe] at h3
    rw [E.depth] at h1
    rw [E.parts] at h2
    rw [E.ok] at ho
    exact ⟨by show E.ok (.many x) = true; rw [E.ok]; exact ho, by show E.depth (.many x) ≤ _; rw [E.depth, E.depth]; omega, by show E.parts (.many x) ≤ _; rw [E.parts, E.parts]; omega, by show (dE (.many x)).depth ≤ _; rw [dd_many, dd_many]; omega⟩
  | many x =>
    rw [dd_many] at h3
    rw [E.depth] at h1
    rw [E.parts] at h2
    rw [E.ok] at ho
    exact ⟨by show E.ok (.many x) = true; rw [E.ok]; exact ho, by show E.depth (.many x) ≤ _; rw [E.depth, E.depth]; omega, by show E.parts (.many x) ≤ _; rw [E.parts, E.parts]; omega, by show (dE (.many x)).depth ≤ _; rw [dd_many, dd_many]; omega⟩
  | sym c => exact gen
  | join es => exact gen
  | alt es => exact gen
mutual
theorem simp_sm : ∀ e : E, e.ok = true → Sm e (simpE e)
  | .eps, _ => ⟨rfl, Nat.le_refl _, Nat.le_refl _, Nat.le_refl _⟩
  | .sym c, ho => ⟨ho, Nat.le_refl _, Nat.le_refl _, Nat.le_refl _⟩
  | .maybe e, ho => by rw [simpE]; exact sm_maybe (simp_sm e (by rw [E.ok] at ho; exact ho))
  | .many e, ho => by rw [simpE]; exact sm_many (simp_sm e (by rw [E.ok] at ho; exact ho))
  | .join es, ho => by
    rw [E.ok, oks_eq] at ho
    simp only [Bool.and_eq_true] at ho
    rw [simpE]
    exact sm_join (simps_sm es ho.1.2)
  | .alt es, ho => by
    rw [E.ok, oks_eq] at ho
    simp only [Bool.and_eq_true] at ho
    rw [simpE]
    exact sm_alt (simps_sm es ho.1.2)
theorem simps_sm : ∀ es : List E, es.all E.ok = true → Two Sm es (simpE.simps es)
  | [], _ => by rw [simpE.simps]; exact .nil
  | e :: es, ho => by
    rw [List.all_cons, Bool.and_eq_true] at ho
    rw [simpE.simps]
    exact .cons (simp_sm e ho.1) (simps_sm es ho.2)
end

def tagE : E → Option Str
  | .maybe _ => some sMaybe
  | .many _ => some sMany
  | .join _ => some sJoin
  | .alt _ => some sOr
  | _ => none
theorem tag_str {e : E} (h : isStr e.toD = true) : tagE e = none := by
  cases e with
  | eps => rfl
  | sym c => rfl
  | maybe k => exact absurd h (by rw [E.toD]; intro c; cases c)
  | many k => exact absurd h (by rw [E.toD]; intro c; cases c)
  | join es => exact absurd h (by rw [E.toD]; intro c; cases c)
  | alt es => exact absurd h (by rw [E.toD]; intro c; cases c)
theorem tup_str {e : E} : isTup e.toD = !isStr e.toD := by
  cases e <;> (rw [E.toD]; rfl)
theorem tag_isB {j : Bool} {e : E} : decide (tagE e = some (wJ j)) = isB j e := by
  cases j <;> cases e <;> first | rfl | decide +kernel
def spHas : Sp := fun vs H Q _ => ∃ (v : V) (e : E) (z : Str), vs = [v, .str z] ∧ e.ok = true ∧ Rep H v e.toD ∧ Q (.bl (decide (tagE e = some z))) H
def spOpen : Sp := fun vs H Q _ => ∃ (j : Bool) (p : Addr) (xs : List V) (es : List E), vs = [.str (wJ j), .ref p] ∧ H p = some (.lst xs) ∧ Two (Rep H) xs (es.map E.toD) ∧ (∀ e ∈ es, e.ok = true) ∧ (es.map E.parts).sum ≤ 1000 ∧ ∀ (q : Addr) (ys : List V) H', Same H H' → H q = none → H' q = some (.lst ys) → Two (Rep H') ys ((openE j es).map E.toD) → Q (.ref q) H'
def spRowOf : Sp := fun vs H Q _ => ∃ (j : Bool) (p : Addr) (xs : List V) (es : List E), vs = [.str (wJ j), .ref p] ∧ H p = some (.lst xs) ∧ Two (Rep H) xs (es.map E.toD) ∧ es.length ≤ 1000 ∧ ∀ u H', Same H H' → Rep H' u (rowS j es).toD → Q u H'
def spJoinOf : Sp := fun vs H Q _ => ∃ (p : Addr) (xs : List V) (es : List E), vs = [.ref p] ∧ H p = some (.lst xs) ∧ Two (Rep H) xs (es.map E.toD) ∧ (∀ e ∈ es, e.ok = true) ∧ (∀ e ∈ es, (dE e).depth ≤ 60) ∧ (es.map E.parts).sum ≤ 1000 ∧ ∀ u H', Same H H' → Rep H' u (joinS es).toD → Q u H'
def spOrOf : Sp := fun vs H Q _ => ∃ (p : Addr) (xs : List V) (es : List E), vs = [.ref p] ∧ H p = some (.lst xs) ∧ Two (Rep H) xs (es.map E.toD) ∧ (∀ e ∈ es, e.ok = true) ∧ (∀ e ∈ es, (dE e).depth ≤ 60) ∧ (∀ e ∈ es, e.depth < 42) ∧ es.length ≤ 1000 ∧ ∀ u H', Same H H' → Rep H' u (orS es).toD → Q u H'
def spMaybeS : Sp := fun vs H Q _ => ∃ (v : V) (e : E), vs = [v] ∧ e.ok = true ∧ e.depth < 42 ∧ Rep H v e.toD ∧ ∀ u H', Same H H' → Rep H' u (maybeS e).toD → Q u H'
def spManyS : Sp := fun vs H Q _ => ∃ (v : V) (e : E), vs = [v] ∧ e.ok = true ∧ (dE e).depth ≤ 60 ∧ Rep H v e.toD ∧ ∀ u H', Same H H' → Rep H' u (manyS e).toD → Q u H'
def spSimp (n : Nat) : Sp := fun vs H Q _ => ∃ (v : V) (e : E), vs = [v] ∧ e.ok = true ∧ e.depth < n ∧ n ≤ 41 ∧ (dE e).depth ≤ 60 ∧ e.parts ≤ 400 ∧ Rep H v e.toD ∧ ∀ u H', Same H H' → Rep H' u (simpE e).toD → Q u H'
section
variable {P : Program} {w : World} {K : PySem.W.Frag} {mg : Str → Option Value} {base : Heap} {a_BOUNDS a_LONG_BOUNDS : Addr} {tL tM : Tok}
abbrev N__has_word : List Str := ["part", "word"]
theorem sc__has_word : FnScope ["part", "word"] ["part", "word"] (defScope s__has_word) := ⟨rfl, rfl, rfl, by decide +kernel, rfl, by decide +kernel, by decide +kernel⟩
theorem ok_has {f : Addr} {fd : FuncData} (B : Bt K mg a_BOUNDS a_LONG_BOUNDS tL tM) (Dd : Df K mg "_has_word" s__has_word ["part", "word"] f fd) : FnOk P w K mg base CX0 1 f fd ["part", "word"] spHas := by
  refine Dd.F.ok sc__has_word (fun vs H Q Ex h => ?_) (fun cdv A outer s H vs Q Ex hr h => ?_)
  · obtain ⟨v, e, z, rfl, _⟩ := h
    rfl
  obtain ⟨v, e, z, rfl, hok, hR, q⟩ := h
  refine ⟨_, (pss_one (ps_ret (pe_and (pe_callB call_isi rfl B.b_isinstance boot_isinstance (pa_cons (pv 0) (pa_cons (pe_bltn (v := .ty "tuple") rfl B.b_tuple boot_tuple rfl) pa_nil))) (pe_one (pe_cmpR op_eq (pe_ix (r := rIxT K) ix_tup (pv 0) pe_int (fun _ _ => rfl)) (pv 1) (nomark _)))))), ?_⟩
  obtain ⟨t, ht, _, k2⟩ := hR.ty (K := K)
  refine ⟨_, rfl, _, _, _, _, _, rfl, .ty _, ht, k2, _, rfl, ?_⟩
  rw [tup_str]
  cases hs : isStr e.toD with
  | true =>
    rw [tag_str hs] at q
    exact iteF q
  | false =>
    obtain ⟨w, y, p0, x0, hlw, rfl, hp0, hx0, hk⟩ := node_of hok hR (by rw [hs]; exact Bool.false_ne_true)
    have ht : tagE e = some w := by
      rcases hk with (⟨h, k, rfl, rfl⟩ | ⟨h, k, rfl, rfl⟩) | ⟨h, es, rfl, hes, rfl⟩ | ⟨h, es, rfl, _, rfl⟩ <;> (rw [h]; rfl)
    refine iteT ⟨_, rfl, p0, _, 0, _, rfl, rfl, SqT.of hp0, at_zero, _, rfl, rfl, ?_⟩
    rw [show decide (V.str w = V.str z) = decide (tagE e = some z) from decide_eq_decide.mpr (by rw [ht]; exact ⟨fun h => by cases h; rfl, fun h => by cases h; rfl⟩)]
    exact q
theorem open_snoc (j : Bool) (es : List E) (e : E) : openE j (es ++ [e]) = openE j es ++ (if isB j e then e.kids else [e]) := by
  unfold openE
  rw [List.flatMap_append, List.flatMap_singleton]
theorem open_len (j : Bool) (es : List E) : (openE j es).length ≤ (es.map E.parts).sum := by
  induction es with
  | nil => exact Nat.zero_le _
  | cons e es ih =>
    have : openE j (e :: es) = (if isB j e then e.kids else [e]) ++ openE j es := by
      unfold openE
      rw [List.flatMap_cons]
    rw [this, List.length_append, List.map_cons, List.sum_cons]
    have h1 := parts_pos e
    have h2 := parts_kids e
    have h3 := parts_len (es := e.kids)
    cases isB j e with
    | true =>
      have : (if true = true then e.kids else [e]).length = e.kids.length := rfl
      omega
    | false =>
      have : (if false = true then e.kids else [e]).length = 1 := rfl
      omega
theorem sum_take_le (l : List Nat) (n : Nat) : (l.take n).sum ≤ l.sum := sub_sum (List.take_sublist n l)
abbrev N_opened_parts : List Str := ["word", "parts", "opened", "each"]
theorem sc_opened_parts : FnScope ["word", "parts", "opened", "each"] ["word", "parts"] (defScope s_opened_parts) := ⟨rfl, rfl, rfl, by decide +kernel, rfl, by decide +kernel, by decide +kernel⟩
theorem ok_open {f : Addr} {fd : FuncData} (B : Bt K mg a_BOUNDS a_LONG_BOUNDS tL tM) (Dd : Df K mg "opened_parts" s_opened_parts ["word", "parts"] f fd) (G_has_word : Cl P w K mg base 1 "_has_word" ["part", "word"] spHas) : FnOk P w K mg base CX0 2 f fd ["word", "parts"] spOpen := by
  refine Dd.F.ok sc_opened_parts (fun vs H Q Ex h => ?_) (fun cdv A outer s H vs Q Ex hr h => ?_)
  · obtain ⟨j, p, xs, es, rfl, _⟩ := h
    rfl
  obtain ⟨j, p, xs, es, rfl, hp, two, hok, hpt, q⟩ := h
  refine ⟨_, (pss_cons (ps_set (i := 2) sc_opened_parts.nd rfl (Or.inl rfl) (pe_lst pa_nil))
    (pss_cons (ps_for PassesOwn.never rfl (pi_list (pv 1)) (pg_name (i := 3) sc_opened_parts.nd rfl (Or.inl rfl)) (pss_one (ps_if (pt_val (pe_cl G_has_word (hr.mono (by omega)) rfl (pa_cons (pv 3) (pa_cons (pv 0) pa_nil)))) (pss_one (ps_expr (pe_bm PySem.F.plainAttrs_list PySem.F.slot_list_extend PySem.F.type_list_extend mt_extendT (pv 2) (pa_cons (pe_ix (r := rIxT K) ix_tup (pv 3) pe_int (fun _ _ => rfl)) pa_nil)))) (pss_one (ps_expr (pe_bm PySem.F.plainAttrs_list PySem.F.slot_list_append PySem.F.type_list_append mt_append (pv 2) (pa_cons (pv 3) pa_nil)))))))
    (pss_one (ps_ret (pv 2))))), ?_⟩
  have xl : xs.length = es.length := by rw [two.len, List.length_map]
  refine ⟨Nat.zero_le _, fun L hL => ?_⟩
  have uL := same_upd (o := .lst []) hL
  refine ⟨_, rfl, p, rfl, ⟨_, SqL.of (uL _ _ hp)⟩, for_list (K := K) (a := p) (xs := xs) (fun i σ' H' => ∃ (ys : List V) (o3 : Option V), σ' = [some (.str (wJ j)), some (.ref p), some (.ref L), o3] ∧ Same H H' ∧ H' L = some (.lst ys) ∧ Two (Rep H') ys ((openE j (es.take i)).map E.toD)) ?_ ?_ ?_ ?_⟩
  · exact ⟨[], none, rfl, uL, upd_same, .nil⟩
  · rintro i σ' H' _ ⟨ys, o3, rfl, s1, _⟩
    exact SqL.of (s1 _ _ hp)
  · rintro i v σ' H1 hv ⟨ys, o3, rfl, s1, hys, tw⟩
    obtain ⟨d, hd, hvd⟩ := two.get hv
    rw [List.getElem?_map] at hd
    obtain ⟨e, he, rfl⟩ := Option.map_eq_some_iff.mp hd
    have hem := List.mem_of_getElem? he
    have hvR := hvd.pers (Pers.same s1)
    have yl : ys.length ≤ 1000 := by
      rw [tw.len, List.length_map]
      exact Nat.le_trans (open_len j _) (Nat.le_trans (sub_sum ((List.take_sublist i es).map E.parts)) hpt)
    refine ⟨_, rfl, _, rfl, v, e, wJ j, rfl, hok e hem, hvR, _, rfl, ?_⟩
    rw [tag_isB]
    rw [take_snoc he, open_snoc]
    have P1 : ∀ zs, Pers H1 (upd H1 L (.lst zs)) := fun zs => Pers.store hys
    have keep : ∀ zs, Same H (upd H1 L (.lst zs)) := fun zs b o hb => by
      rw [upd_ne (ne_of_none hb hL)]
      exact s1 _ _ hb
    cases hb : isB j e with
    | true =>
      obtain ⟨p0, p1, zs, rfl, h0, h1, hz⟩ : ∃ p0 p1 zs, v = .ref p0 ∧ H1 p0 = some (.tup [.str (wJ j), .ref p1]) ∧ H1 p1 = some (.tup zs) ∧ Two (Rep H1) zs (e.kids.map E.toD) := by
        cases j with
        | true =>
          cases e with
          | join ks =>
            rw [E.toD, toDs_eq] at hvR
            obtain ⟨p0, x, rfl, a1, a2⟩ := unpair hvR
            obtain ⟨p1, zs, rfl, a3, _, a4⟩ := a2.untup
            exact ⟨p0, p1, zs, rfl, a1, a3, a4⟩
          | _ => cases hb
        | false =>
          cases e with
          | alt ks =>
            rw [E.toD, toDs_eq] at hvR
            obtain ⟨p0, x, rfl, a1, a2⟩ := unpair hvR
            obtain ⟨p1, zs, rfl, a3, _, a4⟩ := a2.untup
            exact ⟨p0, p1, zs, rfl, a1, a3, a4⟩
          | _ => cases hb
      have kl : e.kids.length ≤ 1000 := by
        have h2 := parts_kids e
        have h3 := parts_len (es := e.kids)
        have h4 : e.parts ≤ (es.map E.parts).sum := by
          have := sub_sum (List.singleton_sublist.mpr (List.mem_map.mpr ⟨e, hem, rfl⟩) : [e.parts].Sublist (es.map E.parts))
          simpa using this
        omega
      have zl := hz.len
      rw [List.length_map] at zl
      refine iteT ⟨_, rfl, .inl ⟨rfl, _, SqL.of hys⟩, _, rfl, p0, _, 1, _, rfl, rfl, SqT.of h0, at_of (j := 1) rfl rfl, L, p1, ys, zs, rfl, rfl, hys, SqT.of h1, Nat.le_trans (m := 2000) (by omega) (by decide), ?_⟩
      refine ⟨ys ++ zs, _, rfl, keep _, upd_same, ?_⟩
      rw [List.map_append]
      exact (tw.mono fun _ _ h => h.pers (P1 _)).app (hz.mono fun _ _ h => h.pers (P1 _))
    | false =>
      refine iteF ⟨_, rfl, .inl ⟨rfl, _, SqL.of hys⟩, _, rfl, L, ys, v, rfl, rfl, hys, Nat.lt_of_le_of_lt yl (by decide), ?_⟩
      refine ⟨ys ++ [v], _, rfl, keep _, upd_same, ?_⟩
      rw [List.map_append]
      exact (tw.mono fun _ _ h => h.pers (P1 _)).app (.cons (hvR.pers (P1 _)) .nil)
  · rintro σ' H1 ⟨ys, o3, rfl, s1, hys, tw⟩
    rw [xl, List.take_length] at tw
    exact ⟨_, rfl, q L ys H1 s1 hL hys tw⟩
end
end My
namespace My
open PySem PySem.Spec PyProof.Rows L2
theorem _root_.L2.Room.u65 {k : Nat} {A : Around} (r : Room k A) : A.units + 65 < cLine := by
  have := r.un
  omega
section
variable {P : Program} {w : World} {K : PySem.W.Frag} {mg : Str → Option Value} {base : Heap} {a_BOUNDS a_LONG_BOUNDS : Addr} {tL tM : Tok}
abbrev N_row_of : List Str := ["word", "parts"]
theorem sc_row_of : FnScope ["word", "parts"] ["word", "parts"] (defScope s_row_of) := ⟨rfl, rfl, rfl, by decide +kernel, rfl, by decide +kernel, by decide +kernel⟩
theorem ok_rowof {f : Addr} {fd : FuncData} (B : Bt K mg a_BOUNDS a_LONG_BOUNDS tL tM) (Dd : Df K mg "row_of" s_row_of ["word", "parts"] f fd) : FnOk P w K mg base CX0 1 f fd ["word", "parts"] spRowOf := by
  refine Dd.F.ok sc_row_of (fun vs H Q Ex h => ?_) (fun cdv A outer s H vs Q Ex hr h => ?_)
  · obtain ⟨j, p, xs, es, rfl, _⟩ := h
    rfl
  obtain ⟨j, p, xs, es, rfl, hp, two, hl, q⟩ := h
  refine ⟨_, (pss_cons (ps_if (pt_cmpR op_eq (pe_callB call_len rfl B.b_len boot_len (pa_cons (pv 1) pa_nil)) pe_int (nomark _)) (pss_one (ps_ret pe_str)) pss_nil)
    (pss_cons (ps_if (pt_cmpR op_eq (pe_callB call_len rfl B.b_len boot_len (pa_cons (pv 1) pa_nil)) pe_int (nomark _)) (pss_one (ps_ret (pe_ix (r := rIxL K) ix_list (pv 1) pe_int (fun _ _ => rfl)))) pss_nil)
    (pss_one (ps_ret (pe_tup (pa_cons (pv 0) (pa_cons (pe_callTy (r := rTupOf K) call_tuple_ofK rfl B.b_tuple boot_tuple (pa_cons (pv 1) pa_nil)) pa_nil))))))), ?_⟩
  have xl : xs.length = es.length := by rw [two.len, List.length_map]
  refine ⟨_, rfl, _, xs.length, rfl, .inl ⟨_, SqL.of hp, rfl⟩, rfl, _, rfl, ite2 (fun c => ?_) (fun c => ?_)⟩
  · have c : xs.length = 0 := by have := V.int.inj (of_decide_eq_true c); omega
    have he : es = [] := List.eq_nil_of_length_eq_zero (by omega)
    subst he
    refine q _ H (Same.refl H) ?_
    show Rep H _ (E.toD .eps)
    rw [E.toD]
    exact .str (by decide +kernel)
  · refine ⟨_, rfl, _, xs.length, rfl, .inl ⟨_, SqL.of hp, rfl⟩, rfl, _, rfl, ite2 (fun c1 => ?_) (fun c1 => ?_)⟩
    · have c1 : xs.length = 1 := by have := V.int.inj (of_decide_eq_true c1); omega
      obtain ⟨e, rfl⟩ : ∃ e, es = [e] := List.length_eq_one_iff.mp (by omega)
      cases two with
      | cons hx t =>
        cases t
        exact ⟨_, rfl, p, _, 0, _, rfl, rfl, SqL.of hp, at_zero, q _ H (Same.refl H) hx⟩
    · have n0 : xs.length ≠ 0 := fun h => c (decide_eq_true (by rw [h]; rfl))
      have n1 : xs.length ≠ 1 := fun h => c1 (decide_eq_true (by rw [h]; rfl))
      match es, xl, two, hl with
      | [], xl, _, _ => exact absurd xl n0
      | [e], xl, _, _ => exact absurd xl n1
      | e1 :: e2 :: r, xl, two, hl =>
        refine ⟨_, rfl, _, rfl, p, xs, rfl, .inl ⟨SqL.of hp, fun p2 hp2 => ⟨by show 2 ≤ sizeLine; decide, fun p3 hp3 => q _ _ ((same_upd hp2).trans (same_upd hp3)) ?_⟩⟩⟩
        have P2 := (Pers.new (o := .tup xs) hp2).trans (Pers.new (o := .tup [V.str (wJ j), V.ref p2]) hp3)
        have e9 : (rowS j (e1 :: e2 :: r)).toD = .tup [.str (wJ j), .tup ((e1 :: e2 :: r).map E.toD)] := by
          cases j
          · show E.toD (.alt (e1 :: e2 :: r)) = _
            rw [E.toD, toDs_eq]
            rfl
          · show E.toD (.join (e1 :: e2 :: r)) = _
            rw [E.toD, toDs_eq]
            rfl
        rw [e9]
        refine rep_node upd_same (by cases j <;> decide +kernel) (Rep.tup2 ((same_upd hp3) _ _ upd_same) ?_ (Rep.pers2 P2 two))
        rw [xl]
        omega
theorem open_all {p : E → Prop} {j : Bool} {es : List E} (hk : ∀ e, p e → ∀ k ∈ e.kids, p k) (h : ∀ e ∈ es, p e) : ∀ x ∈ openE j es, p x := fun x hx => by
  unfold openE at hx
  obtain ⟨e, he, hx⟩ := List.mem_flatMap.mp hx
  split at hx
  · exact hk e (h e he) x hx
  · rw [List.mem_singleton.mp hx]
    exact h e he
theorem neE_snoc (es : List E) (e : E) : neE (es ++ [e]) = neE es ++ (if e.isEps then [] else [e]) := by
  unfold neE
  rw [List.filter_append, List.filter_cons]
  cases e.isEps <;> rfl
/-- what is not "" of a list, as a comprehension leaves it -/
def NeI (H1 H' : Hp) (D : Addr) (es : List E) : Prop := Same H1 H' ∧ ∃ us, H' D = some (.lst us) ∧ Two (Rep H') us ((neE es).map E.toD)
theorem nei_no {H1 H' : Hp} {D : Addr} {es : List E} {e : E} (h : NeI H1 H' D es) (c : e.isEps = true) : NeI H1 H' D (es ++ [e]) := by
  obtain ⟨s, us, h1, h2⟩ := h
  exact ⟨s, us, h1, by rw [neE_snoc, if_pos c, List.append_nil]; exact h2⟩
theorem nei_yes {H1 H' : Hp} {D : Addr} {es : List E} {e : E} {us : List V} {v : V} (hD : H1 D = none) (s : Same H1 H') (h1 : H' D = some (.lst us)) (h2 : Two (Rep H') us ((neE es).map E.toD)) (c : ¬ e.isEps = true) (hR : Rep H' v e.toD) : NeI H1 (upd H' D (.lst (us ++ [v]))) D (es ++ [e]) := by
  have P1 : Pers H' (upd H' D (.lst (us ++ [v]))) := Pers.store h1
  refine ⟨fun b o hb => by rw [upd_ne (ne_of_none hb hD)]; exact s _ _ hb, _, upd_same, ?_⟩
  rw [neE_snoc, if_neg c, List.map_append]
  exact (h2.mono fun _ _ h => h.pers P1).app (.cons (hR.pers P1) .nil)
theorem neE_len (es : List E) : (neE es).length ≤ es.length := (neE_sub es).length_le
abbrev N_join_of : List Str := ["parts", "each"]
theorem sc_join_of : FnScope ["parts", "each"] ["parts"] (defScope s_join_of) := ⟨rfl, rfl, rfl, by decide +kernel, rfl, by decide +kernel, by decide +kernel⟩
theorem ok_joinof {f : Addr} {fd : FuncData} (B : Bt K mg a_BOUNDS a_LONG_BOUNDS tL tM) (Dd : Df K mg "join_of" s_join_of ["parts"] f fd) (Gopened_parts : Cl P w K mg base 2 "opened_parts" ["word", "parts"] spOpen) (Grow_of : Cl P w K mg base 1 "row_of" ["word", "parts"] spRowOf) : FnOk P w K mg base CX0 3 f fd ["parts"] spJoinOf := by
  refine Dd.F.ok sc_join_of (fun vs H Q Ex h => ?_) (fun cdv A outer s H vs Q Ex hr h => ?_)
  · obtain ⟨p, xs, es, rfl, _⟩ := h
    rfl
  obtain ⟨p, xs, es, rfl, hp, two, hok, hdd, hpt, q⟩ := h
  refine ⟨_, (pss_one (ps_ret (pe_cl Grow_of (hr.mono (by omega)) rfl (pa_cons pe_str (pa_cons (pe_lc (own := [("each", 1)]) (g := gName 1) rfl sc_join_of.nd (pi_list (pe_cl Gopened_parts (hr.mono (by omega)) rfl (pa_cons pe_str (pa_cons (pv 0) pa_nil)))) (blkOk_by (N := N_join_of) (sc := defScope s_join_of) (by decide +kernel)) (fun _ _ _ _ _ => pg_name (i := 1) sc_join_of.nd rfl (Or.inl rfl)) (fun _ _ _ _ _ => pts_one (pt_cmpR (r := rNeD K) (op_neD (u64 hr)) (pv 1) pe_str (nomark _))) (fun _ _ _ _ _ => (pv 1))) pa_nil))))), ?_⟩
  refine ⟨_, rfl, true, p, xs, es, rfl, hp, two, hok, hpt, fun q1 ys H1 s1 hq1 hq1l tw => ⟨q1, rfl, ⟨_, SqL.of hq1l⟩, fun D hD => ?_⟩⟩
  have oa := open_all (j := true) (es := es) (p := fun e => e.ok = true ∧ (dE e).depth ≤ 60) (fun e h k hk => ⟨ok_kids h.1 k hk, Nat.le_trans (dE_kids hk) h.2⟩) fun e he => ⟨hok e he, hdd e he⟩
  have ol := Nat.le_trans (open_len true es) hpt
  have yl := tw.len
  rw [List.length_map] at yl
  refine lc_list (K := K) (a := q1) (xs := ys) (fun i H' => NeI H1 H' D ((openE true es).take i)) ⟨same_upd hD, [], upd_same, .nil⟩ (fun i H' _ h => SqL.of (h.1 _ _ hq1l)) (fun i x H2 hx h => ?_) (fun H2 h => ?_)
  · obtain ⟨d, hd, hvd⟩ := tw.get hx
    rw [List.getElem?_map] at hd
    obtain ⟨e, he, rfl⟩ := Option.map_eq_some_iff.mp hd
    have heo := oa e (List.mem_of_getElem? he)
    have hvR := hvd.pers (Pers.same h.1)
    rw [take_snoc he]
    refine ⟨rfl, _, rfl, dE e, .str sNo, rep_dp e x hvR, .str _, dE_shaped heo.1 heo.2, no_shaped, _, rfl, ?_⟩
    rw [dE_no]
    refine ite2 (fun c => ?_) (fun c => ?_)
    · have c1 : ¬ e.isEps = true := fun h => by rw [decide_eq_true h] at c; cases c
      obtain ⟨s2, us, h1, h2⟩ := h
      have ul := h2.len
      rw [List.length_map] at ul
      have := neE_len ((openE true es).take i)
      rw [List.length_take] at this
      refine ⟨_, rfl, us, h1, Nat.lt_of_le_of_lt (m := 1000) (by omega) (by decide), fun b o hb => by rw [upd_ne (ne_of_none hb hD)]; exact s2 _ _ hb, ?_⟩
      exact (nei_yes hD s2 h1 h2 c1 hvR).2
    · have c1 : e.isEps = true := Classical.byContradiction fun h => c (by rw [decide_eq_false h]; rfl)
      exact nei_no h c1
  · obtain ⟨s2, us, h1, h2⟩ := h
    rw [yl, List.take_length] at h2
    have := neE_len (openE true es)
    exact ⟨true, D, us, _, rfl, h1, h2, by omega, fun u H3 s3 r3 => q u H3 (s1.trans (s2.trans s3)) r3⟩
theorem ded_dp {K : PySem.W.Frag} {H : Hp} {us : List V} {ks : List E} (h : Two (Rep H) us (ks.map E.toD)) : DpAll K H us (dE.dEs ks) := reps_dp ks us (by rw [toDs_eq]; exact h)
theorem dEs_any (d : PyData) : ∀ ks : List E, ((dE.dEs ks).any fun z => PyData.eqv z d) = ks.any fun k => PyData.eqv (dE k) d
  | [] => by rw [dE.dEs]; rfl
  | k :: ks => by rw [dE.dEs, List.any_cons, List.any_cons, dEs_any d ks]
theorem dEs_shaped {ks : List E} (h1 : ∀ e ∈ ks, e.ok = true) (h2 : ∀ e ∈ ks, (dE e).depth ≤ 60) : SeqAt.shaped (.list (dE.dEs ks)) = true := by
  have h3 := dEs_lay ks (by rw [List.all_eq_true]; exact h1)
  have h4 := dEs_le h2
  unfold SeqAt.shaped
  rw [PyData.canLay0, PyData.depth, h3, decide_eq_true (by omega)]
  rfl
abbrev N__simple_or : List Str := ["parts", "kept", "each", "others"]
theorem sc__simple_or : FnScope ["parts", "kept", "each", "others"] ["parts"] (defScope s__simple_or) := ⟨rfl, rfl, rfl, by decide +kernel, rfl, by decide +kernel, by decide +kernel⟩
theorem ok_simpor {f : Addr} {fd : FuncData} (B : Bt K mg a_BOUNDS a_LONG_BOUNDS tL tM) (Dd : Df K mg "_simple_or" s__simple_or ["parts"] f fd) (G_least : Cl P w K mg base 42 "_least" ["part"] (spLeast 42)) (Grow_of : Cl P w K mg base 1 "row_of" ["word", "parts"] spRowOf) : FnOk P w K mg base CX0 43 f fd ["parts"] spOrOf := by
  refine Dd.F.ok sc__simple_or (fun vs H Q Ex h => ?_) (fun cdv A outer s H vs Q Ex hr h => ?_)
  · obtain ⟨p, xs, es, rfl, _⟩ := h
    rfl
  obtain ⟨p, xs, es, rfl, hp, two, hok, hdd, hde, hl, q⟩ := h
  refine ⟨_, (pss_cons (ps_set (i := 1) sc__simple_or.nd rfl (Or.inl rfl) (pe_lst pa_nil))
    (pss_cons (ps_for PassesOwn.never rfl (pi_list (pv 0)) (pg_name (i := 2) sc__simple_or.nd rfl (Or.inl rfl)) (pss_one (ps_if (pt_cmpR (r := rNotInD K) (op_notInD hr.u65) (pv 2) (pv 1) rfl) (pss_one (ps_expr (pe_bm PySem.F.plainAttrs_list PySem.F.slot_list_append PySem.F.type_list_append mt_append (pv 1) (pa_cons (pv 2) pa_nil)))) pss_nil)))
    (pss_cons (ps_setLc (i := 3) (own := [("each", 2)]) (g := gName 2) rfl sc__simple_or.nd rfl rfl (sw_true rfl rfl rfl (by decide +kernel)) (pi_list (pv 1)) (blkOk_by (N := N__simple_or) (sc := defScope s__simple_or) (by decide +kernel)) (fun _ _ _ _ _ => pg_name (i := 2) sc__simple_or.nd rfl (Or.inl rfl)) (fun _ _ _ _ _ => pts_one (pt_cmpR (r := rNeD K) (op_neD (u64 hr)) (pv 2) pe_str (nomark _))) (fun _ _ _ _ _ => (pv 2)))
    (pss_cons (ps_if (pt_val (pe_callB (cr_any rfl) rfl B.b_any boot_any (pa_cons (pe_lc (own := [("each", 2)]) (g := gName 2) (tt := tYes) rfl sc__simple_or.nd (pi_list (pv 3)) (blkOk_by (N := N__simple_or) (sc := defScope s__simple_or) (by decide +kernel)) (fun _ _ _ _ _ => pg_name (i := 2) sc__simple_or.nd rfl (Or.inl rfl)) (fun _ _ _ _ _ => pts_nil) (fun _ _ _ _ _ => (pe_cmpR op_eq (pe_cl G_least (hr.mono (by omega)) rfl (pa_cons (pv 2) pa_nil)) pe_int (nomark _)))) pa_nil))) (pss_one (ps_ret (pe_cl Grow_of (hr.mono (by omega)) rfl (pa_cons pe_str (pa_cons (pv 3) pa_nil))))) pss_nil)
    (pss_one (ps_ret (pe_cl Grow_of (hr.mono (by omega)) rfl (pa_cons pe_str (pa_cons (pv 1) pa_nil))))))))), ?_⟩
  have xl : xs.length = es.length := by rw [two.len, List.length_map]
  refine ⟨Nat.zero_le _, fun L hL => ?_⟩
  have uL := same_upd (o := .lst []) hL
  have dsub : ∀ i, ((es.take i).foldl dedF []).Sublist es := fun i => (dedE_sub (es.take i)).trans (List.take_sublist i es)
  refine ⟨_, rfl, p, rfl, ⟨_, SqL.of (uL _ _ hp)⟩, for_list (K := K) (a := p) (xs := xs) (fun i σ' H' => ∃ (us : List V) (o2 : Option V), σ' = [some (.ref p), some (.ref L), o2, none] ∧ Same H H' ∧ H' L = some (.lst us) ∧ Two (Rep H') us (((es.take i).foldl dedF []).map E.toD)) ?_ ?_ ?_ ?_⟩
  · exact ⟨[], none, rfl, uL, upd_same, .nil⟩
  · rintro i σ' H' _ ⟨ys, o3, rfl, s1, _⟩
    exact SqL.of (s1 _ _ hp)
  · rintro i v σ' H1 hv ⟨us, o2, rfl, s1, hus, tw⟩
    obtain ⟨d, hd, hvd⟩ := two.get hv
    rw [List.getElem?_map] at hd
    obtain ⟨e, he, rfl⟩ := Option.map_eq_some_iff.mp hd
    have hem := List.mem_of_getElem? he
    have hvR := hvd.pers (Pers.same s1)
    rw [take_snoc he, List.foldl_append]
    show _
    refine ⟨_, rfl, _, rfl, dE e, dE.dEs ((es.take i).foldl dedF []), rep_dp e v hvR, .lst (SqL.of hus) (ded_dp tw), dE_shaped (hok e hem) (hdd e hem), dEs_shaped (fun x hx => hok x ((dsub i).subset hx)) (fun x hx => hdd x ((dsub i).subset hx)), _, rfl, ?_⟩
    rw [dEs_any]
    have ul := tw.len
    rw [List.length_map] at ul
    have := (dsub i).length_le
    refine ite2 (fun c => ?_) (fun c => ?_)
    · have c1 : ¬ (((es.take i).foldl dedF []).any fun k => PyData.eqv (dE k) (dE e)) = true := fun h => by rw [h] at c; cases c
      refine ⟨_, rfl, .inl ⟨rfl, _, SqL.of hus⟩, _, rfl, L, us, v, rfl, rfl, hus, Nat.lt_of_le_of_lt (m := 1000) (by omega) (by decide), ?_⟩
      have P1 : Pers H1 (upd H1 L (.lst (us ++ [v]))) := Pers.store hus
      refine ⟨us ++ [v], _, rfl, fun b o hb => by rw [upd_ne (ne_of_none hb hL)]; exact s1 _ _ hb, upd_same, ?_⟩
      rw [List.foldl_cons, List.foldl_nil, dedF, if_neg c1, List.map_append]
      exact (tw.mono fun _ _ h => h.pers P1).app (.cons (hvR.pers P1) .nil)
    · have c1 : (((es.take i).foldl dedF []).any fun k => PyData.eqv (dE k) (dE e)) = true := Classical.byContradiction fun h => c (by rw [Bool.eq_false_iff.mpr h]; rfl)
      refine ⟨us, _, rfl, s1, hus, ?_⟩
      rw [List.foldl_cons, List.foldl_nil, dedF, if_pos c1]
      exact tw
  · rintro σ' H1 ⟨us, o2, rfl, s1, hus, tw⟩
    rw [xl, List.take_length] at tw
    have kok : ∀ x ∈ dedE es, x.ok = true := fun x hx => hok x ((dedE_sub es).subset hx)
    have kdd : ∀ x ∈ dedE es, (dE x).depth ≤ 60 := fun x hx => hdd x ((dedE_sub es).subset hx)
    have kl := (dedE_sub es).length_le
    have tw : Two (Rep H1) us ((dedE es).map E.toD) := tw
    have ul := tw.len
    rw [List.length_map] at ul
    refine ⟨_, rfl, L, rfl, ⟨_, SqL.of hus⟩, fun D hD => ?_⟩
    refine lc_list (K := K) (a := L) (xs := us) (fun i H' => NeI H1 H' D ((dedE es).take i)) ⟨same_upd hD, [], upd_same, .nil⟩ (fun i H' _ h => SqL.of (h.1 _ _ hus)) (fun i x H2 hx h => ?_) (fun H2 h => ?_)
    · obtain ⟨d, hd, hvd⟩ := tw.get hx
      rw [List.getElem?_map] at hd
      obtain ⟨e, he, rfl⟩ := Option.map_eq_some_iff.mp hd
      have hem := List.mem_of_getElem? he
      have hvR := hvd.pers (Pers.same h.1)
      rw [take_snoc he]
      refine ⟨rfl, _, rfl, dE e, .str sNo, rep_dp e x hvR, .str _, dE_shaped (kok e hem) (kdd e hem), no_shaped, _, rfl, ?_⟩
      rw [dE_no]
      refine ite2 (fun c => ?_) (fun c => ?_)
      · have c1 : ¬ e.isEps = true := fun h => by rw [decide_eq_true h] at c; cases c
        obtain ⟨s2, ws, h1, h2⟩ := h
        have wl := h2.len
        rw [List.length_map] at wl
        have := neE_len ((dedE es).take i)
        rw [List.length_take] at this
        refine ⟨_, rfl, ws, h1, Nat.lt_of_le_of_lt (m := 1000) (by omega) (by decide), fun b o hb => by rw [upd_ne (ne_of_none hb hD)]; exact s2 _ _ hb, ?_⟩
        exact (nei_yes hD s2 h1 h2 c1 hvR).2
      · have c1 : e.isEps = true := Classical.byContradiction fun h => c (by rw [decide_eq_false h]; rfl)
        exact nei_no h c1
    obtain ⟨s2, ws, h1, h2⟩ := h
    rw [ul, List.take_length] at h2
    have nl := neE_len (dedE es)
    have wl := h2.len
    rw [List.length_map] at wl
    have nsub : ∀ x ∈ neE (dedE es), x ∈ es := fun x hx => (dedE_sub es).subset ((neE_sub _).subset hx)
    refine ⟨_, rfl, D, rfl, ⟨_, SqL.of h1⟩, fun D2 hD2 => ?_⟩
    refine lc_list (K := K) (a := D) (xs := ws) (fun i H' => Same H2 H' ∧ H' D2 = some (.lst ((((neE (dedE es)).take i).map fun e => decide (e.least = 0)).map V.bl))) ⟨same_upd hD2, upd_same⟩ (fun i H' _ h => SqL.of (h.1 _ _ h1)) (fun i x H3 hx h => ?_) (fun H3 h => ?_)
    · obtain ⟨s3, hbs⟩ := h
      obtain ⟨d, hd, hvd⟩ := h2.get hx
      rw [List.getElem?_map] at hd
      obtain ⟨e, he, rfl⟩ := Option.map_eq_some_iff.mp hd
      have hem := nsub e (List.mem_of_getElem? he)
      rw [take_snoc he]
      refine ⟨rfl, tyes ⟨_, rfl, x, e, rfl, hok e hem, hde e hem, hvd.pers (Pers.same s3), fun H4 s4 => ⟨rfl, _, s4 _ _ hbs, ?_, fun b o hb => ?_, ?_⟩⟩⟩
      · rw [List.length_map, List.length_map, List.length_take]
        exact Nat.lt_of_le_of_lt (m := 1000) (by omega) (by decide)
      · rw [upd_ne (ne_of_none hb hD2)]
        exact s4 _ _ (s3 _ _ hb)
      · rw [upd_same, List.map_append, List.map_append, show decide (V.int (e.least : Int) = V.int 0) = decide (e.least = 0) from decide_eq_decide.mpr ⟨fun h => by have := V.int.inj h; omega, fun h => by rw [h]; rfl⟩]
        rfl
    obtain ⟨s3, hbs⟩ := h
    rw [wl, List.take_length] at hbs
    refine ⟨D2, _, rfl, SqL.of hbs, _, rfl, ?_⟩
    rw [show (((neE (dedE es)).map fun e => decide (e.least = 0)).any id) = ((neE (dedE es)).any fun e => decide (e.least = 0)) from by rw [List.any_map]; rfl]
    have S3 := s1.trans (s2.trans s3)
    have q : ∀ u H', Same H H' → Rep H' u (if ((neE (dedE es)).any fun e => decide (e.least = 0)) then rowS false (neE (dedE es)) else rowS false (dedE es)).toD → Q u H' := q
    cases hany : (neE (dedE es)).any fun e => decide (e.least = 0) with
    | true =>
      rw [hany] at q
      exact iteT ⟨_, rfl, false, D, ws, neE (dedE es), rfl, s3 _ _ h1, h2.mono fun _ _ h => h.pers (Pers.same s3), by omega, fun u H4 s4 r4 => q u H4 (S3.trans s4) r4⟩
    | false =>
      rw [hany] at q
      exact iteF ⟨_, rfl, false, L, us, dedE es, rfl, (s2.trans s3) _ _ hus, tw.mono fun _ _ h => h.pers (Pers.same (s2.trans s3)), by omega, fun u H4 s4 r4 => q u H4 (S3.trans s4) r4⟩
abbrev N__simple_maybe : List Str := ["part"]
theorem sc__simple_maybe : FnScope ["part"] ["part"] (defScope s__simple_maybe) := ⟨rfl, rfl, rfl, by decide +kernel, rfl, by decide +kernel, by decide +kernel⟩
theorem ok_simpmaybe {f : Addr} {fd : FuncData} (B : Bt K mg a_BOUNDS a_LONG_BOUNDS tL tM) (Dd : Df K mg "_simple_maybe" s__simple_maybe ["part"] f fd) (G_least : Cl P w K mg base 42 "_least" ["part"] (spLeast 42)) : FnOk P w K mg base CX0 43 f fd ["part"] spMaybeS := by
  refine Dd.F.ok sc__simple_maybe (fun vs H Q Ex h => ?_) (fun cdv A outer s H vs Q Ex hr h => ?_)
  · obtain ⟨v, e, rfl, _⟩ := h
    rfl
  obtain ⟨v, e, rfl, hok, hd, hR, q⟩ := h
  refine ⟨_, (pss_cons (ps_if (pt_cmpR op_eq (pe_cl G_least (hr.mono (by omega)) rfl (pa_cons (pv 0) pa_nil)) pe_int (nomark _)) (pss_one (ps_ret (pv 0))) pss_nil)
    (pss_one (ps_ret (pe_tup (pa_cons pe_str (pa_cons (pv 0) pa_nil)))))), ?_⟩
  refine ⟨_, rfl, v, e, rfl, hok, hd, hR, fun H1 s1 => ⟨rfl, _, rfl, ite2 (fun c => ?_) (fun c => ?_)⟩⟩
  · have c : e.least = 0 := by have := V.int.inj (of_decide_eq_true c); omega
    refine ⟨_, rfl, q _ H1 s1 ?_⟩
    rw [maybeS, if_pos c]
    exact hR.pers (Pers.same s1)
  · have c : ¬ e.least = 0 := fun h => c (decide_eq_true (by rw [h]; rfl))
    refine ⟨_, rfl, by show 2 ≤ sizeLine; decide, fun p hp => q _ _ (s1.trans (same_upd hp)) ?_⟩
    rw [maybeS, if_neg c, E.toD]
    exact rep_node upd_same (by decide +kernel) ((hR.pers (Pers.same s1)).pers (Pers.new hp))
abbrev N__simple_many : List Str := ["part"]
theorem sc__simple_many : FnScope ["part"] ["part"] (defScope s__simple_many) := ⟨rfl, rfl, rfl, by decide +kernel, rfl, by decide +kernel, by decide +kernel⟩
theorem ok_simpmany {f : Addr} {fd : FuncData} (B : Bt K mg a_BOUNDS a_LONG_BOUNDS tL tM) (Dd : Df K mg "_simple_many" s__simple_many ["part"] f fd) (G_has_word : Cl P w K mg base 1 "_has_word" ["part", "word"] spHas) : FnOk P w K mg base CX0 2 f fd ["part"] spManyS := by
  refine Dd.F.ok sc__simple_many (fun vs H Q Ex h => ?_) (fun cdv A outer s H vs Q Ex hr h => ?_)
  · obtain ⟨v, e, rfl, _⟩ := h
    rfl
  obtain ⟨v, e, rfl, hok, hd, hR, q⟩ := h
  refine ⟨_, (pss_cons (ps_if (pt_cmpR (r := rEqD K) (op_eqD (u64 hr)) (pv 0) pe_str (nomark _)) (pss_one (ps_ret (pv 0))) pss_nil)
    (pss_cons (ps_if (PW.pt (pw_or (pt_val (pe_cl G_has_word (hr.mono (by omega)) rfl (pa_cons (pv 0) (pa_cons pe_str pa_nil)))) (pw_or1 (pt_val (pe_cl G_has_word (hr.mono (by omega)) rfl (pa_cons (pv 0) (pa_cons pe_str pa_nil))))))) (pss_one (ps_ret (pe_tup (pa_cons pe_str (pa_cons (pe_ix (r := rIxT K) ix_tup (pv 0) pe_int (fun _ _ => rfl)) pa_nil))))) pss_nil)
    (pss_one (ps_ret (pe_tup (pa_cons pe_str (pa_cons (pv 0) pa_nil))))))), ?_⟩
  refine ⟨_, rfl, dE e, .str sNo, rep_dp e v hR, .str _, dE_shaped hok hd, no_shaped, _, rfl, ?_⟩
  rw [dE_no]
  refine ite2 (fun c => ?_) (fun c => ?_)
  · have c1 : e.isEps = true := of_decide_eq_true c
    cases e with
    | eps => exact ⟨_, rfl, q _ H (Same.refl H) hR⟩
    | _ => cases c1
  have c1 : ¬ e.isEps = true := fun h => c (decide_eq_true h)
  refine ⟨_, rfl, v, e, sMaybe, rfl, hok, hR, _, rfl, ite2 (fun c2 => ?_) (fun c2 => ?_)⟩
  · have c2 := of_decide_eq_true c2
    cases e with
    | maybe x =>
      rw [E.toD] at hR
      obtain ⟨p0, y, rfl, a1, a2⟩ := unpair hR
      refine ⟨_, rfl, p0, _, 1, _, rfl, rfl, SqT.of a1, at_of (j := 1) rfl rfl, by show 2 ≤ sizeLine; decide, fun p2 hp2 => q _ _ (same_upd hp2) ?_⟩
      show Rep _ _ (E.toD (.many x))
      rw [E.toD]
      exact rep_node upd_same (by decide +kernel) (a2.pers (Pers.new hp2))
    | eps => cases c2
    | sym _ => cases c2
    | many _ => exact absurd (Option.some.inj c2) (by decide +kernel)
    | join _ => exact absurd (Option.some.inj c2) (by decide +kernel)
    | alt _ => exact absurd (Option.some.inj c2) (by decide +kernel)
  refine ⟨_, rfl, v, e, sMany, rfl, hok, hR, _, rfl, ite2 (fun c3 => ?_) (fun c3 => ?_)⟩
  · have c3 := of_decide_eq_true c3
    cases e with
    | many x =>
      rw [E.toD] at hR
      obtain ⟨p0, y, rfl, a1, a2⟩ := unpair hR
      refine ⟨_, rfl, p0, _, 1, _, rfl, rfl, SqT.of a1, at_of (j := 1) rfl rfl, by show 2 ≤ sizeLine; decide, fun p2 hp2 => q _ _ (same_upd hp2) ?_⟩
      show Rep _ _ (E.toD (.many x))
      rw [E.toD]
      exact rep_node upd_same (by decide +kernel) (a2.pers (Pers.new hp2))
    | eps => cases c3
    | sym _ => cases c3
    | maybe _ => exact absurd (Option.some.inj c3) (by decide +kernel)
    | join _ => exact absurd (Option.some.inj c3) (by decide +kernel)
    | alt _ => exact absurd (Option.some.inj c3) (by decide +kernel)
  have hm : manyS e = .many e := by
    cases e with
    | maybe x => exact absurd (decide_eq_true rfl) c2
    | many x => exact absurd (decide_eq_true rfl) c3
    | eps => exact absurd rfl c1
    | _ => rfl
  refine ⟨_, rfl, by show 2 ≤ sizeLine; decide, fun p2 hp2 => q _ _ (same_upd hp2) ?_⟩
  rw [hm, E.toD]
  exact rep_node upd_same (by decide +kernel) (hR.pers (Pers.new hp2))
abbrev N__simple : List Str := ["part", "word", "inner", "parts", "each"]
theorem sc__simple : FnScope ["part", "word", "inner", "parts", "each"] ["part"] (defScope s__simple) := ⟨rfl, rfl, rfl, by decide +kernel, rfl, by decide +kernel, by decide +kernel⟩
theorem ok_simp_step {f : Addr} {fd : FuncData} (B : Bt K mg a_BOUNDS a_LONG_BOUNDS tL tM) (Dd : Df K mg "_simple" s__simple ["part"] f fd) (Gopened_parts : Cl P w K mg base 2 "opened_parts" ["word", "parts"] spOpen) (Gjoin_of : Cl P w K mg base 3 "join_of" ["parts"] spJoinOf) (G_simple_or : Cl P w K mg base 43 "_simple_or" ["parts"] spOrOf) (G_simple_maybe : Cl P w K mg base 43 "_simple_maybe" ["part"] spMaybeS) (G_simple_many : Cl P w K mg base 2 "_simple_many" ["part"] spManyS) (n : Nat) (G_simple : Cl P w K mg base (n + 43) "_simple" ["part"] (spSimp n)) : FnOk P w K mg base CX0 (n + 44) f fd ["part"] (spSimp (n + 1)) := by
  refine Dd.F.ok sc__simple (fun vs H Q Ex h => ?_) (fun cdv A outer s H vs Q Ex hr h => ?_)
  · obtain ⟨v, e, rfl, _⟩ := h
    rfl
  obtain ⟨v, e, rfl, hok, hd, hn, hdd, hpt, hR, q⟩ := h
  refine ⟨_, (pss_cons (ps_if (pt_val (pe_callB call_isi rfl B.b_isinstance boot_isinstance (pa_cons (pv 0) (pa_cons (pe_bltn (v := .ty "str") rfl B.b_str boot_str rfl) pa_nil)))) (pss_one (ps_ret (pv 0))) pss_nil)
    (pss_cons (ps_asg (pv 0) (pg_tup rfl (pgs_cons (pg_name (i := 1) sc__simple.nd rfl (Or.inl rfl)) (pgs_cons (pg_name (i := 2) sc__simple.nd rfl (Or.inl rfl)) pgs_nil))))
    (pss_cons (ps_if (pt_cmpR op_eq (pv 1) pe_str (nomark _)) (pss_one (ps_ret (pe_cl G_simple_maybe (hr.mono (by omega)) rfl (pa_cons (pe_cl G_simple (hr.mono (by omega)) rfl (pa_cons (pv 2) pa_nil)) pa_nil)))) pss_nil)
    (pss_cons (ps_if (pt_cmpR op_eq (pv 1) pe_str (nomark _)) (pss_one (ps_ret (pe_cl G_simple_many (hr.mono (by omega)) rfl (pa_cons (pe_cl G_simple (hr.mono (by omega)) rfl (pa_cons (pv 2) pa_nil)) pa_nil)))) pss_nil)
    (pss_cons (ps_setLc (i := 3) (own := [("each", 4)]) (g := gName 4) (tt := tYes) rfl sc__simple.nd rfl rfl (sw_true rfl rfl rfl (by decide +kernel)) (pi_tup (pv 2)) (blkOk_by (N := N__simple) (sc := defScope s__simple) (by decide +kernel)) (fun _ _ _ _ _ => pg_name (i := 4) sc__simple.nd rfl (Or.inl rfl)) (fun _ _ _ _ _ => pts_nil) (fun _ _ _ _ _ => (pe_cl G_simple (hr.mono (by omega)) rfl (pa_cons (pv 4) pa_nil))))
    (pss_cons (ps_if (pt_cmpR op_eq (pv 1) pe_str (nomark _)) (pss_one (ps_ret (pe_cl Gjoin_of (hr.mono (by omega)) rfl (pa_cons (pv 3) pa_nil)))) pss_nil)
    (pss_one (ps_ret (pe_cl G_simple_or (hr.mono (by omega)) rfl (pa_cons (pe_cl Gopened_parts (hr.mono (by omega)) rfl (pa_cons pe_str (pa_cons (pv 3) pa_nil))) pa_nil)))))))))), ?_⟩
  obtain ⟨t, ht, k1, _⟩ := hR.ty (K := K)
  refine ⟨_, rfl, _, _, _, _, _, rfl, .ty _, ht, k1, _, rfl, ite2 (fun e1 => ?_) (fun e1 => ?_)⟩
  · have : simpE e = e := by
      obtain ⟨z, _, _, ⟨rfl, _⟩ | ⟨c, rfl, _⟩⟩ := str_cases hR e1 <;> rfl
    rw [this] at q
    exact ⟨_, rfl, q _ H (Same.refl H) hR⟩
  obtain ⟨w, y, p0, x0, hlw, rfl, hp0, hx0, hk⟩ := node_of hok hR e1
  refine ⟨_, rfl, p0, _, rfl, SqT.of hp0, rfl, _, _, rfl, _, _, rfl, rfl, ?_⟩
  have sme := simp_sm e hok
  refine ⟨_, rfl, rfl, _, rfl, ite2 (fun e2 => ?_) (fun e2 => ?_)⟩
  · have hw := vstr e2
    rcases hk with (⟨h, k, rfl, rfl⟩ | ⟨h, k, rfl, rfl⟩) | ⟨h, es, rfl, hes, rfl⟩ | ⟨h, es, rfl, _, rfl⟩
    · rw [E.ok] at hok
      have sk := simp_sm k hok
      rw [E.depth] at hd
      rw [E.parts] at hpt
      rw [dd_maybe] at hdd
      have h1 := sk.dep
      refine ⟨_, rfl, x0, k, rfl, hok, by omega, by omega, by omega, by omega, hx0, fun u H1 s1 r1 => ⟨u, simpE k, rfl, sk.ok, by omega, r1, fun u2 H2 s2 r2 => q u2 H2 (s1.trans s2) ?_⟩⟩
      rw [simpE]
      exact r2
    · exact absurd (hw.symm.trans h) mn
    · exact absurd (h.symm.trans hw) jm
    · exact absurd (h.symm.trans hw) om
  refine ⟨_, rfl, rfl, _, rfl, ite2 (fun e3 => ?_) (fun e3 => ?_)⟩
  · have hw := vstr e3
    rcases hk with (⟨h, k, rfl, rfl⟩ | ⟨h, k, rfl, rfl⟩) | ⟨h, es, rfl, hes, rfl⟩ | ⟨h, es, rfl, _, rfl⟩
    · exact absurd (h.symm.trans hw) mn
    · rw [E.ok] at hok
      have sk := simp_sm k hok
      rw [E.depth] at hd
      rw [E.parts] at hpt
      rw [dd_many] at hdd
      have h1 := sk.dd
      refine ⟨_, rfl, x0, k, rfl, hok, by omega, by omega, by omega, by omega, hx0, fun u H1 s1 r1 => ⟨u, simpE k, rfl, sk.ok, by omega, r1, fun u2 H2 s2 r2 => q u2 H2 (s1.trans s2) ?_⟩⟩
      rw [simpE]
      exact r2
    · exact absurd (h.symm.trans hw) jn
    · exact absurd (h.symm.trans hw) on
  obtain ⟨es, hes, hy, hj⟩ : ∃ es, e.kids = es ∧ y = .tup (es.map E.toD) ∧ ((w = sJoin ∧ simpE e = joinS (es.map simpE)) ∨ (w = sOr ∧ simpE e = orS (openE false (es.map simpE)))) := by
    rcases hk with (⟨h, k, rfl, rfl⟩ | ⟨h, k, rfl, rfl⟩) | ⟨h, es, rfl, hes, rfl⟩ | ⟨h, es, rfl, _, rfl⟩
    · exact absurd h (vstrN e2)
    · exact absurd h (vstrN e3)
    · exact ⟨es, rfl, rfl, .inl ⟨h, by rw [simpE, simps_eq]⟩⟩
    · exact ⟨es, rfl, rfl, .inr ⟨h, by rw [simpE, simps_eq]⟩⟩
  rw [hy] at hx0
  obtain ⟨p1, xs, rfl, hp1, _, hX⟩ := hx0.untup
  have hxl : xs.length = es.length := by rw [hX.len, List.length_map]
  have kok : ∀ k ∈ es, k.ok = true := fun k hk => ok_kids hok k (by rw [hes]; exact hk)
  have ksm : ∀ k ∈ es, Sm k (simpE k) := fun k hk => simp_sm k (kok k hk)
  have kdep : ∀ k ∈ es, k.depth + 1 ≤ e.depth := fun k hk => depth_kids e k (by rw [hes]; exact hk)
  have kdd : ∀ k ∈ es, (dE k).depth ≤ 60 := fun k hk => Nat.le_trans (dE_kids (by rw [hes]; exact hk)) hdd
  have psum : ((es.map simpE).map E.parts).sum ≤ 400 := by
    have h1 := parts_kids e
    rw [hes] at h1
    have : ∀ l : List E, (∀ k ∈ l, Sm k (simpE k)) → ((l.map simpE).map E.parts).sum ≤ (l.map E.parts).sum := fun l => by
      induction l with
      | nil => intro _; exact Nat.le_refl _
      | cons k l ih =>
        intro hl
        have a1 := (hl k List.mem_cons_self).pts
        have a2 := ih fun x hx => hl x (List.mem_cons_of_mem _ hx)
        rw [List.map_cons, List.map_cons, List.sum_cons, List.map_cons, List.sum_cons]
        omega
    have := this es ksm
    omega
  have pl := parts_len (es := es)
  have el : es.length ≤ 400 := by
    have h1 := parts_kids e
    rw [hes] at h1
    omega
  refine ⟨_, rfl, p1, rfl, ⟨_, SqT.of hp1⟩, fun L hL => ?_⟩
  refine lc_tup (K := K) (a := p1) (xs := xs) (fun i H2 => Same H H2 ∧ ∃ zs : List V, H2 L = some (.lst zs) ∧ Two (Rep H2) zs (((es.map simpE).take i).map E.toD)) ⟨same_upd hL, [], upd_same, by rw [List.take_zero]; exact .nil⟩ (fun i H2 _ h => SqT.of (h.1 _ _ hp1)) (fun i x H2 hx h => ?_) (fun H2 h => ?_)
  · obtain ⟨s2, zs, h1, h2⟩ := h
    obtain ⟨d, hd1, hxd⟩ := hX.get hx
    rw [List.getElem?_map] at hd1
    obtain ⟨k, hk2, rfl⟩ := Option.map_eq_some_iff.mp hd1
    have hmem := List.mem_of_getElem? hk2
    have hkd := kdep k hmem
    have hzl := h2.len
    rw [List.length_map, List.length_take] at hzl
    have hkp := (kid_parts (e := e) (k := k) (by rw [hes]; exact hmem)).1
    refine ⟨rfl, tyes ⟨_, rfl, x, k, rfl, kok k hmem, by omega, by omega, kdd k hmem, by omega, hxd.pers (Pers.same s2), fun u H3 s3 r3 => ⟨zs, s3 _ _ h1, ?_, ?_, zs ++ [u], upd_same, ?_⟩⟩⟩
    · have : i < xs.length := (List.getElem?_eq_some_iff.mp hx).1
      exact Nat.lt_of_le_of_lt (m := 400) (by omega) (by decide)
    · exact fun b o hb => by rw [upd_ne (ne_of_none hb hL)]; exact s3 _ _ (s2 _ _ hb)
    · have hm : (es.map simpE)[i]? = some (simpE k) := by rw [List.getElem?_map, hk2]; rfl
      have P3 : Pers H3 (upd H3 L (.lst (zs ++ [u]))) := Pers.store (s3 _ _ h1)
      rw [take_snoc hm, List.map_append]
      exact (h2.mono fun _ _ => Rep.pers ((Pers.same s3).trans P3)).app (.cons (r3.pers P3) .nil)
  obtain ⟨s2, zs, h1, h2⟩ := h
  have el2 : xs.length = (es.map simpE).length := by rw [List.length_map, hxl]
  rw [el2, List.take_length] at h2
  have sok : ∀ x ∈ es.map simpE, x.ok = true ∧ (dE x).depth ≤ 60 ∧ x.depth < 42 := fun x hx => by
    obtain ⟨k, hk, rfl⟩ := List.mem_map.mp hx
    have a1 := (ksm k hk).dep
    have a2 := kdep k hk
    exact ⟨(ksm k hk).ok, Nat.le_trans (ksm k hk).dd (kdd k hk), by omega⟩
  refine ⟨_, rfl, rfl, _, rfl, ite2 (fun e4 => ?_) (fun e4 => ?_)⟩
  · have hw := vstr e4
    rcases hj with ⟨h, hj⟩ | ⟨h, hj⟩
    · rw [hj] at q
      exact ⟨_, rfl, L, zs, es.map simpE, rfl, h1, h2, fun x hx => (sok x hx).1, fun x hx => (sok x hx).2.1, by omega, fun u H3 s3 r3 => q u H3 (s2.trans s3) r3⟩
    · exact absurd (h.symm.trans hw) (by decide +kernel)
  · rcases hj with ⟨h, hj⟩ | ⟨h, hj⟩
    · exact absurd h (vstrN e4)
    · rw [hj] at q
      have oa := open_all (j := false) (es := es.map simpE) (p := fun x => x.ok = true ∧ (dE x).depth ≤ 60 ∧ x.depth < 42) (fun x hx k hk => ⟨ok_kids hx.1 k hk, Nat.le_trans (dE_kids hk) hx.2.1, by have := depth_kids x k hk; omega⟩) sok
      have ol := open_len false (es.map simpE)
      exact ⟨_, rfl, false, L, zs, es.map simpE, rfl, h1, h2, (fun x hx => (sok x hx).1), by omega, fun q1 ys H3 s3 hq1 hq1l tw => ⟨q1, ys, _, rfl, hq1l, tw, fun x hx => (oa x hx).1, fun x hx => (oa x hx).2.1, fun x hx => (oa x hx).2.2, by omega, fun u H4 s4 r4 => q u H4 (s2.trans (s3.trans s4)) r4⟩⟩
def spSimple : Sp := fun vs H Q _ => ∃ (v : V) (e : E), vs = [v] ∧ Eok e ∧ (dE e).depth ≤ 60 ∧ Rep H v e.toD ∧ ∀ u H', Same H H' → Rep H' u (simpE e).toD → Q u H'
abbrev N_simple : List Str := ["expression"]
theorem sc_simple : FnScope ["expression"] ["expression"] (defScope s_simple) := ⟨rfl, rfl, rfl, by decide +kernel, rfl, by decide +kernel, by decide +kernel⟩
theorem ok_simple {f : Addr} {fd : FuncData} (B : Bt K mg a_BOUNDS a_LONG_BOUNDS tL tM) (Dd : Df K mg "simple" s_simple ["expression"] f fd) (Gcheck_long : Cl P w K mg base 6 "check_long" ["value"] spCheck) (G_simple : Cl P w K mg base 84 "_simple" ["part"] (spSimp 41)) : FnOk P w K mg base CX0 88 f fd ["expression"] spSimple := by
  refine Dd.F.ok sc_simple (fun vs H Q Ex h => ?_) (fun cdv A outer s H vs Q Ex hr h => ?_)
  · obtain ⟨v, e, rfl, _⟩ := h
    rfl
  obtain ⟨v, e, rfl, hE, hdd, hR, q⟩ := h
  refine ⟨_, (pss_cons (ps_expr (pe_cl Gcheck_long (hr.mono (by omega)) rfl (pa_cons (pv 0) pa_nil)))
    (pss_one (ps_ret (pe_cl G_simple (hr.mono (by omega)) rfl (pa_cons (pv 0) pa_nil))))), ?_⟩
  exact ⟨_, rfl, v, _, rfl, hR, fl_toD e, hE.sz, long_top hE, fun H1 s1 => ⟨_, rfl, v, e, rfl, hE.ok, Nat.lt_succ_of_le hE.dep, Nat.le_refl _, hdd, Nat.le_trans hE.pt (by decide), hR.pers (Pers.same s1), fun u H2 s2 r2 => q u H2 (s1.trans s2) r2⟩⟩
end
end My
namespace My
open PySem PySem.Spec PyProof.Rows L2
def XpE (CE : Addr) (H : Hp) (Ex : XK) (nm : Str) : Prop := ∀ d H1, Same H H1 → H1 d = none → Ex (.ref CE) (some d) (upd H1 d (.xd [(("name" : Str), .str nm)]))
theorem XpE.mono {CE : Addr} {H H' : Hp} {Ex : XK} {nm : Str} (h : XpE CE H Ex nm) (s : Same H H') : XpE CE H' Ex nm := fun d H1 s1 hd => h d H1 (s.trans s1) hd
def BndL : Bnd := (40, 40, 200)
def spChkX (CE : Addr) : Sp := fun vs H Q Ex => ∃ (v : V) (d : My.D), vs = [v] ∧ Rep H v d ∧ Fl d ∧ d.size ≤ 1000000 ∧ ((sizesOf BndL d).isSome = true → ∀ H', Same H H' → Q .non H') ∧ ((sizesOf BndL d).isSome = false → XpE CE H Ex "expression")
def spChkWX (CE : Addr) : Sp := fun vs H Q Ex => ∃ (v : V) (d : My.D), vs = [v] ∧ Rep H v d ∧ (isWord d = true → ∀ H', Same H H' → Q .non H') ∧ (isWord d = false → XpE CE H Ex "word")
/-- wrong first arguments -/
def spB1 (CE : Addr) : Sp := fun vs H _ Ex => ∃ (v : V) (d : My.D), vs = [v] ∧ Rep H v d ∧ Fl d ∧ d.size ≤ 1000000 ∧ (sizesOf BndL d).isSome = false ∧ XpE CE H Ex "expression"
/-- wrong first arguments, or wrong words -/
def BadW (CE : Addr) (v u : V) (H : Hp) (Ex : XK) : Prop := ∃ (d : My.D), Rep H v d ∧ Fl d ∧ d.size ≤ 1000000 ∧ (((sizesOf BndL d).isSome = false ∧ XpE CE H Ex "expression") ∨ ((sizesOf BndL d).isSome = true ∧ ∃ d2, Rep H u d2 ∧ isWord d2 = false ∧ XpE CE H Ex "word"))
def spB2 (CE : Addr) : Sp := fun vs H _ Ex => ∃ (v u : V), vs = [v, u] ∧ BadW CE v u H Ex
def spB3 (CE : Addr) : Sp := fun vs H _ Ex => ∃ (v u x : V), vs = [v, u, x] ∧ BadW CE v u H Ex
section
variable {P : Program} {w : World} {K : PySem.W.Frag} {mg : Str → Option Value} {base : Heap} {a_BOUNDS a_LONG_BOUNDS : Addr} {tL tM : Tok} {CE fI : Addr}
theorem ok_chklongX {f : Addr} {fd : FuncData} (B : Bt K mg a_BOUNDS a_LONG_BOUNDS tL tM) (Dd : Df K mg "check_long" s_check_long ["value"] f fd) (TBadValue : ExBadValue.Txt K mg CE fI) (PBadValue : ExBadValue.Prg P) (Gis_long : Cl P w K mg base 5 "is_long" ["value"] (spIs (40, 40, 200))) : FnOk P w K mg base (L2.CX P w) 6 f fd ["value"] (spChkX CE) := by
  refine Dd.F.okX sc_check_long (fun vs H Q Ex h => ?_) (fun cdv A outer s H vs Q Ex hr h => ?_)
  · obtain ⟨v, d, rfl, _⟩ := h
    rfl
  obtain ⟨v, d, rfl, hR, hF, hz, q, qe⟩ := h
  refine ⟨_, (pss_one (ps_if (pt_not (pt_val (pe_cl Gis_long (hr.mono (by omega)) rfl (pa_cons (pv 0) pa_nil)))) (pss_one (ps_raise rfl (takes_of rfl rfl rfl rfl) (pmkBadValue TBadValue PBadValue hr (pa_cons pe_str pa_nil)))) pss_nil)), ?_⟩
  refine ⟨_, rfl, v, d, rfl, hR, hF, hz, fun H1 s1 => ⟨_, rfl, ?_⟩⟩
  cases hc : (sizesOf (40, 40, 200) d).isSome with
  | true => exact iteF (q hc H1 s1)
  | false => exact iteT ⟨_, rfl, by decide, fun d1 hd => qe hc d1 H1 s1 hd⟩
theorem ok_chkwordX {f : Addr} {fd : FuncData} (B : Bt K mg a_BOUNDS a_LONG_BOUNDS tL tM) (Dd : Df K mg "check_word" s_check_word ["value"] f fd) (TBadValue : ExBadValue.Txt K mg CE fI) (PBadValue : ExBadValue.Prg P) (Gis_word : Cl P w K mg base 2 "is_word" ["value"] spIsWord) : FnOk P w K mg base (L2.CX P w) 3 f fd ["value"] (spChkWX CE) := by
  refine Dd.F.okX sc_check_word (fun vs H Q Ex h => ?_) (fun cdv A outer s H vs Q Ex hr h => ?_)
  · obtain ⟨v, d, rfl, _⟩ := h
    rfl
  obtain ⟨v, d, rfl, hR, q, qe⟩ := h
  refine ⟨_, (pss_one (ps_if (pt_not (pt_val (pe_cl Gis_word (hr.mono (by omega)) rfl (pa_cons (pv 0) pa_nil)))) (pss_one (ps_raise rfl (takes_of rfl rfl rfl rfl) (pmkBadValue TBadValue PBadValue hr (pa_cons pe_str pa_nil)))) pss_nil)), ?_⟩
  refine ⟨_, rfl, v, d, rfl, hR, fun H1 s1 => ⟨_, rfl, ?_⟩⟩
  cases hc : isWord d with
  | true => exact iteF (q hc H1 s1)
  | false => exact iteT ⟨_, rfl, by decide, fun d1 hd => qe hc d1 H1 s1 hd⟩
end
end My
namespace My
open PySem PySem.Spec PyProof.Rows L2
/-! ### refusals -/
def spA1 (CE : Addr) : Sp := fun vs H Q Ex => ∃ (v : V) (d : My.D), vs = [v] ∧ Rep H v d ∧ Fl d ∧ d.size ≤ 1000000 ∧ (((sizesOf BndL d).isSome = false ∧ XpE CE H Ex "expression") ∨ ∃ e, Eok e ∧ (dE e).depth ≤ 60 ∧ d = e.toD ∧ ∀ x H', Same H H' → Q x H')
def GoodW (v u : V) (H : Hp) (Q : VK) : Prop := ∃ (e : E) (z : Str), Eok e ∧ Rep H v e.toD ∧ u = .str z ∧ z.length ≤ 24 ∧ LetW z ∧ ∀ x H', Same H H' → Q x H'
def spA2 (CE : Addr) : Sp := fun vs H Q Ex => ∃ (v u : V), vs = [v, u] ∧ (BadW CE v u H Ex ∨ GoodW v u H Q)
def isOrdD : My.D → Bool
  | .str z => decide (z.length = 4) && (((Str.ofString "abcd").cps.toList.map fun c => decide (c ∈ z.cps.toList)).all id)
  | _ => false
def BadO (CE : Addr) (v u : V) (H : Hp) (Ex : XK) : Prop := ∃ (d : My.D), Rep H v d ∧ Fl d ∧ d.size ≤ 1000000 ∧ (((sizesOf BndL d).isSome = false ∧ XpE CE H Ex "expression") ∨ ((sizesOf BndL d).isSome = true ∧ ∃ d2, Rep H u d2 ∧ isOrdD d2 = false ∧ XpE CE H Ex "order"))
def GoodO (v u : V) (H : Hp) (Q : VK) : Prop := ∃ (e : E) (z : Str), Eok e ∧ (dE e).depth ≤ 60 ∧ Rep H v e.toD ∧ u = .str z ∧ Ord z ∧ ∀ x H', Same H H' → Q x H'
def spBO (CE : Addr) : Sp := fun vs H _ Ex => ∃ (v u : V), vs = [v, u] ∧ BadO CE v u H Ex
def spAO (CE : Addr) : Sp := fun vs H Q Ex => ∃ (v u : V), vs = [v, u] ∧ (BadO CE v u H Ex ∨ GoodO v u H Q)
def spIsOrdV : Sp := fun vs H Q _ => ∃ (v : V) (d : My.D), vs = [v] ∧ Rep H v d ∧ ∀ H', Same H H' → Q (.bl (isOrdD d)) H'
section
variable {P : Program} {w : World} {K : PySem.W.Frag} {mg : Str → Option Value} {base : Heap} {k : Nat} {f : Addr} {fd : FuncData} {CE : Addr}
theorem a1g_of {sp : Sp} (F1 : FnOk P w K mg base (L2.CX P w) k f fd ["expression"] (spB1 CE)) (F2 : FnOk P w K mg base CX0 k f fd ["expression"] sp) (h : ∀ v e H (Q : VK) (E : XK), Eok e → (dE e).depth ≤ 60 → Rep H v e.toD → (∀ x H', Same H H' → Q x H') → sp [v] H Q E) : FnOk P w K mg base (L2.CX P w) k f fd ["expression"] (spA1 CE) :=
  fn_or F1 (fn_toX F2) fun vs H Q E ⟨v, d, e1, hR, hF, hz, c⟩ => c.elim (fun c => .inl ⟨v, d, e1, hR, hF, hz, c.1, c.2⟩) fun ⟨e, hE, hd, e2, q⟩ => .inr (by rw [e1]; exact h v e H Q E hE hd (by rw [← e2]; exact hR) q)
theorem a2_of {sp : Sp} (F1 : FnOk P w K mg base (L2.CX P w) k f fd ["expression", "word"] (spB2 CE)) (F2 : FnOk P w K mg base CX0 k f fd ["expression", "word"] sp) (h : ∀ v e z H (Q : VK) (E : XK), Eok e → Rep H v e.toD → z.length ≤ 24 → LetW z → (∀ x H', Same H H' → Q x H') → sp [v, .str z] H Q E) : FnOk P w K mg base (L2.CX P w) k f fd ["expression", "word"] (spA2 CE) :=
  fn_or F1 (fn_toX F2) fun vs H Q E ⟨v, u, e1, c⟩ => c.elim (fun c => .inl ⟨v, u, e1, c⟩) fun ⟨e, z, hE, hR, eu, hz, hl, q⟩ => .inr (by rw [e1, eu]; exact h v e z H Q E hE hR hz hl q)
theorem ao_of (F1 : FnOk P w K mg base (L2.CX P w) k f fd ["expression", "order"] (spBO CE)) (F2 : FnOk P w K mg base CX0 k f fd ["expression", "order"] spRenamed) : FnOk P w K mg base (L2.CX P w) k f fd ["expression", "order"] (spAO CE) :=
  fn_or F1 (fn_toX F2) fun vs H Q E ⟨v, u, e1, c⟩ => c.elim (fun c => .inl ⟨v, u, e1, c⟩) fun ⟨e, z, hE, hd, hR, eu, hO, q⟩ => .inr ⟨v, e, z, by rw [e1, eu], hE, hd, hO, hR, fun x H1 s _ => q x H1 s⟩
end
section
variable {P : Program} {w : World} {K : PySem.W.Frag} {mg : Str → Option Value} {base : Heap} {a_BOUNDS a_LONG_BOUNDS : Addr} {tL tM : Tok} {CE fI : Addr}
abbrev N_places : List Str := ["expression"]
theorem sc_places : FnScope ["expression"] ["expression"] (defScope s_places) := ⟨rfl, rfl, rfl, by decide +kernel, rfl, by decide +kernel, by decide +kernel⟩
theorem ok_placesX {C f : Addr} {fd : FuncData} (T : StTxt K C) (B : Bt K mg a_BOUNDS a_LONG_BOUNDS tL tM) (Dd : Df K mg "places" s_places ["expression"] f fd) (Gcheck_long : ClX P w K mg base 6 "check_long" ["value"] (spChkX CE)) (Gsteps_of : Cl P w K mg base 87 "steps_of" ["expression"] (spSteps C)) : FnOk P w K mg base (L2.CX P w) 88 f fd ["expression"] (spA1 CE) := by
  refine Dd.F.okX sc_places (fun vs H Q Ex h => ?_) (fun cdv A outer s H vs Q Ex hr h => ?_)
  · obtain ⟨v, d, rfl, _⟩ := h
    rfl
  obtain ⟨v, d, rfl, hR, hF, hz, h⟩ := h
  refine ⟨_, (pss_cons (ps_expr (pe_clS Gcheck_long (takes_of rfl rfl rfl rfl) (hr.mono (by omega)) rfl (pa_cons (pv 0) pa_nil)))
    (pss_one (ps_ret (pe_fld (pe_cl Gsteps_of (hr.mono (by omega)) rfl (pa_cons (pv 0) pa_nil)) rfl)))), ?_⟩
  rcases h with ⟨hn, qe⟩ | ⟨e, hE, _, rfl, q⟩
  · exact ⟨_, rfl, v, d, rfl, hR, hF, hz, (fun h => by rw [hn] at h; cases h), fun _ => qe⟩
  refine ⟨_, rfl, v, _, rfl, hR, hF, hz, (fun _ H1 s1 => ?_), (fun h => by rw [show (sizesOf BndL e.toD).isSome = true from long_top hE] at h; cases h)⟩
  refine ⟨_, rfl, v, e, rfl, hE.ok, Nat.lt_of_le_of_lt hE.dep (by decide), hE.pl, hR.pers (Pers.same s1), fun p H2 s2 S => ?_⟩
  obtain ⟨dx, f0, l0, o, z, ts, h1, h2, h3, h4, h5, h6, h7⟩ := S.ex
  exact ⟨p, C, dx, _, _, rfl, h1, T.cl, T.a1, stF_letters .., q _ H2 (s1.trans s2)⟩
abbrev N_sizes : List Str := ["expression"]
theorem sc_sizes : FnScope ["expression"] ["expression"] (defScope s_sizes) := ⟨rfl, rfl, rfl, by decide +kernel, rfl, by decide +kernel, by decide +kernel⟩
theorem ok_sizesX {f : Addr} {fd : FuncData} (B : Bt K mg a_BOUNDS a_LONG_BOUNDS tL tM) (Dd : Df K mg "sizes" s_sizes ["expression"] f fd) (Gcheck_long : ClX P w K mg base 6 "check_long" ["value"] (spChkX CE)) (Gsizes_within : Cl P w K mg base 4 "sizes_within" ["value", "bounds"] (spSizes K)) : FnOk P w K mg base (L2.CX P w) 88 f fd ["expression"] (spA1 CE) := by
  refine Dd.F.okX sc_sizes (fun vs H Q Ex h => ?_) (fun cdv A outer s H vs Q Ex hr h => ?_)
  · obtain ⟨v, d, rfl, _⟩ := h
    rfl
  obtain ⟨v, d, rfl, hR, hF, hz, h⟩ := h
  refine ⟨_, (pss_cons (ps_expr (pe_clS Gcheck_long (takes_of rfl rfl rfl rfl) (hr.mono (by omega)) rfl (pa_cons (pv 0) pa_nil)))
    (pss_one (ps_ret (pe_cl Gsizes_within (hr.mono (by omega)) rfl (pa_cons (pv 0) (pa_cons (pe_glob (v := .ref a_LONG_BOUNDS) rfl B.g_LONG_BOUNDS rfl) pa_nil)))))), ?_⟩
  rcases h with ⟨hn, qe⟩ | ⟨e, hE, _, rfl, q⟩
  · exact ⟨_, rfl, v, d, rfl, hR, hF, hz, (fun h => by rw [hn] at h; cases h), fun _ => qe⟩
  refine ⟨_, rfl, v, _, rfl, hR, hF, hz, (fun _ H1 s1 => ?_), (fun h => by rw [show (sizesOf BndL e.toD).isSome = true from long_top hE] at h; cases h)⟩
  exact ⟨_, rfl, v, _, a_LONG_BOUNDS, (40, 40, 200), rfl, hR.pers (Pers.same s1), hF, hz, B.tG _, fun r H2 s2 _ => q _ H2 (s1.trans s2)⟩
theorem ok_turnedB {f : Addr} {fd : FuncData} (B : Bt K mg a_BOUNDS a_LONG_BOUNDS tL tM) (Dd : Df K mg "turned" s_turned ["expression"] f fd) (Gcheck_long : ClX P w K mg base 6 "check_long" ["value"] (spChkX CE)) (G_turned : Cl P w K mg base 41 "_turned" ["part"] (spTurn 41)) : FnOk P w K mg base (L2.CX P w) 88 f fd ["expression"] (spB1 CE) := by
  refine Dd.F.okX sc_turned (fun vs H Q Ex h => ?_) (fun cdv A outer s H vs Q Ex hr h => ?_)
  · obtain ⟨v, d, rfl, _⟩ := h
    rfl
  obtain ⟨v, d, rfl, hR, hF, hz, hn, qe⟩ := h
  refine ⟨_, (pss_cons (ps_expr (pe_clS Gcheck_long (takes_of rfl rfl rfl rfl) (hr.mono (by omega)) rfl (pa_cons (pv 0) pa_nil)))
    (pss_one (ps_ret (pe_cl G_turned (hr.mono (by omega)) rfl (pa_cons (pv 0) pa_nil))))), ?_⟩
  exact ⟨_, rfl, v, d, rfl, hR, hF, hz, (fun h => by rw [hn] at h; cases h), fun _ => qe⟩
theorem ok_simpleB {f : Addr} {fd : FuncData} (B : Bt K mg a_BOUNDS a_LONG_BOUNDS tL tM) (Dd : Df K mg "simple" s_simple ["expression"] f fd) (Gcheck_long : ClX P w K mg base 6 "check_long" ["value"] (spChkX CE)) (G_simple : Cl P w K mg base 84 "_simple" ["part"] (spSimp 41)) : FnOk P w K mg base (L2.CX P w) 88 f fd ["expression"] (spB1 CE) := by
  refine Dd.F.okX sc_simple (fun vs H Q Ex h => ?_) (fun cdv A outer s H vs Q Ex hr h => ?_)
  · obtain ⟨v, d, rfl, _⟩ := h
    rfl
  obtain ⟨v, d, rfl, hR, hF, hz, hn, qe⟩ := h
  refine ⟨_, (pss_cons (ps_expr (pe_clS Gcheck_long (takes_of rfl rfl rfl rfl) (hr.mono (by omega)) rfl (pa_cons (pv 0) pa_nil)))
    (pss_one (ps_ret (pe_cl G_simple (hr.mono (by omega)) rfl (pa_cons (pv 0) pa_nil))))), ?_⟩
  exact ⟨_, rfl, v, d, rfl, hR, hF, hz, (fun h => by rw [hn] at h; cases h), fun _ => qe⟩
theorem ok_least_lengthB {f : Addr} {fd : FuncData} (B : Bt K mg a_BOUNDS a_LONG_BOUNDS tL tM) (Dd : Df K mg "least_length" s_least_length ["expression"] f fd) (Gcheck_long : ClX P w K mg base 6 "check_long" ["value"] (spChkX CE)) (G_least : Cl P w K mg base 42 "_least" ["part"] (spLeast 42)) : FnOk P w K mg base (L2.CX P w) 88 f fd ["expression"] (spB1 CE) := by
  refine Dd.F.okX sc_least_length (fun vs H Q Ex h => ?_) (fun cdv A outer s H vs Q Ex hr h => ?_)
  · obtain ⟨v, d, rfl, _⟩ := h
    rfl
  obtain ⟨v, d, rfl, hR, hF, hz, hn, qe⟩ := h
  refine ⟨_, (pss_cons (ps_expr (pe_clS Gcheck_long (takes_of rfl rfl rfl rfl) (hr.mono (by omega)) rfl (pa_cons (pv 0) pa_nil)))
    (pss_one (ps_ret (pe_cl G_least (hr.mono (by omega)) rfl (pa_cons (pv 0) pa_nil))))), ?_⟩
  exact ⟨_, rfl, v, d, rfl, hR, hF, hz, (fun h => by rw [hn] at h; cases h), fun _ => qe⟩
theorem ok_greatest_lengthB {f : Addr} {fd : FuncData} (B : Bt K mg a_BOUNDS a_LONG_BOUNDS tL tM) (Dd : Df K mg "greatest_length" s_greatest_length ["expression"] f fd) (Gcheck_long : ClX P w K mg base 6 "check_long" ["value"] (spChkX CE)) (G_greatest : Cl P w K mg base 42 "_greatest" ["part"] (spGreat 42)) : FnOk P w K mg base (L2.CX P w) 88 f fd ["expression"] (spB1 CE) := by
  refine Dd.F.okX sc_greatest_length (fun vs H Q Ex h => ?_) (fun cdv A outer s H vs Q Ex hr h => ?_)
  · obtain ⟨v, d, rfl, _⟩ := h
    rfl
  obtain ⟨v, d, rfl, hR, hF, hz, hn, qe⟩ := h
  refine ⟨_, (pss_cons (ps_expr (pe_clS Gcheck_long (takes_of rfl rfl rfl rfl) (hr.mono (by omega)) rfl (pa_cons (pv 0) pa_nil)))
    (pss_one (ps_ret (pe_cl G_greatest (hr.mono (by omega)) rfl (pa_cons (pv 0) pa_nil))))), ?_⟩
  exact ⟨_, rfl, v, d, rfl, hR, hF, hz, (fun h => by rw [hn] at h; cases h), fun _ => qe⟩
theorem ok_matchesB {C f : Addr} {fd : FuncData} (B : Bt K mg a_BOUNDS a_LONG_BOUNDS tL tM) (Dd : Df K mg "matches" s_matches ["expression", "word"] f fd) (Gcheck_long : ClX P w K mg base 6 "check_long" ["value"] (spChkX CE)) (Gcheck_word : ClX P w K mg base 3 "check_word" ["value"] (spChkWX CE)) (Gsteps_of : Cl P w K mg base 87 "steps_of" ["expression"] (spSteps C)) (Gis_right : Cl P w K mg base 3 "is_right" ["steps", "word"] (spRight C)) : FnOk P w K mg base (L2.CX P w) 88 f fd ["expression", "word"] (spB2 CE) := by
  refine Dd.F.okX sc_matches (fun vs H Q Ex h => ?_) (fun cdv A outer s H vs Q Ex hr h => ?_)
  · obtain ⟨v, u, rfl, _⟩ := h
    rfl
  obtain ⟨v, u, rfl, d, hR, hF, hz, ⟨hn, qe⟩ | ⟨hn, d2, hR2, hw, qe⟩⟩ := h
  · refine ⟨_, (pss_cons (ps_expr (pe_clS Gcheck_long (takes_of rfl rfl rfl rfl) (hr.mono (by omega)) rfl (pa_cons (pv 0) pa_nil)))
    (pss_cons (ps_expr (pe_clS Gcheck_word (takes_of rfl rfl rfl rfl) (hr.mono (by omega)) rfl (pa_cons (pv 1) pa_nil)))
    (pss_one (ps_ret (pe_cl Gis_right (hr.mono (by omega)) rfl (pa_cons (pe_cl Gsteps_of (hr.mono (by omega)) rfl (pa_cons (pv 0) pa_nil)) (pa_cons (pv 1) pa_nil))))))), ?_⟩
    exact ⟨_, rfl, v, d, rfl, hR, hF, hz, (fun h => by rw [hn] at h; cases h), fun _ => qe⟩
  · refine ⟨_, (pss_cons (ps_expr (pe_clS Gcheck_long (takes_of rfl rfl rfl rfl) (hr.mono (by omega)) rfl (pa_cons (pv 0) pa_nil)))
    (pss_cons (ps_expr (pe_clS Gcheck_word (takes_of rfl rfl rfl rfl) (hr.mono (by omega)) rfl (pa_cons (pv 1) pa_nil)))
    (pss_one (ps_ret (pe_cl Gis_right (hr.mono (by omega)) rfl (pa_cons (pe_cl Gsteps_of (hr.mono (by omega)) rfl (pa_cons (pv 0) pa_nil)) (pa_cons (pv 1) pa_nil))))))), ?_⟩
    exact ⟨_, rfl, v, d, rfl, hR, hF, hz, (fun _ H1 s1 => ⟨_, rfl, u, d2, rfl, hR2.pers (Pers.same s1), (fun h => by rw [hw] at h; cases h), fun _ => qe.mono s1⟩), fun h => by rw [hn] at h; cases h⟩
theorem ok_isordV {f : Addr} {fd : FuncData} (B : Bt K mg a_BOUNDS a_LONG_BOUNDS tL tM) (Dd : Df K mg "_is_order" s__is_order ["value"] f fd) : FnOk P w K mg base CX0 1 f fd ["value"] spIsOrdV := by
  refine Dd.F.ok sc__is_order (fun vs H Q Ex h => ?_) (fun cdv A outer s H vs Q Ex hr h => ?_)
  · obtain ⟨v, d, rfl, _⟩ := h
    rfl
  obtain ⟨v, d, rfl, hR, q⟩ := h
  refine ⟨_, (pss_cons (ps_if (PW.pt (pw_or (pt_not (pt_val (pe_callB call_isi rfl B.b_isinstance boot_isinstance (pa_cons (pv 0) (pa_cons (pe_bltn (v := .ty "str") rfl B.b_str boot_str rfl) pa_nil))))) (pw_or1 (pt_cmpR op_ne (pe_callB call_len rfl B.b_len boot_len (pa_cons (pv 0) pa_nil)) (pe_callB call_len rfl B.b_len boot_len (pa_cons (pe_glob (v := .str "abcd") rfl B.g_LETTERS ⟨_, rfl⟩) pa_nil)) (nomark _))))) (pss_one (ps_ret pe_bl)) pss_nil)
    (pss_one (ps_ret (pe_callB (cr_all rfl) rfl B.b_all boot_all (pa_cons (pe_lc (own := [("letter", 1)]) (g := gName 1) (tt := tYes) rfl sc__is_order.nd (pi_str (pe_glob (v := .str "abcd") rfl B.g_LETTERS ⟨_, rfl⟩)) (blkOk_by (N := N__is_order) (sc := defScope s__is_order) (by decide +kernel)) (fun _ _ _ _ _ => pg_name (i := 1) sc__is_order.nd rfl (Or.inl rfl)) (fun _ _ _ _ _ => pts_nil) (fun _ _ _ _ _ => (pe_cmpR op_in_sign (pv 1) (pv 0) rfl))) pa_nil))))), ?_⟩
  obtain ⟨t, ht, k1, _⟩ := hR.ty (K := K)
  have l4 : (Str.ofString "abcd").length = 4 := by decide +kernel
  refine ⟨_, rfl, _, _, _, _, _, rfl, .ty _, ht, k1, _, rfl, ?_⟩
  cases hR with
  | @str z hz =>
    refine iteF ⟨_, rfl, _, z.length, rfl, ⟨Nat.le_trans hz (by decide), rfl⟩, _, 4, rfl, ⟨by rw [l4]; decide, l4.symm⟩, rfl, _, rfl, ite2 (fun c => ?_) (fun c => ?_)⟩
    · have c : ¬ z.length = 4 := fun h => by rw [h] at c; cases c
      have q := q H (Same.refl H)
      rw [isOrdD, decide_eq_false c, Bool.false_and] at q
      exact q
    · have c : z.length = 4 := Classical.byContradiction fun h => c (by rw [decide_eq_false (by intro h2; have := V.int.inj h2; omega)]; rfl)
      refine ⟨_, rfl, fun L hL => ?_⟩
      refine lc_str (z := Str.ofString "abcd") (fun i H' => Same H H' ∧ H' L = some (.lst ((((Str.ofString "abcd").cps.toList.take i).map fun c => decide (c ∈ z.cps.toList)).map V.bl))) ⟨same_upd hL, upd_same⟩ (fun i c H' hc h => ?_) (fun H' h => ?_)
      · have hc' : (Str.ofString "abcd").cps.toList[i]? = some c := by rw [Array.getElem?_toList]; exact hc
        refine ⟨rfl, tyes ⟨_, rfl, _, rfl, c, z, rfl, rfl, _, h.2, ?_, ?_, ?_⟩⟩
        · rw [List.length_map, List.length_map, List.length_take]
          have e4 : (Str.ofString "abcd").cps.toList.length = 4 := by decide +kernel
          rw [e4]
          exact Nat.lt_of_le_of_lt (Nat.min_le_right _ _) (by decide)
        · exact fun b o e => by rw [upd_ne (ne_of_none e hL)]; exact h.1 b o e
        · rw [upd_same, List.take_add_one, hc', List.map_append, List.map_append]
          rfl
      · obtain ⟨h1, h2⟩ := h
        rw [← Array.length_toList, List.take_length] at h2
        refine ⟨L, _, rfl, SqL.of h2, ?_⟩
        have q := q _ h1
        rw [isOrdD, decide_eq_true c, Bool.true_and] at q
        exact q
  | _ => exact iteT (q H (Same.refl H))
theorem ok_renamedB {f : Addr} {fd : FuncData} (B : Bt K mg a_BOUNDS a_LONG_BOUNDS tL tM) (Dd : Df K mg "renamed" s_renamed ["expression", "order"] f fd) (TBadValue : ExBadValue.Txt K mg CE fI) (PBadValue : ExBadValue.Prg P) (Gcheck_long : ClX P w K mg base 6 "check_long" ["value"] (spChkX CE)) (G_is_order : Cl P w K mg base 1 "_is_order" ["value"] spIsOrdV) (G_renamed : Cl P w K mg base 41 "_renamed" ["part", "order"] (spRen 41)) : FnOk P w K mg base (L2.CX P w) 88 f fd ["expression", "order"] (spBO CE) := by
  refine Dd.F.okX sc_renamed (fun vs H Q Ex h => ?_) (fun cdv A outer s H vs Q Ex hr h => ?_)
  · obtain ⟨v, u, rfl, _⟩ := h
    rfl
  obtain ⟨v, u, rfl, d, hR, hF, hz, ⟨hn, qe⟩ | ⟨hn, d2, hR2, hw, qe⟩⟩ := h
  · refine ⟨_, (pss_cons (ps_expr (pe_clS Gcheck_long (takes_of rfl rfl rfl rfl) (hr.mono (by omega)) rfl (pa_cons (pv 0) pa_nil)))
    (pss_cons (ps_if (pt_not (pt_val (pe_cl G_is_order (hr.mono (by omega)) rfl (pa_cons (pv 1) pa_nil)))) (pss_one (ps_raise rfl (takes_of rfl rfl rfl rfl) (pmkBadValue TBadValue PBadValue hr (pa_cons pe_str pa_nil)))) pss_nil)
    (pss_one (ps_ret (pe_cl G_renamed (hr.mono (by omega)) rfl (pa_cons (pv 0) (pa_cons (pv 1) pa_nil))))))), ?_⟩
    exact ⟨_, rfl, v, d, rfl, hR, hF, hz, (fun h => by rw [hn] at h; cases h), fun _ => qe⟩
  · refine ⟨_, (pss_cons (ps_expr (pe_clS Gcheck_long (takes_of rfl rfl rfl rfl) (hr.mono (by omega)) rfl (pa_cons (pv 0) pa_nil)))
    (pss_cons (ps_if (pt_not (pt_val (pe_cl G_is_order (hr.mono (by omega)) rfl (pa_cons (pv 1) pa_nil)))) (pss_one (ps_raise rfl (takes_of rfl rfl rfl rfl) (pmkBadValue TBadValue PBadValue hr (pa_cons pe_str pa_nil)))) pss_nil)
    (pss_one (ps_ret (pe_cl G_renamed (hr.mono (by omega)) rfl (pa_cons (pv 0) (pa_cons (pv 1) pa_nil))))))), ?_⟩
    refine ⟨_, rfl, v, d, rfl, hR, hF, hz, (fun _ H1 s1 => ⟨_, rfl, u, d2, rfl, hR2.pers (Pers.same s1), fun H2 s2 => ⟨_, rfl, ?_⟩⟩), fun h => by rw [hn] at h; cases h⟩
    rw [hw]
    exact iteT ⟨_, rfl, by decide, fun d1 hd => qe d1 H2 (s1.trans s2) hd⟩
end
end My
namespace My
open PySem PySem.Spec PyProof.Rows L2
/-! ### what is told of a call -/
theorem boot_ValueError : bootBuiltins "ValueError" = some (.type "ValueError") := by decide +kernel
def RS1 (d : My.D) (res : Option Str) : Prop := ((sizesOf BndL d).isSome = false ∧ res = some "expression") ∨ ∃ e, Eok e ∧ (dE e).depth ≤ 60 ∧ d = e.toD ∧ res = none
def RSW (H : Hp) (d : My.D) (u : V) (res : Option Str) : Prop := ((sizesOf BndL d).isSome = false ∧ res = some "expression") ∨ ∃ e, Eok e ∧ d = e.toD ∧ ((∃ d2, Rep H u d2 ∧ isWord d2 = false ∧ res = some "word") ∨ ∃ z, u = .str z ∧ z.length ≤ 24 ∧ LetW z ∧ res = none)
def RSO (H : Hp) (d : My.D) (u : V) (res : Option Str) : Prop := ((sizesOf BndL d).isSome = false ∧ res = some "expression") ∨ ∃ e, Eok e ∧ (dE e).depth ≤ 60 ∧ d = e.toD ∧ ((∃ d2, Rep H u d2 ∧ isOrdD d2 = false ∧ res = some "order") ∨ ∃ z, u = .str z ∧ Ord z ∧ res = none)
def ones : List Str := ["places", "sizes", "turned", "simple", "least", "greatest"]
def RS (H : Hp) (wd : Str) (us : List V) (v : V) (d : My.D) (res : Option Str) : Prop := (wd ∈ ones ∧ us = [v] ∧ RS1 d res) ∨ (wd = "matches" ∧ ∃ u, us = [v, u] ∧ RSW H d u res) ∨ (wd = "renamed" ∧ ∃ u, us = [v, u] ∧ RSO H d u res)
def spTold : Sp := fun vs H Q _ => ∃ (wd : Str) (p : Addr) (us : List V) (v : V) (d : My.D) (res : Option Str), vs = [.str wd, .ref p] ∧ H p = some (.lst us) ∧ Rep H v d ∧ Fl d ∧ d.size ≤ 1000000 ∧ RS H wd us v d res ∧ ∀ H', Same H H' → Q (.str (res.getD "")) H'
theorem iteN {w z : Str} {A B : Prop} (h : w ≠ z) (b : B) : if decide (V.str w = V.str z) = true then A else B := by
  rw [if_neg fun c => h (vstr c)]
  exact b
theorem iteY {w z : Str} {A B : Prop} (h : w = z) (a : A) : if decide (V.str w = V.str z) = true then A else B := by
  rw [if_pos (by rw [h]; exact decide_eq_true rfl)]
  exact a
theorem rs1_use {CE : Addr} {H : Hp} {Ex : XK} {Q : VK} {d : My.D} {res : Option Str} (h : RS1 d res) (qe : ∀ nm, res = some nm → XpE CE H Ex nm) (q : res = none → ∀ (x : V) H', Same H H' → Q x H') : ((sizesOf BndL d).isSome = false ∧ XpE CE H Ex "expression") ∨ ∃ e, Eok e ∧ (dE e).depth ≤ 60 ∧ d = e.toD ∧ ∀ x H', Same H H' → Q x H' :=
  h.elim (fun h => .inl ⟨h.1, qe _ h.2⟩) fun ⟨e, h1, h2, h3, h4⟩ => .inr ⟨e, h1, h2, h3, q h4⟩
theorem rsW_use {CE : Addr} {H : Hp} {Ex : XK} {Q : VK} {v u : V} {d : My.D} {res : Option Str} (hR : Rep H v d) (hF : Fl d) (hz : d.size ≤ 1000000) (h : RSW H d u res) (qe : ∀ nm, res = some nm → XpE CE H Ex nm) (q : res = none → ∀ (x : V) H', Same H H' → Q x H') : BadW CE v u H Ex ∨ GoodW v u H Q := by
  rcases h with ⟨h1, h2⟩ | ⟨e, hE, rfl, ⟨d2, h2, h3, h4⟩ | ⟨z, h2, h3, h4, h5⟩⟩
  · exact .inl ⟨d, hR, hF, hz, .inl ⟨h1, qe _ h2⟩⟩
  · exact .inl ⟨_, hR, hF, hz, .inr ⟨long_top hE, d2, h2, h3, qe _ h4⟩⟩
  · exact .inr ⟨e, z, hE, hR, h2, h3, h4, q h5⟩
theorem rsO_use {CE : Addr} {H : Hp} {Ex : XK} {Q : VK} {v u : V} {d : My.D} {res : Option Str} (hR : Rep H v d) (hF : Fl d) (hz : d.size ≤ 1000000) (h : RSO H d u res) (qe : ∀ nm, res = some nm → XpE CE H Ex nm) (q : res = none → ∀ (x : V) H', Same H H' → Q x H') : BadO CE v u H Ex ∨ GoodO v u H Q := by
  rcases h with ⟨h1, h2⟩ | ⟨e, hE, hd, rfl, ⟨d2, h2, h3, h4⟩ | ⟨z, h2, h3, h5⟩⟩
  · exact .inl ⟨d, hR, hF, hz, .inl ⟨h1, qe _ h2⟩⟩
  · exact .inl ⟨_, hR, hF, hz, .inr ⟨long_top hE, d2, h2, h3, qe _ h4⟩⟩
  · exact .inr ⟨e, z, hE, hd, hR, h2, h3, q h5⟩
section
variable {P : Program} {w : World} {K : PySem.W.Frag} {mg : Str → Option Value} {base : Heap} {a_BOUNDS a_LONG_BOUNDS : Addr} {tL tM : Tok} {CE fI CDoubtError : Addr}
abbrev N__law_told : List Str := ["word", "parts", "problem"]
theorem sc__law_told : FnScope ["word", "parts", "problem"] ["word", "parts"] (defScope s__law_told) := ⟨rfl, rfl, rfl, by decide +kernel, rfl, by decide +kernel, by decide +kernel⟩
set_option maxHeartbeats 4000000 in
theorem ok_told {f : Addr} {fd : FuncData} (B : Bt K mg a_BOUNDS a_LONG_BOUNDS tL tM) (Dd : Df K mg "_law_told" s__law_told ["word", "parts"] f fd) (TBadValue : ExBadValue.Txt K mg CE fI) (isBad : IsC K CE) (gDoubtError : mg "DoubtError" = some (.ref CDoubtError)) (kDE : PySem.W.kitOne K (.ref CE) (.ref CDoubtError) = some true) (kVE : PySem.W.kitOne K (.ref CE) (.type "ValueError") = some true)
    (Gmatches : ClX P w K mg base 88 "matches" ["expression", "word"] (spA2 CE)) (Gplaces : ClX P w K mg base 88 "places" ["expression"] (spA1 CE)) (Gsizes : ClX P w K mg base 88 "sizes" ["expression"] (spA1 CE)) (Gturned : ClX P w K mg base 88 "turned" ["expression"] (spA1 CE)) (Grenamed : ClX P w K mg base 88 "renamed" ["expression", "order"] (spAO CE)) (Gsimple : ClX P w K mg base 88 "simple" ["expression"] (spA1 CE)) (Gleast_length : ClX P w K mg base 88 "least_length" ["expression"] (spA1 CE)) (Ggreatest_length : ClX P w K mg base 88 "greatest_length" ["expression"] (spA1 CE)) : FnOk P w K mg base CX0 90 f fd ["word", "parts"] spTold := by
  refine Dd.F.ok sc__law_told (fun vs H Q Ex h => ?_) (fun cdv A outer s H vs Q Ex hr h => ?_)
  · obtain ⟨wd, p, us, v, d, res, rfl, _⟩ := h
    rfl
  obtain ⟨wd, p, us, v, d, res, rfl, hp, hR, hF, hz, hRS, q⟩ := h
  refine ⟨_, (pss_cons (ps_try_as (i := 2) (Wout := fun _ _ _ _ => False) rfl rfl sc__law_told.nd rfl rfl ⟨rfl, by decide, .inl TBadValue.gC⟩ takes0 (fun W pn xe tk _ => (pss_one (ps_if (pt_cmpR op_eq (pv 0) pe_str (nomark _)) (pss_one (ps_expr (pe_clS Gmatches tk (hr.mono (by omega)) rfl (pa_cons (pe_ix (r := rIxL K) ix_list (pv 1) pe_int (fun _ _ => rfl)) (pa_cons (pe_ix (r := rIxL K) ix_list (pv 1) pe_int (fun _ _ => rfl)) pa_nil))))) (pss_one (ps_if (pt_cmpR op_eq (pv 0) pe_str (nomark _)) (pss_one (ps_expr (pe_clS Gplaces tk (hr.mono (by omega)) rfl (pa_cons (pe_ix (r := rIxL K) ix_list (pv 1) pe_int (fun _ _ => rfl)) pa_nil)))) (pss_one (ps_if (pt_cmpR op_eq (pv 0) pe_str (nomark _)) (pss_one (ps_expr (pe_clS Gsizes tk (hr.mono (by omega)) rfl (pa_cons (pe_ix (r := rIxL K) ix_list (pv 1) pe_int (fun _ _ => rfl)) pa_nil)))) (pss_one (ps_if (pt_cmpR op_eq (pv 0) pe_str (nomark _)) (pss_one (ps_expr (pe_clS Gturned tk (hr.mono (by omega)) rfl (pa_cons (pe_ix (r := rIxL K) ix_list (pv 1) pe_int (fun _ _ => rfl)) pa_nil)))) (pss_one (ps_if (pt_cmpR op_eq (pv 0) pe_str (nomark _)) (pss_one (ps_expr (pe_clS Grenamed tk (hr.mono (by omega)) rfl (pa_cons (pe_ix (r := rIxL K) ix_list (pv 1) pe_int (fun _ _ => rfl)) (pa_cons (pe_ix (r := rIxL K) ix_list (pv 1) pe_int (fun _ _ => rfl)) pa_nil))))) (pss_one (ps_if (pt_cmpR op_eq (pv 0) pe_str (nomark _)) (pss_one (ps_expr (pe_clS Gsimple tk (hr.mono (by omega)) rfl (pa_cons (pe_ix (r := rIxL K) ix_list (pv 1) pe_int (fun _ _ => rfl)) pa_nil)))) (pss_one (ps_if (pt_cmpR op_eq (pv 0) pe_str (nomark _)) (pss_one (ps_expr (pe_clS Gleast_length tk (hr.mono (by omega)) rfl (pa_cons (pe_ix (r := rIxL K) ix_list (pv 1) pe_int (fun _ _ => rfl)) pa_nil)))) (pss_one (ps_expr (pe_clS Ggreatest_length tk (hr.mono (by omega)) rfl (pa_cons (pe_ix (r := rIxL K) ix_list (pv 1) pe_int (fun _ _ => rfl)) pa_nil))))))))))))))))))) (fun a oe cls d pn hz hf => (pss_one (ps_ret (pe_ifExp (PW.pt (pw_and (pt_val (pe_callB (call_isF isBad hz hf) rfl B.b_isinstance boot_isinstance (pa_cons (pv 2) (pa_cons (pe_glob (v := .ref CDoubtError) rfl gDoubtError rfl) pa_nil)))) (pw_and1 (pt_val (pe_callB (call_isF isBad hz hf) rfl B.b_isinstance boot_isinstance (pa_cons (pv 2) (pa_cons (pe_bltn (v := .ty "ValueError") rfl B.b_ValueError boot_ValueError rfl) pa_nil))))))) (pe_xf (xfBadValue TBadValue) TBadValue.noN hz hf (pv 2)) pe_non)))))
    (pss_one (ps_ret pe_str))), ?_⟩
  have G : ∀ H1, Same H H1 → res = none → Q (.str "") H1 := fun H1 s1 hr => by
    have := q H1 s1
    rw [hr] at this
    exact this
  have key : True := trivial
  rcases hRS with ⟨hw, rfl, h1⟩ | ⟨rfl, u, rfl, h1⟩ | ⟨rfl, u, rfl, h1⟩
  · have hw : wd = "places" ∨ wd = "sizes" ∨ wd = "turned" ∨ wd = "simple" ∨ wd = "least" ∨ wd = "greatest" := by simpa [ones] using hw
    rcases hw with rfl | rfl | rfl | rfl | rfl | rfl
    · refine ⟨_, rfl, rfl, _, rfl, iteN (by decide +kernel) ⟨_, rfl, rfl, _, rfl, iteY rfl ⟨_, rfl, p, _, 0, _, rfl, rfl, SqL.of hp, at_zero, v, d, rfl, hR, hF, hz, rs1_use h1 (fun nm hr d1 H1 s1 hd => ?_) fun hr x H1 s1 => ?_⟩⟩⟩
      · have ux := same_upd (o := .xd [(("name" : Str), V.str nm)]) hd
        refine ⟨true, teBadValue TBadValue, fun _ a0 _ => ?_, fun z => nomatch z⟩
        refine ⟨_, rfl, .ref CDoubtError, .ref CDoubtError, true, rfl, rfl, ⟨d1, _, rfl, upd_same⟩, (fun u r => r), kDE, _, rfl, iteT ?_⟩
        refine ⟨_, rfl, .ty "ValueError", .type "ValueError", true, rfl, rfl, ⟨d1, _, rfl, upd_same⟩, (fun u r => r), kVE, _, rfl, iteT ?_⟩
        refine ⟨_, rfl, rfl, rfl, d1, _, _, rfl, upd_same, rfl, ?_⟩
        have := q _ (s1.trans ux)
        rw [hr] at this
        exact this
      · exact G H1 s1 hr
    · refine ⟨_, rfl, rfl, _, rfl, iteN (by decide +kernel) ⟨_, rfl, rfl, _, rfl, iteN (by decide +kernel) ⟨_, rfl, rfl, _, rfl, iteY rfl ⟨_, rfl, p, _, 0, _, rfl, rfl, SqL.of hp, at_zero, v, d, rfl, hR, hF, hz, rs1_use h1 (fun nm hr d1 H1 s1 hd => ?_) fun hr x H1 s1 => ?_⟩⟩⟩⟩
      · have ux := same_upd (o := .xd [(("name" : Str), V.str nm)]) hd
        refine ⟨true, teBadValue TBadValue, fun _ a0 _ => ?_, fun z => nomatch z⟩
        refine ⟨_, rfl, .ref CDoubtError, .ref CDoubtError, true, rfl, rfl, ⟨d1, _, rfl, upd_same⟩, (fun u r => r), kDE, _, rfl, iteT ?_⟩
        refine ⟨_, rfl, .ty "ValueError", .type "ValueError", true, rfl, rfl, ⟨d1, _, rfl, upd_same⟩, (fun u r => r), kVE, _, rfl, iteT ?_⟩
        refine ⟨_, rfl, rfl, rfl, d1, _, _, rfl, upd_same, rfl, ?_⟩
        have := q _ (s1.trans ux)
        rw [hr] at this
        exact this
      · exact G H1 s1 hr
    · refine ⟨_, rfl, rfl, _, rfl, iteN (by decide +kernel) ⟨_, rfl, rfl, _, rfl, iteN (by decide +kernel) ⟨_, rfl, rfl, _, rfl, iteN (by decide +kernel) ⟨_, rfl, rfl, _, rfl, iteY rfl ⟨_, rfl, p, _, 0, _, rfl, rfl, SqL.of hp, at_zero, v, d, rfl, hR, hF, hz, rs1_use h1 (fun nm hr d1 H1 s1 hd => ?_) fun hr x H1 s1 => ?_⟩⟩⟩⟩⟩
      · have ux := same_upd (o := .xd [(("name" : Str), V.str nm)]) hd
        refine ⟨true, teBadValue TBadValue, fun _ a0 _ => ?_, fun z => nomatch z⟩
        refine ⟨_, rfl, .ref CDoubtError, .ref CDoubtError, true, rfl, rfl, ⟨d1, _, rfl, upd_same⟩, (fun u r => r), kDE, _, rfl, iteT ?_⟩
        refine ⟨_, rfl, .ty "ValueError", .type "ValueError", true, rfl, rfl, ⟨d1, _, rfl, upd_same⟩, (fun u r => r), kVE, _, rfl, iteT ?_⟩
        refine ⟨_, rfl, rfl, rfl, d1, _, _, rfl, upd_same, rfl, ?_⟩
        have := q _ (s1.trans ux)
        rw [hr] at this
        exact this
      · exact G H1 s1 hr
    · refine ⟨_, rfl, rfl, _, rfl, iteN (by decide +kernel) ⟨_, rfl, rfl, _, rfl, iteN (by decide +kernel) ⟨_, rfl, rfl, _, rfl, iteN (by decide +kernel) ⟨_, rfl, rfl, _, rfl, iteN (by decide +kernel) ⟨_, rfl, rfl, _, rfl, iteN (by decide +kernel) ⟨_, rfl, rfl, _, rfl, iteY rfl ⟨_, rfl, p, _, 0, _, rfl, rfl, SqL.of hp, at_zero, v, d, rfl, hR, hF, hz, rs1_use h1 (fun nm hr d1 H1 s1 hd => ?_) fun hr x H1 s1 => ?_⟩⟩⟩⟩⟩⟩⟩
      · have ux := same_upd (o := .xd [(("name" : Str), V.str nm)]) hd
        refine ⟨true, teBadValue TBadValue, fun _ a0 _ => ?_, fun z => nomatch z⟩
        refine ⟨_, rfl, .ref CDoubtError, .ref CDoubtError, true, rfl, rfl, ⟨d1, _, rfl, upd_same⟩, (fun u r => r), kDE, _, rfl, iteT ?_⟩
        refine ⟨_, rfl, .ty "ValueError", .type "ValueError", true, rfl, rfl, ⟨d1, _, rfl, upd_same⟩, (fun u r => r), kVE, _, rfl, iteT ?_⟩
        refine ⟨_, rfl, rfl, rfl, d1, _, _, rfl, upd_same, rfl, ?_⟩
        have := q _ (s1.trans ux)
        rw [hr] at this
        exact this
      · exact G H1 s1 hr
    · refine ⟨_, rfl, rfl, _, rfl, iteN (by decide +kernel) ⟨_, rfl, rfl, _, rfl, iteN (by decide +kernel) ⟨_, rfl, rfl, _, rfl, iteN (by decide +kernel) ⟨_, rfl, rfl, _, rfl, iteN (by decide +kernel) ⟨_, rfl, rfl, _, rfl, iteN (by decide +kernel) ⟨_, rfl, rfl, _, rfl, iteN (by decide +kernel) ⟨_, rfl, rfl, _, rfl, iteY rfl ⟨_, rfl, p, _, 0, _, rfl, rfl, SqL.of hp, at_zero, v, d, rfl, hR, hF, hz, rs1_use h1 (fun nm hr d1 H1 s1 hd => ?_) fun hr x H1 s1 => ?_⟩⟩⟩⟩⟩⟩⟩⟩
      · have ux := same_upd (o := .xd [(("name" : Str), V.str nm)]) hd
        refine ⟨true, teBadValue TBadValue, fun _ a0 _ => ?_, fun z => nomatch z⟩
        refine ⟨_, rfl, .ref CDoubtError, .ref CDoubtError, true, rfl, rfl, ⟨d1, _, rfl, upd_same⟩, (fun u r => r), kDE, _, rfl, iteT ?_⟩
        refine ⟨_, rfl, .ty "ValueError", .type "ValueError", true, rfl, rfl, ⟨d1, _, rfl, upd_same⟩, (fun u r => r), kVE, _, rfl, iteT ?_⟩
        refine ⟨_, rfl, rfl, rfl, d1, _, _, rfl, upd_same, rfl, ?_⟩
        have := q _ (s1.trans ux)
        rw [hr] at this
        exact this
      · exact G H1 s1 hr
    · refine ⟨_, rfl, rfl, _, rfl, iteN (by decide +kernel) ⟨_, rfl, rfl, _, rfl, iteN (by decide +kernel) ⟨_, rfl, rfl, _, rfl, iteN (by decide +kernel) ⟨_, rfl, rfl, _, rfl, iteN (by decide +kernel) ⟨_, rfl, rfl, _, rfl, iteN (by decide +kernel) ⟨_, rfl, rfl, _, rfl, iteN (by decide +kernel) ⟨_, rfl, rfl, _, rfl, iteN (by decide +kernel) ⟨_, rfl, p, _, 0, _, rfl, rfl, SqL.of hp, at_zero, v, d, rfl, hR, hF, hz, rs1_use h1 (fun nm hr d1 H1 s1 hd => ?_) fun hr x H1 s1 => ?_⟩⟩⟩⟩⟩⟩⟩⟩
      · have ux := same_upd (o := .xd [(("name" : Str), V.str nm)]) hd
        refine ⟨true, teBadValue TBadValue, fun _ a0 _ => ?_, fun z => nomatch z⟩
        refine ⟨_, rfl, .ref CDoubtError, .ref CDoubtError, true, rfl, rfl, ⟨d1, _, rfl, upd_same⟩, (fun u r => r), kDE, _, rfl, iteT ?_⟩
        refine ⟨_, rfl, .ty "ValueError", .type "ValueError", true, rfl, rfl, ⟨d1, _, rfl, upd_same⟩, (fun u r => r), kVE, _, rfl, iteT ?_⟩
        refine ⟨_, rfl, rfl, rfl, d1, _, _, rfl, upd_same, rfl, ?_⟩
        have := q _ (s1.trans ux)
        rw [hr] at this
        exact this
      · exact G H1 s1 hr
  · refine ⟨_, rfl, rfl, _, rfl, iteY rfl ⟨_, rfl, p, _, 0, _, rfl, rfl, SqL.of hp, at_zero, _, rfl, p, _, 1, _, rfl, rfl, SqL.of hp, at_of (j := 1) rfl rfl, v, u, rfl, rsW_use hR hF hz h1 (fun nm hr d1 H1 s1 hd => ?_) fun hr x H1 s1 => ?_⟩⟩
    · have ux := same_upd (o := .xd [(("name" : Str), V.str nm)]) hd
      refine ⟨true, teBadValue TBadValue, fun _ a0 _ => ?_, fun z => nomatch z⟩
      refine ⟨_, rfl, .ref CDoubtError, .ref CDoubtError, true, rfl, rfl, ⟨d1, _, rfl, upd_same⟩, (fun u r => r), kDE, _, rfl, iteT ?_⟩
      refine ⟨_, rfl, .ty "ValueError", .type "ValueError", true, rfl, rfl, ⟨d1, _, rfl, upd_same⟩, (fun u r => r), kVE, _, rfl, iteT ?_⟩
      refine ⟨_, rfl, rfl, rfl, d1, _, _, rfl, upd_same, rfl, ?_⟩
      have := q _ (s1.trans ux)
      rw [hr] at this
      exact this
    · exact G H1 s1 hr
  · refine ⟨_, rfl, rfl, _, rfl, iteN (by decide +kernel) ⟨_, rfl, rfl, _, rfl, iteN (by decide +kernel) ⟨_, rfl, rfl, _, rfl, iteN (by decide +kernel) ⟨_, rfl, rfl, _, rfl, iteN (by decide +kernel) ⟨_, rfl, rfl, _, rfl, iteY rfl ⟨_, rfl, p, _, 0, _, rfl, rfl, SqL.of hp, at_zero, _, rfl, p, _, 1, _, rfl, rfl, SqL.of hp, at_of (j := 1) rfl rfl, v, u, rfl, rsO_use hR hF hz h1 (fun nm hr d1 H1 s1 hd => ?_) fun hr x H1 s1 => ?_⟩⟩⟩⟩⟩⟩
    · have ux := same_upd (o := .xd [(("name" : Str), V.str nm)]) hd
      refine ⟨true, teBadValue TBadValue, fun _ a0 _ => ?_, fun z => nomatch z⟩
      refine ⟨_, rfl, .ref CDoubtError, .ref CDoubtError, true, rfl, rfl, ⟨d1, _, rfl, upd_same⟩, (fun u r => r), kDE, _, rfl, iteT ?_⟩
      refine ⟨_, rfl, .ty "ValueError", .type "ValueError", true, rfl, rfl, ⟨d1, _, rfl, upd_same⟩, (fun u r => r), kVE, _, rfl, iteT ?_⟩
      refine ⟨_, rfl, rfl, rfl, d1, _, _, rfl, upd_same, rfl, ?_⟩
      have := q _ (s1.trans ux)
      rw [hr] at this
      exact this
    · exact G H1 s1 hr
end
end My
namespace My
open PySem PySem.Spec PyProof.Rows L2
/-! ### written data -/
def GD (σ : L2.St) (ta : TE) (d : My.D) : Prop := ∀ (H : Hp) (Q : VK), (∀ v H', Same H H' → Rep H' v d → Q v H') → ta σ H Q
def GDs (σ : L2.St) (t : TA) (ds : List My.D) : Prop := ∀ (H : Hp) (Q : List V → Hp → Prop), (∀ vs H', Same H H' → Two (Rep H') vs ds → Q vs H') → t σ H Q
theorem gd_str {σ : L2.St} {z : Str} (h : z.length ≤ 1000) : GD σ (tC (.str z)) (.str z) := fun H Q q => q _ H (Same.refl H) (.str h)
theorem gd_non {σ : L2.St} : GD σ (tC .non) .flat := fun H Q q => q _ H (Same.refl H) .non
theorem gd_bl {σ : L2.St} {b : Bool} : GD σ (tC (.bl b)) .flat := fun H Q q => q _ H (Same.refl H) (.bl b)
theorem gd_int {σ : L2.St} {i : Int} : GD σ (tC (.int i)) .flat := fun H Q q => q _ H (Same.refl H) (.int i)
theorem gds_nil {σ : L2.St} : GDs σ tNil [] := fun H Q q => q _ H (Same.refl H) .nil
theorem gds_cons {σ : L2.St} {ta : TE} {t : TA} {d : My.D} {ds : List My.D} (h : GD σ ta d) (k : GDs σ t ds) : GDs σ (tCons ta t) (d :: ds) := fun H Q q =>
  h H _ fun v H1 s1 r1 => k H1 _ fun vs H2 s2 r2 => q _ H2 (s1.trans s2) (.cons (r1.pers (Pers.same s2)) r2)
theorem gd_tup {σ : L2.St} {t : TA} {ds : List My.D} (h : GDs σ t ds) (z : ds.length ≤ 100000) : GD σ (tTup t) (.tup ds) := fun H Q q =>
  h H _ fun vs H1 s1 r1 => ⟨Nat.le_trans (Nat.le_of_eq r1.len) (Nat.le_trans z (by decide)), fun p hp => q _ _ (s1.trans (same_upd hp)) (Rep.tup2 upd_same (Nat.le_trans (Nat.le_of_eq r1.len) z) (Rep.pers2 (Pers.new hp) r1))⟩
theorem gd_lst {σ : L2.St} {t : TA} {ds : List My.D} (h : GDs σ t ds) (z : ds.length ≤ 100000) : GD σ (tLst t) .lst := fun H Q q =>
  h H _ fun vs H1 s1 r1 => ⟨Nat.le_trans (Nat.le_of_eq r1.len) (Nat.le_trans z (by decide)), fun p hp => q _ _ (s1.trans (same_upd hp)) (.lst upd_same)⟩
/-- a written list as the last argument -/
theorem gds_arg {σ : L2.St} {t : TA} {ds : List My.D} {H : Hp} {Q : List V → Hp → Prop} (h : GDs σ t ds) (z : ds.length ≤ 100000) (k : ∀ vs H', Same H H' → Two (Rep H') vs ds → ∀ l, H' l = none → Q [.ref l] (upd H' l (.lst vs))) : tCons (tLst t) tNil σ H Q :=
  h H _ fun vs H1 s1 r1 => ⟨Nat.le_trans (Nat.le_of_eq r1.len) (Nat.le_trans z (by decide)), fun p hp => k vs H1 s1 r1 p hp⟩
def pairOk : List My.D → Bool
  | [.str w, y] => !(decide (w = sJoin) || decide (w = sOr)) || rowFlat y
  | _ => true
def flB : Nat → My.D → Bool
  | 0, _ => false
  | _ + 1, .str _ => true
  | _ + 1, .lst => true
  | _ + 1, .flat => true
  | n + 1, .tup ds => pairOk ds && ds.all (flB n)
theorem flB_ok : ∀ {n : Nat} {d : My.D}, flB n d = true → Fl d
  | 0, d, h => by cases h
  | _ + 1, .str _, _ => .str _
  | _ + 1, .lst, _ => .lst
  | _ + 1, .flat, _ => .flat
  | n + 1, .tup ds, h => by
    have h' : (pairOk ds && ds.all (flB n)) = true := h
    rw [Bool.and_eq_true, List.all_eq_true] at h'
    refine .tup (fun w y e c => ?_) fun d hd => flB_ok (h'.2 d hd)
    have h1 := h'.1
    rw [e] at h1
    have h2 : (!(decide (w = sJoin) || decide (w = sOr)) || rowFlat y) = true := h1
    rcases c with c | c
    · rw [decide_eq_true c] at h2
      exact h2
    · rw [decide_eq_true c, Bool.or_true] at h2
      exact h2
def nestD (z : Str) : Nat → My.D
  | 0 => .str "a"
  | n + 1 => .tup [.str z, nestD z n]
def spChD : Sp := fun vs H Q _ => ∃ n : Nat, vs = [.int (n : Int)] ∧ n ≤ 5000 ∧ ∀ v H', Same H H' → Rep H' v (nestD "maybe" n) → Q v H'
theorem gd_chain {σ : L2.St} {n : Nat} (hn : n ≤ 5000) : GD σ (tCall spChD [] E0 (tCons (tC (.int (n : Int))) tNil)) (nestD "maybe" n) := fun H Q q => ⟨n, rfl, hn, fun v H' s r => q v H' s r⟩
theorem gd_mulS {K : PySem.W.Frag} {σ : L2.St} {z : Str} {n : Int} (hm : MulOk z n) (h : (Txt.mul z n).length ≤ 1000) : GD σ (tOp (fun x y H Q => ∃ z n, x = .str z ∧ y = .int n ∧ MulOk z n ∧ Q (.str (Txt.mul z n)) H) (tC (.str z)) (tC (.int n))) (.str (Txt.mul z n)) := fun H Q q => ⟨z, n, rfl, rfl, hm, q _ H (Same.refl H) (.str h)⟩
theorem step_seq {t u : TS} {D : Ends} {σ : L2.St} {H : Hp} (h : t { D with nx := u D } σ H) : tSeq t u D σ H := h
theorem step_name {i : Nat} {v : V} {σ : L2.St} {H : Hp} {Q : L2.St → Hp → Prop} (h : Q (σ.set i (some v)) H) : gName i v σ H Q := h
theorem step_asg {te : TE} {g : TG} {D : Ends} {σ : L2.St} {H : Hp} (h : te σ H fun x H1 => g x σ H1 D.nx) : tAsg te g D σ H := h
theorem step_op {r : R2} {ta tb : TE} {σ : L2.St} {H : Hp} {Q : VK} (h : ta σ H fun x H1 => tb σ H1 fun y H2 => r x y H2 Q) : tOp r ta tb σ H Q := h
theorem gds_lst {σ : L2.St} {t : TA} {ds : List My.D} {H : Hp} {Q : VK} (h : GDs σ t ds) (z : ds.length ≤ 100000) (k : ∀ vs H', Same H H' → Two (Rep H') vs ds → ∀ l, H' l = none → Q (.ref l) (upd H' l (.lst vs))) : tLst t σ H Q :=
  h H _ fun vs H1 s1 r1 => ⟨Nat.le_trans (Nat.le_of_eq r1.len) (Nat.le_trans z (by decide)), fun p hp => k vs H1 s1 r1 p hp⟩
theorem two_flat {α β : Type} {R : α → β → Prop} {as : List α} {bs : List β} (h : Two R as bs) : ∀ n, Two R (List.replicate n as).flatten (List.replicate n bs).flatten
  | 0 => .nil
  | n + 1 => by
    rw [List.replicate_succ, List.replicate_succ, List.flatten_cons, List.flatten_cons]
    exact h.app (two_flat h n)
theorem gd_rep {K : PySem.W.Frag} {σ : L2.St} {t : TA} {ds : List My.D} {k : Int} (h : GDs σ t ds) (h1 : ds ≠ []) (h2 : ds.length ≤ 1000) (k2 : 2 ≤ k) (k3 : k ≤ 1000) (z : (List.replicate k.toNat ds).flatten.length ≤ 100000) : GD σ (tOp (rRepT K) (tTup t) (tC (.int k))) (.tup (List.replicate k.toNat ds).flatten) := fun H Q q =>
  h H _ fun vs H1 s1 r1 => ⟨Nat.le_trans (Nat.le_of_eq r1.len) (Nat.le_trans h2 (by decide)), fun p hp => ⟨p, k, vs, rfl, rfl, SqT.of upd_same, (fun e => h1 (by rw [e] at r1; cases r1; rfl)), k2, k3, by rw [r1.len]; exact h2, fun p' hp' => q _ _ ((s1.trans (same_upd hp)).trans (same_upd hp')) (Rep.tup2 upd_same (by rw [(two_flat r1 k.toNat).len]; exact z) (Rep.pers2 (Pers.same ((same_upd hp).trans (same_upd hp'))) (two_flat r1 k.toNat)))⟩⟩
theorem Two.mem {α β : Type} {R : α → β → Prop} {as : List α} {bs : List β} (h : Two R as bs) {a : α} (ha : a ∈ as) : ∃ b ∈ bs, R a b := by
  induction h with
  | nil => cases ha
  | cons h t ih =>
    rcases List.mem_cons.mp ha with rfl | ha
    · exact ⟨_, List.mem_cons_self .., h⟩
    · obtain ⟨b, hb, r⟩ := ih ha
      exact ⟨b, List.mem_cons_of_mem _ hb, r⟩
theorem gd_repL {K : PySem.W.Frag} {σ : L2.St} {t : TA} {ds : List My.D} {k : Int} (h : GDs σ t ds) (h1 : ds ≠ []) (h2 : ds.length ≤ 1000) (k2 : 2 ≤ k) (k3 : k ≤ 1000) (z : (List.replicate k.toNat ds).flatten.length ≤ 100000) : GD σ (fun σ H Q => tTup t σ H fun x H1 => tC (.int k) σ H1 fun y H2 => rRepT K x y H2 Q) (.tup (List.replicate k.toNat ds).flatten) := gd_rep h h1 h2 k2 k3 z
theorem gd_mulX {σ : L2.St} {z : Str} {n : Int} (hm : MulOk z n) (h : (Txt.mul z n).length ≤ 1000) : GD σ (fun σ H Q => tC (.str z) σ H fun x H1 => tC (.int n) σ H1 fun y H2 => ∃ z n, x = V.str z ∧ y = V.int n ∧ MulOk z n ∧ Q (V.str (Txt.mul z n)) H2) (.str (Txt.mul z n)) := fun H Q q => ⟨z, n, rfl, rfl, hm, q _ H (Same.refl H) (.str h)⟩
theorem go_tup0 {a r : Addr} {H H' : Hp} {xs : List V} (g : Go a H H') (h : H r = some (.tup xs)) : H' r = some (.tup xs) := g.pers.tup _ _ h
theorem mulok_a : MulOk "a" 25 := ⟨by decide, fun _ _ => by decide +kernel, fun _ _ => by decide +kernel⟩
theorem mulok_6 : MulOk "abcd" 6 := ⟨by decide, fun _ _ => by decide +kernel, fun _ _ => by decide +kernel⟩
def altE : E := .alt (List.replicate 40 [E.sym 97]).flatten
def joiE : E := .join (List.replicate 8 [E.sym 98]).flatten
def mayE : Nat → E
  | 0 => .sym 97
  | n + 1 => .maybe (mayE n)
def goodsT : List My.D := [.tup [.str "or", .tup (List.replicate (40 : Int).toNat [My.D.str "a"]).flatten], nestD "maybe" 40, .tup [.str "join", .tup (List.replicate (8 : Int).toNat [My.D.str "b"]).flatten]]
def GoodD (d : My.D) : Prop := ∃ e, Eok e ∧ (dE e).depth ≤ 60 ∧ d = e.toD
theorem goodsT_ok : ∀ d ∈ goodsT, GoodD d := fun d hd => by
  rcases List.mem_cons.mp hd with rfl | hd
  · exact ⟨altE, ⟨by decide +kernel, by decide +kernel, by decide +kernel, by decide +kernel, by decide +kernel⟩, by decide +kernel, by kernel_rfl⟩
  rcases List.mem_cons.mp hd with rfl | hd
  · exact ⟨mayE 40, ⟨by decide +kernel, by decide +kernel, by decide +kernel, by decide +kernel, by decide +kernel⟩, by decide +kernel, by kernel_rfl⟩
  rw [List.mem_singleton.mp hd]
  exact ⟨joiE, ⟨by decide +kernel, by decide +kernel, by decide +kernel, by decide +kernel, by decide +kernel⟩, by decide +kernel, by kernel_rfl⟩
def badsD : List My.D := [.flat, .flat, .str "e", .str "ab", .tup [.str "join", .tup [.str "a"]], .lst, .tup [.str "or", .lst], .tup [.str "or", .tup [.str "a", .tup [.str "or", .tup [.str "b", .str "c"]]]], .tup [.str "or", .tup (List.replicate (41 : Int).toNat [My.D.str "a"]).flatten], nestD "maybe" 41, nestD "maybe" 2000, .tup [.str "join", .tup (List.replicate (200 : Int).toNat [My.D.str ""]).flatten], .tup [.str "maybe", .tup [.str "a"]], .tup [.str "many", .str "a", .flat], .tup []]
def oddB (d : My.D) : Bool := flB 2100 d && !(sizesOf BndL d).isSome && decide (d.size ≤ 1000000)
theorem badsD_ok : badsD.all oddB = true := by decide +kernel
def nwordsD : List My.D := [.flat, .str "e", .str (Txt.mul "a" 25), .lst, .flat, .str "a b", .flat]
theorem nwordsD_ok : nwordsD.all (fun d => !isWord d) = true := by decide +kernel
def nordersD : List My.D := [.flat, .str "abc", .str "abcdd", .str "aabc", .lst, .str "ABCD", .flat, .str ""]
theorem nordersD_ok : nordersD.all (fun d => !isOrdD d) = true := by decide +kernel
/-- a list that stays, of written data -/
def BadL (a : Addr) (H : Hp) (l : Addr) (p : My.D → Bool) : Prop := l ≠ a ∧ ∃ vs, H l = some (.lst vs) ∧ 0 < vs.length ∧ vs.length < 100000 ∧ ∀ v ∈ vs, ∃ d, Rep H v d ∧ p d = true
theorem BadL.pers {a l : Addr} {H H' : Hp} {p : My.D → Bool} (h : BadL a H l p) (g : Go a H H') : BadL a H' l p := by
  obtain ⟨h0, vs, h1, h2, h3, h4⟩ := h
  refine ⟨h0, vs, g.keep _ _ h1 h0, h2, h3, fun v hv => ?_⟩
  obtain ⟨d, h5, h6⟩ := h4 v hv
  exact ⟨d, h5.pers g.pers, h6⟩
theorem BadL.same {a l : Addr} {H H' : Hp} {p : My.D → Bool} (h : BadL a H l p) (g : Same H H') : BadL a H' l p := by
  obtain ⟨h0, vs, h1, h2, h3, h4⟩ := h
  refine ⟨h0, vs, g _ _ h1, h2, h3, fun v hv => ?_⟩
  obtain ⟨d, h5, h6⟩ := h4 v hv
  exact ⟨d, h5.pers (Pers.same g), h6⟩
theorem badl_of {a l : Addr} {H H0 : Hp} {vs : List V} {ds : List My.D} {p : My.D → Bool} (st : Strm H0 a) (hl : H0 l = none) (hH : upd H0 l (.lst vs) = H) (two : Two (Rep H0) vs ds) (h0 : 0 < ds.length) (h1 : ds.length < 100000) (hp : ds.all p = true) : BadL a H l p := by
  subst hH
  refine ⟨(st.ne hl).symm, vs, upd_same, by rw [two.len]; exact h0, by rw [two.len]; exact h1, fun v hv => ?_⟩
  obtain ⟨d, hd, hr⟩ := two.mem hv
  exact ⟨d, hr.pers (Pers.new hl), List.all_eq_true.mp hp d hd⟩
def Told (H : Hp) (wd : Str) (us : List V) (res : Option Str) : Prop := ∃ (v : V) (d : My.D), Rep H v d ∧ Fl d ∧ d.size ≤ 1000000 ∧ RS H wd us v d res
theorem drawn_good {e : E} (hD : Drawn e 8 4 none) : GoodD e.toD := by
  have h1 := hD.dp
  have h2 := hD.pl
  have h3 := hD.pt
  have h4 : pb 4 = 121 := rfl
  have h5 := dE_dep e
  exact ⟨e, ⟨hD.ok, by omega, by omega, by omega, by have := size_le e; omega⟩, by omega, rfl⟩
def RowAt7 (a D : Addr) (H : Hp) (v : V) (wd : Str) (us : List V) (ls : List Addr) (nms : List Str) : Prop := ∃ t r ws ns, v = .ref t ∧ H t = some (.tup [.str wd, .ref r, .ref ws, .ref ns]) ∧ (t ≠ a ∧ r ≠ a ∧ ws ≠ a ∧ ns ≠ a) ∧ (t ≠ D ∧ r ≠ D ∧ ws ≠ D ∧ ns ≠ D) ∧ H r = some (.lst us) ∧ H ws = some (.lst (ls.map V.ref)) ∧ H ns = some (.lst (nms.map V.str))
def KD (a D : Addr) (H H' : Hp) : Prop := ∀ b o, H b = some o → b ≠ a → b ≠ D → H' b = some o
theorem KD.same {a D : Addr} {H H' : Hp} (s : Same H H') : KD a D H H' := fun b o h _ _ => s b o h
theorem KD.go {a D : Addr} {H H' : Hp} (g : Go a H H') : KD a D H H' := fun b o h n _ => g.keep b o h n
theorem KD.store {a D : Addr} {H : Hp} {o : HO} : KD a D H (upd H D o) := fun b u h _ n => by rw [upd_ne n]; exact h
theorem KD.trans {a D : Addr} {H H1 H2 : Hp} (x : KD a D H H1) (y : KD a D H1 H2) : KD a D H H2 := fun b o h n m => y b o (x b o h n m) n m
theorem RowAt7.kd {a D : Addr} {H H' : Hp} {v : V} {wd : Str} {us : List V} {ls : List Addr} {nms : List Str} (h : RowAt7 a D H v wd us ls nms) (k : KD a D H H') : RowAt7 a D H' v wd us ls nms := by
  obtain ⟨t, r, ws, ns, h1, h2, ⟨a1, a2, a3, a4⟩, ⟨b1, b2, b3, b4⟩, h3, h4, h5⟩ := h
  exact ⟨t, r, ws, ns, h1, k _ _ h2 a1 b1, ⟨a1, a2, a3, a4⟩, ⟨b1, b2, b3, b4⟩, k _ _ h3 a2 b2, k _ _ h4 a3 b3, k _ _ h5 a4 b4⟩
def RowK (a D : Addr) (H : Hp) (gv : V) (l7 l9 l11 : Addr) (v : V) : Prop := (∃ wd ∈ ones, RowAt7 a D H v wd [gv] [l7] ["expression"]) ∨ (∃ z, z.length ≤ 24 ∧ LetW z ∧ RowAt7 a D H v "matches" [gv, .str z] [l7, l9] ["expression", "word"]) ∨ ∃ z, Ord z ∧ RowAt7 a D H v "renamed" [gv, .str z] [l7, l11] ["expression", "order"]
theorem RowK.kd {a D l7 l9 l11 : Addr} {H H' : Hp} {gv v : V} (h : RowK a D H gv l7 l9 l11 v) (k : KD a D H H') : RowK a D H' gv l7 l9 l11 v := by
  rcases h with ⟨wd, h1, h2⟩ | ⟨z, h1, h2, h3⟩ | ⟨z, h1, h3⟩
  · exact .inl ⟨wd, h1, h2.kd k⟩
  · exact .inr (.inl ⟨z, h1, h2, h3.kd k⟩)
  · exact .inr (.inr ⟨z, h1, h3.kd k⟩)
def RowD (H : Hp) (wd : Str) (us : List V) (bl : List (Addr × (My.D → Bool))) (nms : List Str) : Prop := us.length = bl.length ∧ us.length ≤ 2 ∧ Told H wd us none ∧ ∀ k < us.length, ∀ xs, Two (fun x b => ∃ d, Rep H x d ∧ b.2 d = true) xs bl → ∃ nm x, nms[k]? = some nm ∧ xs[k]? = some x ∧ Told H wd (us.take k ++ [x] ++ us.drop (k + 1)) (some nm) ∧ Told H wd (us.take k ++ xs.drop k) (some nm)
theorem odd_use {d : My.D} (h : oddB d = true) : Fl d ∧ d.size ≤ 1000000 ∧ (sizesOf BndL d).isSome = false := by
  unfold oddB at h
  simp only [Bool.and_eq_true, Bool.not_eq_true', decide_eq_true_eq] at h
  exact ⟨flB_ok h.1.1, h.2, h.1.2⟩
theorem rowd1 {H : Hp} {gv : V} {e : E} {wd : Str} {l7 : Addr} (hw : wd ∈ ones) (hE : Eok e) (hd : (dE e).depth ≤ 60) (hR : Rep H gv e.toD) : RowD H wd [gv] [(l7, oddB)] ["expression"] := by
  refine ⟨rfl, (by show 1 ≤ 2; decide), ⟨gv, _, hR, fl_toD e, hE.sz, .inl ⟨hw, rfl, .inr ⟨e, hE, hd, rfl, rfl⟩⟩⟩, fun k hk xs tw => ?_⟩
  obtain rfl : k = 0 := Nat.lt_one_iff.mp hk
  cases tw with
  | cons h t =>
    cases t
    obtain ⟨d, h1, h2⟩ := h
    obtain ⟨o1, o2, o3⟩ := odd_use h2
    have T : Told H wd [_] (some "expression") := ⟨_, d, h1, o1, o2, .inl ⟨hw, rfl, .inl ⟨o3, rfl⟩⟩⟩
    exact ⟨_, _, rfl, rfl, T, T⟩
theorem rowd2 {H : Hp} {gv : V} {e : E} {z : Str} {l7 l9 : Addr} (hz : z.length ≤ 24) (hl : LetW z) (hE : Eok e) (hR : Rep H gv e.toD) : RowD H "matches" [gv, .str z] [(l7, oddB), (l9, fun d => !isWord d)] ["expression", "word"] := by
  refine ⟨rfl, (by show 2 ≤ 2; decide), ⟨gv, _, hR, fl_toD e, hE.sz, .inr (.inl ⟨rfl, .str z, rfl, .inr ⟨e, hE, rfl, .inr ⟨z, rfl, hz, hl, rfl⟩⟩⟩)⟩, fun k hk xs tw => ?_⟩
  cases tw with
  | cons h t =>
    cases t with
    | cons h' t =>
      cases t
      obtain ⟨d, h1, h2⟩ := h
      obtain ⟨o1, o2, o3⟩ := odd_use h2
      obtain ⟨d', h1', h2'⟩ := h'
      have h2' : isWord d' = false := by simpa using h2'
      rcases (show k = 0 ∨ k = 1 by have : k < 2 := hk; omega) with rfl | rfl
      · exact ⟨_, _, rfl, rfl, ⟨_, d, h1, o1, o2, .inr (.inl ⟨rfl, _, rfl, .inl ⟨o3, rfl⟩⟩)⟩, ⟨_, d, h1, o1, o2, .inr (.inl ⟨rfl, _, rfl, .inl ⟨o3, rfl⟩⟩)⟩⟩
      · have T : Told H "matches" [gv, _] (some "word") := ⟨gv, _, hR, fl_toD e, hE.sz, .inr (.inl ⟨rfl, _, rfl, .inr ⟨e, hE, rfl, .inl ⟨d', h1', h2', rfl⟩⟩⟩)⟩
        exact ⟨_, _, rfl, rfl, T, T⟩
theorem rowd3 {H : Hp} {gv : V} {e : E} {z : Str} {l7 l9 : Addr} (hO : Ord z) (hE : Eok e) (hd : (dE e).depth ≤ 60) (hR : Rep H gv e.toD) : RowD H "renamed" [gv, .str z] [(l7, oddB), (l9, fun d => !isOrdD d)] ["expression", "order"] := by
  refine ⟨rfl, (by show 2 ≤ 2; decide), ⟨gv, _, hR, fl_toD e, hE.sz, .inr (.inr ⟨rfl, .str z, rfl, .inr ⟨e, hE, hd, rfl, .inr ⟨z, rfl, hO, rfl⟩⟩⟩)⟩, fun k hk xs tw => ?_⟩
  cases tw with
  | cons h t =>
    cases t with
    | cons h' t =>
      cases t
      obtain ⟨d, h1, h2⟩ := h
      obtain ⟨o1, o2, o3⟩ := odd_use h2
      obtain ⟨d', h1', h2'⟩ := h'
      have h2' : isOrdD d' = false := by simpa using h2'
      rcases (show k = 0 ∨ k = 1 by have : k < 2 := hk; omega) with rfl | rfl
      · exact ⟨_, _, rfl, rfl, ⟨_, d, h1, o1, o2, .inr (.inr ⟨rfl, _, rfl, .inl ⟨o3, rfl⟩⟩)⟩, ⟨_, d, h1, o1, o2, .inr (.inr ⟨rfl, _, rfl, .inl ⟨o3, rfl⟩⟩)⟩⟩
      · have T : Told H "renamed" [gv, _] (some "order") := ⟨gv, _, hR, fl_toD e, hE.sz, .inr (.inr ⟨rfl, _, rfl, .inr ⟨e, hE, hd, rfl, .inl ⟨d', h1', h2', rfl⟩⟩⟩)⟩
        exact ⟨_, _, rfl, rfl, T, T⟩
theorem mulok_24 : MulOk "a" 24 := ⟨by decide, fun _ _ => by decide +kernel, fun _ _ => by decide +kernel⟩
theorem gow_in {x : V} (h : x ∈ [V.str "", V.str (Txt.mul "a" 24), V.str "dcba"]) : ∃ z : Str, x = .str z ∧ z.length ≤ 24 ∧ LetW z := by
  rcases List.mem_cons.mp h with rfl | h
  · exact ⟨_, rfl, by decide +kernel, by unfold LetW; decide +kernel⟩
  rcases List.mem_cons.mp h with rfl | h
  · exact ⟨_, rfl, by decide +kernel, by unfold LetW; decide +kernel⟩
  rw [List.mem_singleton.mp h]
  exact ⟨_, rfl, by decide +kernel, by unfold LetW; decide +kernel⟩
theorem goo_in {x : V} (h : x ∈ [V.str "abcd", V.str "dcba", V.str "bdac"]) : ∃ z : Str, x = .str z ∧ Ord z := by
  rcases List.mem_cons.mp h with rfl | h
  · exact ⟨_, rfl, ⟨by decide +kernel⟩⟩
  rcases List.mem_cons.mp h with rfl | h
  · exact ⟨_, rfl, ⟨by decide +kernel⟩⟩
  rw [List.mem_singleton.mp h]
  exact ⟨_, rfl, ⟨by decide +kernel⟩⟩
theorem cutN_drop (xs : List V) (i : Nat) : cutV xs (some (i : Int)) none = xs.drop i := by
  unfold cutV
  rw [HT.sIx_none, HT.sIx_nat]
  by_cases h : i ≤ xs.length
  · rw [Nat.min_eq_left h, List.take_of_length_le (by rw [List.length_drop]; omega)]
  · rw [Nat.min_eq_right (by omega), Nat.sub_self, List.take_zero, List.drop_eq_nil_of_le (by omega)]
theorem cutN_take (xs : List V) (i : Nat) : cutV xs none (some (i : Int)) = xs.take i := by
  unfold cutV
  rw [HT.sIx_none, HT.sIx_nat, List.drop_zero, Nat.sub_zero]
  by_cases h : i ≤ xs.length
  · rw [Nat.min_eq_left h]
  · rw [Nat.min_eq_right (by omega), List.take_length, List.take_of_length_le (by omega)]
theorem keepD {H1 H2 H3 : Hp} {D : Addr} {o : HO} (hD : H1 D = none) (s2 : Same H1 H2) (s3 : Same H2 H3) : Same H1 (upd H3 D o) := fun b u hb => by
  rw [upd_ne (ne_of_none hb hD)]
  exact s3 _ _ (s2 _ _ hb)
section
variable {P : Program} {w : World} {K : PySem.W.Frag} {mg : Str → Option Value} {base : Heap} {a_BOUNDS a_LONG_BOUNDS : Addr} {tL tM : Tok} {CE fI : Addr}
abbrev N__law_chain : List Str := ["many", "found", "k"]
theorem sc__law_chain : FnScope ["many", "found", "k"] ["many"] (defScope s__law_chain) := ⟨rfl, rfl, rfl, by decide +kernel, rfl, by decide +kernel, by decide +kernel⟩
theorem ok_chain {f : Addr} {fd : FuncData} (B : Bt K mg a_BOUNDS a_LONG_BOUNDS tL tM) (Dd : Df K mg "_law_chain" s__law_chain ["many"] f fd) : FnOk P w K mg base CX0 1 f fd ["many"] spChD := by
  refine Dd.F.ok sc__law_chain (fun vs H Q Ex h => ?_) (fun cdv A outer s H vs Q Ex hr h => ?_)
  · obtain ⟨n, rfl, _⟩ := h
    rfl
  obtain ⟨n, rfl, hn, q⟩ := h
  refine ⟨_, (pss_cons (ps_set (i := 1) sc__law_chain.nd rfl (Or.inl rfl) pe_str)
    (pss_cons (ps_for PassesOwn.never rfl (pi_range1 rfl B.b_range (pa_cons (pv 0) pa_nil)) (pg_name (i := 2) sc__law_chain.nd rfl (Or.inl rfl)) (pss_one (ps_set (i := 1) sc__law_chain.nd rfl (Or.inl rfl) (pe_tup (pa_cons pe_str (pa_cons (pv 1) pa_nil))))))
    (pss_one (ps_ret (pv 1))))), ?_⟩
  refine ⟨_, rfl, _, rfl, by omega, by omega, for_range (lo := 0) (n := n) (fun i σ' H' => ∃ (v : V) (o3 : Option V), σ' = [some (.int (n : Int)), some v, o3] ∧ Same H H' ∧ Rep H' v (nestD "maybe" i)) ?_ ?_ ?_⟩
  · exact ⟨_, none, rfl, Same.refl _, .str (by decide)⟩
  · rintro i σ' H1 hi ⟨v, o3, rfl, s1, hR⟩
    refine ⟨_, rfl, by show 2 ≤ sizeLine; decide, fun T hT => ?_⟩
    have u := same_upd (o := .tup [V.str "maybe", v]) hT
    exact ⟨_, _, rfl, s1.trans u, Rep.tup2 upd_same (by show 2 ≤ 100000; decide) (.cons (.str (by decide +kernel)) (.cons (hR.pers (Pers.same u)) .nil))⟩
  · rintro σ' H1 ⟨v, o3, rfl, s1, hR⟩
    exact ⟨_, rfl, q v H1 s1 hR⟩
def spLaw (K : PySem.W.Frag) : Sp := fun vs H Q _ => ∃ (s : Addr) (ns : List Int), vs = [.ref s] ∧ SqL K H s (ns.map V.int) ∧ ns.length ≤ 63 ∧ ∀ H', Q (.bl true) H'
abbrev N_law : List Str := ["script", "stream", "good", "bad", "bad_word", "bad_order", "rows", "word", "right", "wrongs", "names", "k", "wrong", "alone", "name", "options"]
theorem sc_law : FnScope ["script", "stream", "good", "bad", "bad_word", "bad_order", "rows", "word", "right", "wrongs", "names", "k", "wrong", "alone", "name", "options"] ["script"] (defScope s_law) := ⟨rfl, rfl, rfl, by decide +kernel, rfl, by decide +kernel, by decide +kernel⟩
set_option maxHeartbeats 8000000 in
theorem ok_law {f : Addr} {fd : FuncData} (B : Bt K mg a_BOUNDS a_LONG_BOUNDS tL tM) (Dd : Df K mg "law" s_law ["script"] f fd)
    (G_law_stream : Cl P w K mg base 1 "_law_stream" ["script"] (spStream K)) (G_law_expression : Cl P w K mg base 8 "_law_expression" ["stream", "most"] spExpr) (G_law_pick : Cl P w K mg base 2 "_law_pick" ["stream", "rows"] (spPickB K)) (G_law_chain : Cl P w K mg base 1 "_law_chain" ["many"] spChD) (G_law_told : Cl P w K mg base 90 "_law_told" ["word", "parts"] spTold) : FnOk P w K mg base CX0 91 f fd ["script"] (spLaw K) := by
  refine Dd.F.ok sc_law (fun vs H Q Ex h => ?_) (fun cdv A outer s H vs Q Ex hr h => ?_)
  · obtain ⟨s, ns, rfl, _⟩ := h
    rfl
  obtain ⟨s, ns, rfl, hs, hn, q⟩ := h
  refine ⟨_, (pss_cons (ps_set (i := 1) sc_law.nd rfl (Or.inr rfl) (pe_cl G_law_stream (hr.mono (by omega)) rfl (pa_cons (pv 0) pa_nil)))
    (pss_cons (ps_set (i := 2) sc_law.nd rfl (Or.inr rfl) (pe_cl G_law_pick (hr.mono (by omega)) rfl (pa_cons (pv 1) (pa_cons (pe_lst (pa_cons (pe_cl G_law_expression (hr.mono (by omega)) rfl (pa_cons (pv 1) (pa_cons pe_int pa_nil))) (pa_cons (pe_tup (pa_cons pe_str (pa_cons (pe_op op_repT (pe_tup (pa_cons pe_str pa_nil)) pe_int) pa_nil))) (pa_cons (pe_cl G_law_chain (hr.mono (by omega)) rfl (pa_cons pe_int pa_nil)) (pa_cons (pe_tup (pa_cons pe_str (pa_cons (pe_op op_repT (pe_tup (pa_cons pe_str pa_nil)) pe_int) pa_nil))) pa_nil))))) pa_nil))))
    (pss_cons (ps_set (i := 3) sc_law.nd rfl (Or.inr rfl) (pe_lst (pa_cons pe_non (pa_cons pe_bl (pa_cons pe_str (pa_cons pe_str (pa_cons (pe_tup (pa_cons pe_str (pa_cons (pe_tup (pa_cons pe_str pa_nil)) pa_nil))) (pa_cons (pe_lst (pa_cons pe_str (pa_cons (pe_tup (pa_cons pe_str (pa_cons pe_str pa_nil))) pa_nil))) (pa_cons (pe_tup (pa_cons pe_str (pa_cons (pe_lst (pa_cons pe_str (pa_cons pe_str pa_nil))) pa_nil))) (pa_cons (pe_tup (pa_cons pe_str (pa_cons (pe_tup (pa_cons pe_str (pa_cons (pe_tup (pa_cons pe_str (pa_cons (pe_tup (pa_cons pe_str (pa_cons pe_str pa_nil))) pa_nil))) pa_nil))) pa_nil))) (pa_cons (pe_tup (pa_cons pe_str (pa_cons (pe_op op_repT (pe_tup (pa_cons pe_str pa_nil)) pe_int) pa_nil))) (pa_cons (pe_cl G_law_chain (hr.mono (by omega)) rfl (pa_cons pe_int pa_nil)) (pa_cons (pe_cl G_law_chain (hr.mono (by omega)) rfl (pa_cons pe_int pa_nil)) (pa_cons (pe_tup (pa_cons pe_str (pa_cons (pe_op op_repT (pe_tup (pa_cons pe_str pa_nil)) pe_int) pa_nil))) (pa_cons (pe_tup (pa_cons pe_str (pa_cons (pe_tup (pa_cons pe_str pa_nil)) pa_nil))) (pa_cons (pe_tup (pa_cons pe_str (pa_cons pe_str (pa_cons pe_int pa_nil)))) (pa_cons (pe_tup pa_nil) pa_nil)))))))))))))))))
    (pss_cons (ps_set (i := 4) sc_law.nd rfl (Or.inl rfl) (pe_lst (pa_cons pe_non (pa_cons pe_str (pa_cons (pe_op op_mul_str pe_str pe_int) (pa_cons (pe_lst (pa_cons pe_str pa_nil)) (pa_cons pe_int (pa_cons pe_str (pa_cons pe_bl pa_nil)))))))))
    (pss_cons (ps_set (i := 5) sc_law.nd rfl (Or.inl rfl) (pe_lst (pa_cons pe_non (pa_cons pe_str (pa_cons pe_str (pa_cons pe_str (pa_cons (pe_lst (pa_cons pe_str (pa_cons pe_str (pa_cons pe_str (pa_cons pe_str pa_nil))))) (pa_cons pe_str (pa_cons pe_int (pa_cons pe_str pa_nil))))))))))
    (pss_cons (ps_setLc (i := 6) (own := [("name", 14)]) (g := gName 14) (tt := tYes) rfl sc_law.nd rfl rfl (sw_true rfl rfl rfl (by decide +kernel)) (pi_list (pe_lst (pa_cons pe_str (pa_cons pe_str (pa_cons pe_str (pa_cons pe_str (pa_cons pe_str (pa_cons pe_str pa_nil)))))))) (blkOk_by (N := N_law) (sc := defScope s_law) (by decide +kernel)) (fun _ _ _ _ _ => pg_name (i := 14) sc_law.nd rfl (Or.inl rfl)) (fun _ _ _ _ _ => pts_nil) (fun _ _ _ _ _ => (pe_tup (pa_cons (pv 14) (pa_cons (pe_lst (pa_cons (pv 2) pa_nil)) (pa_cons (pe_lst (pa_cons (pv 3) pa_nil)) (pa_cons (pe_lst (pa_cons pe_str pa_nil)) pa_nil)))))))
    (pss_cons (ps_expr (pe_bm PySem.F.plainAttrs_list PySem.F.slot_list_append PySem.F.type_list_append mt_append (pv 6) (pa_cons (pe_tup (pa_cons pe_str (pa_cons (pe_lst (pa_cons (pv 2) (pa_cons (pe_cl G_law_pick (hr.mono (by omega)) rfl (pa_cons (pv 1) (pa_cons (pe_lst (pa_cons pe_str (pa_cons (pe_op op_mul_str pe_str pe_int) (pa_cons pe_str pa_nil)))) pa_nil))) pa_nil))) (pa_cons (pe_lst (pa_cons (pv 3) (pa_cons (pv 4) pa_nil))) (pa_cons (pe_lst (pa_cons pe_str (pa_cons pe_str pa_nil))) pa_nil))))) pa_nil)))
    (pss_cons (ps_expr (pe_bm PySem.F.plainAttrs_list PySem.F.slot_list_append PySem.F.type_list_append mt_append (pv 6) (pa_cons (pe_tup (pa_cons pe_str (pa_cons (pe_lst (pa_cons (pv 2) (pa_cons (pe_cl G_law_pick (hr.mono (by omega)) rfl (pa_cons (pv 1) (pa_cons (pe_lst (pa_cons pe_str (pa_cons pe_str (pa_cons pe_str pa_nil)))) pa_nil))) pa_nil))) (pa_cons (pe_lst (pa_cons (pv 3) (pa_cons (pv 5) pa_nil))) (pa_cons (pe_lst (pa_cons pe_str (pa_cons pe_str pa_nil))) pa_nil))))) pa_nil)))
    (pss_cons (ps_for PassesOwn.never rfl (pi_list (pv 6)) (pg_tup rfl (pgs_cons (pg_name (i := 7) sc_law.nd rfl (Or.inl rfl)) (pgs_cons (pg_name (i := 8) sc_law.nd rfl (Or.inl rfl)) (pgs_cons (pg_name (i := 9) sc_law.nd rfl (Or.inl rfl)) (pgs_cons (pg_name (i := 10) sc_law.nd rfl (Or.inl rfl)) pgs_nil))))) (pss_cons (ps_if (pt_cmpR op_ne (pe_cl G_law_told (hr.mono (by omega)) rfl (pa_cons (pv 7) (pa_cons (pv 8) pa_nil))) pe_str (nomark _)) (pss_one (ps_ret pe_bl)) pss_nil)
    (pss_one (ps_for PassesOwn.never rfl (pi_range1 rfl B.b_range (pa_cons (pe_callB call_len rfl B.b_len boot_len (pa_cons (pv 8) pa_nil)) pa_nil)) (pg_name (i := 11) sc_law.nd rfl (Or.inl rfl)) (pss_cons (ps_setLc (i := 12) (own := [("options", 15)]) (g := gName 15) (tt := tYes) rfl sc_law.nd rfl rfl (sw_true rfl rfl rfl (by decide +kernel)) (pi_list (pv 9)) (blkOk_by (N := N_law) (sc := defScope s_law) (by decide +kernel)) (fun _ _ _ _ _ => pg_name (i := 15) sc_law.nd rfl (Or.inl rfl)) (fun _ _ _ _ _ => pts_nil) (fun _ _ _ _ _ => (pe_cl G_law_pick (hr.mono (by omega)) rfl (pa_cons (pv 1) (pa_cons (pv 15) pa_nil)))))
    (pss_cons (ps_set (i := 13) sc_law.nd rfl (Or.inl rfl) (pe_op op_cat (pe_op op_cat (pe_slice sl_list (pv 8) po_none (po_some (pv 11))) (pe_lst (pa_cons (pe_ix (r := rIxL K) ix_list (pv 12) (pv 11) (fun _ _ => rfl)) pa_nil))) (pe_slice sl_list (pv 8) (po_some (pe_op op_add (pv 11) pe_int)) po_none)))
    (pss_one (ps_if (PW.pt (pw_or (pt_cmpR op_ne (pe_cl G_law_told (hr.mono (by omega)) rfl (pa_cons (pv 7) (pa_cons (pv 13) pa_nil))) (pe_ix (r := rIxL K) ix_list (pv 10) (pv 11) (fun _ _ => rfl)) (nomark _)) (pw_or1 (pt_cmpR op_ne (pe_cl G_law_told (hr.mono (by omega)) rfl (pa_cons (pv 7) (pa_cons (pe_op op_cat (pe_slice sl_list (pv 8) po_none (po_some (pv 11))) (pe_slice sl_list (pv 12) (po_some (pv 11)) po_none)) pa_nil))) (pe_ix (r := rIxL K) ix_list (pv 10) (pv 11) (fun _ _ => rfl)) (nomark _))))) (pss_one (ps_ret pe_bl)) pss_nil))))))))
    (pss_one (ps_ret pe_bl))))))))))), ?_⟩
  refine ⟨_, rfl, s, ns, rfl, hs, hn, fun a H1 s1 ha st1 => ?_⟩
  refine ⟨_, rfl, _, rfl, a, 8, rfl, st1, by decide, by decide, fun v0 H2 e0 g2 R0 dr0 => ?_⟩
  have G1 : GDs (((L2.start N_law [V.ref s]).set 1 (some (V.ref a)))) _ goodsT := (gds_cons (gd_tup (gds_cons (gd_str (z := "or") (by decide +kernel)) (gds_cons (gd_rep (K := K) (k := 40) (gds_cons (gd_str (z := "a") (by decide +kernel)) gds_nil) (by intro h; cases h) (by decide) (by decide) (by decide) (by decide +kernel)) gds_nil)) (by decide)) (gds_cons (gd_chain (n := 40) (by decide)) (gds_cons (gd_tup (gds_cons (gd_str (z := "join") (by decide +kernel)) (gds_cons (gd_rep (K := K) (k := 8) (gds_cons (gd_str (z := "b") (by decide +kernel)) gds_nil) (by intro h; cases h) (by decide) (by decide) (by decide) (by decide +kernel)) gds_nil)) (by decide)) gds_nil)))
  refine G1 _ _ fun vs H3 s3 tw3 => ⟨by rw [List.length_cons, tw3.len]; decide, fun l1 hl1 => ?_⟩
  have st2 := g2.st
  obtain ⟨H4, e4, s4, st4, n4, i4⟩ := newO (o := .lst (v0 :: vs)) (st2.same s3) hl1
  rw [e4]
  refine ⟨a, l1, v0 :: vs, rfl, st4, SqL.of i4, n4, by rw [List.length_cons]; omega, by rw [List.length_cons, tw3.len]; decide, fun gv H5 hgm g5 => ?_⟩
  have hgood : ∃ d, Rep H5 gv d ∧ GoodD d := by
    rcases List.mem_cons.mp hgm with rfl | hgm
    · exact ⟨_, (R0.pers (Pers.same (s3.trans s4))).pers g5.pers, drawn_good dr0⟩
    · obtain ⟨d, hd, hr⟩ := tw3.mem hgm
      exact ⟨d, (hr.pers (Pers.same s4)).pers g5.pers, goodsT_ok d hd⟩
  clear hgm R0
  obtain ⟨gd, hgR, e, hE, hdd, rfl⟩ := hgood
  have st5 := g5.st
  refine step_name ?_
  dsimp only
  refine step_seq (t := tAsg _ _) ?_
  refine step_asg ?_
  have G2 : GDs (((((L2.start N_law [V.ref s]).set 1 (some (V.ref a))))).set 2 (some gv)) _ badsD := (gds_cons gd_non (gds_cons (gd_bl (b := true)) (gds_cons (gd_str (z := "e") (by decide +kernel)) (gds_cons (gd_str (z := "ab") (by decide +kernel)) (gds_cons (gd_tup (gds_cons (gd_str (z := "join") (by decide +kernel)) (gds_cons (gd_tup (gds_cons (gd_str (z := "a") (by decide +kernel)) gds_nil) (by decide)) gds_nil)) (by decide)) (gds_cons (gd_lst (gds_cons (gd_str (z := "or") (by decide +kernel)) (gds_cons (gd_tup (gds_cons (gd_str (z := "a") (by decide +kernel)) (gds_cons (gd_str (z := "b") (by decide +kernel)) gds_nil)) (by decide)) gds_nil)) (by decide)) (gds_cons (gd_tup (gds_cons (gd_str (z := "or") (by decide +kernel)) (gds_cons (gd_lst (gds_cons (gd_str (z := "a") (by decide +kernel)) (gds_cons (gd_str (z := "b") (by decide +kernel)) gds_nil)) (by decide)) gds_nil)) (by decide)) (gds_cons (gd_tup (gds_cons (gd_str (z := "or") (by decide +kernel)) (gds_cons (gd_tup (gds_cons (gd_str (z := "a") (by decide +kernel)) (gds_cons (gd_tup (gds_cons (gd_str (z := "or") (by decide +kernel)) (gds_cons (gd_tup (gds_cons (gd_str (z := "b") (by decide +kernel)) (gds_cons (gd_str (z := "c") (by decide +kernel)) gds_nil)) (by decide)) gds_nil)) (by decide)) gds_nil)) (by decide)) gds_nil)) (by decide)) (gds_cons (gd_tup (gds_cons (gd_str (z := "or") (by decide +kernel)) (gds_cons (gd_rep (K := K) (k := 41) (gds_cons (gd_str (z := "a") (by decide +kernel)) gds_nil) (by intro h; cases h) (by decide) (by decide) (by decide) (by decide +kernel)) gds_nil)) (by decide)) (gds_cons (gd_chain (n := 41) (by decide)) (gds_cons (gd_chain (n := 2000) (by decide)) (gds_cons (gd_tup (gds_cons (gd_str (z := "join") (by decide +kernel)) (gds_cons (gd_rep (K := K) (k := 200) (gds_cons (gd_str (z := "") (by decide +kernel)) gds_nil) (by intro h; cases h) (by decide) (by decide) (by decide) (by decide +kernel)) gds_nil)) (by decide)) (gds_cons (gd_tup (gds_cons (gd_str (z := "maybe") (by decide +kernel)) (gds_cons (gd_tup (gds_cons (gd_str (z := "a") (by decide +kernel)) gds_nil) (by decide)) gds_nil)) (by decide)) (gds_cons (gd_tup (gds_cons (gd_str (z := "many") (by decide +kernel)) (gds_cons (gd_str (z := "a") (by decide +kernel)) (gds_cons (gd_int (i := 0)) gds_nil))) (by decide)) (gds_cons (gd_tup gds_nil (by decide)) gds_nil)))))))))))))))
  refine gds_lst G2 (by decide) fun bs H6 s6 tw6 l7 hl7 => ?_
  obtain ⟨H7, e7, s7, st7, n7, i7⟩ := newO (o := .lst bs) (st5.same s6) hl7
  have bad7 : BadL a H7 l7 oddB := badl_of (st5.same s6) hl7 e7 tw6 (by decide) (by decide) badsD_ok
  rw [e7]
  refine step_name ?_
  dsimp only
  refine step_seq (t := tAsg _ _) ?_
  refine step_asg ?_
  have G3 : GDs ((((((L2.start N_law [V.ref s]).set 1 (some (V.ref a))))).set 2 (some gv)).set 3 (some (.ref l7))) _ nwordsD := (gds_cons gd_non (gds_cons (gd_str (z := "e") (by decide +kernel)) (gds_cons (gd_mulX mulok_a (by decide +kernel)) (gds_cons (gd_lst (gds_cons (gd_str (z := "a") (by decide +kernel)) gds_nil) (by decide)) (gds_cons (gd_int (i := 7)) (gds_cons (gd_str (z := "a b") (by decide +kernel)) (gds_cons (gd_bl (b := true)) gds_nil)))))))
  refine gds_lst G3 (by decide) fun bs2 H8 s8 tw8 l9 hl9 => ?_
  obtain ⟨H9, e9, s9, st9, n9, i9⟩ := newO (o := .lst bs2) (st7.same s8) hl9
  have bad9 : BadL a H9 l9 (fun d => !isWord d) := badl_of (st7.same s8) hl9 e9 tw8 (by decide) (by decide) nwordsD_ok
  rw [e9]
  refine step_name ?_
  dsimp only
  refine step_seq (t := tAsg _ _) ?_
  refine step_asg ?_
  have G4 : GDs (((((((L2.start N_law [V.ref s]).set 1 (some (V.ref a))))).set 2 (some gv)).set 3 (some (.ref l7))).set 4 (some (.ref l9))) _ nordersD := (gds_cons gd_non (gds_cons (gd_str (z := "abc") (by decide +kernel)) (gds_cons (gd_str (z := "abcdd") (by decide +kernel)) (gds_cons (gd_str (z := "aabc") (by decide +kernel)) (gds_cons (gd_lst (gds_cons (gd_str (z := "a") (by decide +kernel)) (gds_cons (gd_str (z := "b") (by decide +kernel)) (gds_cons (gd_str (z := "c") (by decide +kernel)) (gds_cons (gd_str (z := "d") (by decide +kernel)) gds_nil)))) (by decide)) (gds_cons (gd_str (z := "ABCD") (by decide +kernel)) (gds_cons (gd_int (i := 7)) (gds_cons (gd_str (z := "") (by decide +kernel)) gds_nil))))))))
  refine gds_lst G4 (by decide) fun bs3 H10 s10 tw10 l11 hl11 => ?_
  obtain ⟨H11, e11, s11, st11, n11, i11⟩ := newO (o := .lst bs3) (st9.same s10) hl11
  have bad11 : BadL a H11 l11 (fun d => !isOrdD d) := badl_of (st9.same s10) hl11 e11 tw10 (by decide) (by decide) nordersD_ok
  rw [e11]
  have bad7 := bad7.same (s8.trans (s9.trans (s10.trans s11)))
  have bad9 := bad9.same (s10.trans s11)
  have hgR := hgR.pers (Pers.same (s6.trans (s7.trans (s8.trans (s9.trans (s10.trans s11))))))
  clear G1 G2 G3 G4 tw3 tw6 tw8 tw10 e4 e7 e9 e11 i7 i9 i11
  refine step_name ?_
  dsimp only
  refine step_seq (t := tAsg _ _) ?_
  refine step_asg ?_
  refine ⟨by show 6 ≤ sizeLine; decide, fun l12 hl12 => ?_⟩
  obtain ⟨H12, e12, s12, st12, n12, i12⟩ := newO (o := .lst [V.str "places", V.str "sizes", V.str "turned", V.str "simple", V.str "least", V.str "greatest"]) st11 hl12
  have e12 : upd H11 l12 (.lst [V.str (Str.ofString "places"), V.str (Str.ofString "sizes"), V.str (Str.ofString "turned"), V.str (Str.ofString "simple"), V.str (Str.ofString "least"), V.str (Str.ofString "greatest")]) = H12 := e12
  rw [e12]
  refine ⟨l12, rfl, ⟨_, SqL.of i12⟩, fun D hD => ?_⟩
  have nD := (st12.ne hD).symm
  have nd7 : l7 ≠ D := ne_of_none (s12 _ _ bad7.2.choose_spec.1) hD
  have nd9 : l9 ≠ D := ne_of_none (s12 _ _ bad9.2.choose_spec.1) hD
  have nd11 : l11 ≠ D := ne_of_none (s12 _ _ bad11.2.choose_spec.1) hD
  have gvn : gv = gv := rfl
  refine lc_list (K := K) (a := l12) (xs := [V.str "places", V.str "sizes", V.str "turned", V.str "simple", V.str "least", V.str "greatest"]) (fun i H' => Same H12 H' ∧ ∃ ts, H' D = some (.lst ts) ∧ ts.length = i ∧ ∀ t ∈ ts, RowK a D H' gv l7 l9 l11 t) ⟨same_upd hD, [], upd_same, rfl, fun t h => by cases h⟩ (fun i H' _ h => SqL.of (h.1 _ _ i12)) (fun i x H13 hx h => ?_) (fun H13 h => ?_)
  · obtain ⟨s13, ts, hts, htl, hrk⟩ := h
    have hxm : ∃ wd ∈ ones, x = .str wd := by
      have := List.mem_of_getElem? hx
      simp only [List.mem_cons, List.not_mem_nil, or_false] at this
      rcases this with rfl | rfl | rfl | rfl | rfl | rfl <;> exact ⟨_, by decide +kernel, rfl⟩
    obtain ⟨wd, hwd, rfl⟩ := hxm
    have st13 := st12.same s13
    refine ⟨rfl, tyes ⟨_, rfl, _, rfl, by show 1 ≤ sizeLine; decide, fun r hr' => ?_⟩⟩
    obtain ⟨J1, f1, u1, st1', n1, k1⟩ := newO (o := .lst [gv]) st13 hr'
    rw [f1]
    refine ⟨_, rfl, by show 1 ≤ sizeLine; decide, fun ws hws => ?_⟩
    obtain ⟨J2, f2, u2, st2', n2, k2⟩ := newO (o := .lst [V.ref l7]) st1' hws
    rw [f2]
    refine ⟨by show 1 ≤ sizeLine; decide, fun nl hnl => ?_⟩
    obtain ⟨J3, f3, u3, st3', n3, k3⟩ := newO (o := .lst [V.str "expression"]) st2' hnl
    have f3 : upd J2 nl (.lst [V.str (Str.ofString "expression")]) = J3 := f3
    rw [f3]
    refine ⟨by show 4 ≤ sizeLine; decide, fun t ht => ?_⟩
    obtain ⟨J4, f4, u4, st4', n4', k4⟩ := newO (o := .tup [V.str wd, V.ref r, V.ref ws, V.ref nl]) st3' ht
    rw [f4]
    have uu := u1.trans (u2.trans (u3.trans u4))
    have dD : ∀ {b : Addr} {Hx : Hp}, Same H13 Hx → Hx b = none → b ≠ D := fun sx hb => (ne_of_none (sx _ _ hts) hb).symm
    have row : RowAt7 a D J4 (.ref t) wd [gv] [l7] ["expression"] := ⟨t, r, ws, nl, rfl, k4, ⟨n4', n1, n2, n3⟩, ⟨dD (u1.trans (u2.trans u3)) ht, dD (Same.refl _) hr', dD u1 hws, dD (u1.trans u2) hnl⟩, (u2.trans (u3.trans u4)) _ _ k1, (u3.trans u4) _ _ k2, u4 _ _ k3⟩
    refine ⟨ts, uu _ _ hts, ?_, keepD hD s13 uu, ts ++ [.ref t], upd_same, by rw [List.length_append, htl]; rfl, fun y hy => ?_⟩
    · have : i < 6 := (List.getElem?_eq_some_iff.mp hx).1
      exact Nat.lt_of_le_of_lt (m := 6) (by omega) (by decide)
    · rcases List.mem_append.mp hy with hy | hy
      · exact (hrk y hy).kd ((KD.same uu).trans KD.store)
      · rw [List.mem_singleton.mp hy]
        exact .inl ⟨wd, hwd, row.kd KD.store⟩
  obtain ⟨s13, ts, hts, htl, hrk⟩ := h
  have hgR12 := hgR.pers (Pers.same s12)
  have bad7 := bad7.same s12
  have bad9 := bad9.same s12
  have bad11 := bad11.same s12
  have G13 : Go a H12 H13 := Go.same st12 s13
  have htl : ts.length = 6 := htl
  clear e12 i12 s13 hgR
  refine step_name ?_
  dsimp only
  refine step_seq (t := tDrop _) ?_
  refine ⟨_, rfl, .inl ⟨rfl, _, SqL.of hts⟩, _, rfl, _, rfl, _, _, rfl, rfl, mulok_24, by show 3 ≤ sizeLine; decide, fun l14 hl14 => ?_⟩
  obtain ⟨J1, f1, u1, st1', n1, k1⟩ := newO (o := .lst [V.str "", V.str (Txt.mul "a" 24), V.str "dcba"]) G13.st hl14
  have f1 : upd H13 l14 (.lst [V.str (Str.ofString ""), V.str (Txt.mul (Str.ofString "a") 24), V.str (Str.ofString "dcba")]) = J1 := f1
  rw [f1]
  refine ⟨a, l14, _, rfl, st1', SqL.of k1, n1, by show 0 < 3; decide, by show 3 < 100000; decide, fun wv J2 hwv g2' => ?_⟩
  obtain ⟨z, rfl, hz24, hzl⟩ := gow_in hwv
  have G2' := (G13.trans (Go.same G13.st u1)).trans g2'
  refine ⟨by show 2 ≤ sizeLine; decide, fun r hr' => ?_⟩
  obtain ⟨J3, f3, u3, st3', n3, k3⟩ := newO (o := .lst [gv, V.str z]) G2'.st hr'
  rw [f3]
  refine ⟨_, rfl, _, rfl, by show 2 ≤ sizeLine; decide, fun ws hws => ?_⟩
  obtain ⟨J4, f4, u4, st4', n4', k4⟩ := newO (o := .lst [V.ref l7, V.ref l9]) st3' hws
  rw [f4]
  refine ⟨by show 2 ≤ sizeLine; decide, fun nl hnl => ?_⟩
  obtain ⟨J5, f5, u5, st5', n5, k5⟩ := newO (o := .lst [V.str "expression", V.str "word"]) st4' hnl
  have f5 : upd J4 nl (.lst [V.str (Str.ofString "expression"), V.str (Str.ofString "word")]) = J5 := f5
  rw [f5]
  refine ⟨by show 4 ≤ sizeLine; decide, fun t ht => ?_⟩
  obtain ⟨J6, f6, u6, st6', n6, k6⟩ := newO (o := .tup [V.str "matches", V.ref r, V.ref ws, V.ref nl]) st5' ht
  have f6 : upd J5 t (.tup [V.str (Str.ofString "matches"), V.ref r, V.ref ws, V.ref nl]) = J6 := f6
  rw [f6]
  have hts2 : J2 D = some (.lst ts) := g2'.keep _ _ (u1 _ _ hts) nD
  have uu := u3.trans (u4.trans (u5.trans u6))
  have dD : ∀ {b : Addr} {Hx : Hp}, Same J2 Hx → Hx b = none → b ≠ D := fun sx hb => (ne_of_none (sx _ _ hts2) hb).symm
  have row : RowAt7 a D J6 (.ref t) "matches" [gv, .str z] [l7, l9] ["expression", "word"] := ⟨t, r, ws, nl, rfl, k6, ⟨n6, n3, n4', n5⟩, ⟨dD (u3.trans (u4.trans u5)) ht, dD (Same.refl _) hr', dD u3 hws, dD (u3.trans u4) hnl⟩, (u4.trans (u5.trans u6)) _ _ k3, (u5.trans u6) _ _ k4, u6 _ _ k5⟩
  have G6 := G2'.trans (Go.same G2'.st uu)
  refine ⟨D, ts, .ref t, rfl, rfl, uu _ _ hts2, by rw [htl]; decide, ?_⟩
  have G7 := G6.loc (o := .lst (ts ++ [.ref t])) hD
  have hrk7 : ∀ y ∈ ts ++ [V.ref t], RowK a D (upd J6 D (.lst (ts ++ [.ref t]))) gv l7 l9 l11 y := fun y hy => by
    rcases List.mem_append.mp hy with hy | hy
    · exact (hrk y hy).kd (((KD.same u1).trans (KD.go g2')).trans ((KD.same uu).trans KD.store))
    · rw [List.mem_singleton.mp hy]
      exact .inr (.inl ⟨z, hz24, hzl, row.kd KD.store⟩)
  have htl7 : (ts ++ [V.ref t]).length = 7 := by rw [List.length_append, htl]; rfl
  have hts7 : upd J6 D (.lst (ts ++ [.ref t])) D = some (.lst (ts ++ [.ref t])) := upd_same
  generalize upd J6 D (.lst (ts ++ [.ref t])) = H20 at G7 hrk7 hts7 ⊢
  generalize ts ++ [V.ref t] = ts7 at hrk7 htl7 hts7
  clear row hts2 uu dD G6 f1 f3 f4 f5 f6 k1 k3 k4 k5 k6 hrk hts htl u1 u3 u4 u5 u6 hwv
  dsimp only
  refine step_seq (t := tDrop _) ?_
  refine ⟨_, rfl, .inl ⟨rfl, _, SqL.of hts7⟩, _, rfl, _, rfl, by show 3 ≤ sizeLine; decide, fun l24 hl24 => ?_⟩
  obtain ⟨J1, f1, u1, st1', n1, k1⟩ := newO (o := .lst [V.str "abcd", V.str "dcba", V.str "bdac"]) G7.st hl24
  have f1 : upd H20 l24 (.lst [V.str (Str.ofString "abcd"), V.str (Str.ofString "dcba"), V.str (Str.ofString "bdac")]) = J1 := f1
  rw [f1]
  refine ⟨a, l24, _, rfl, st1', SqL.of k1, n1, by show 0 < 3; decide, by show 3 < 100000; decide, fun wv J2 hwv g2' => ?_⟩
  obtain ⟨z', rfl, hzO⟩ := goo_in hwv
  have G2' := (G7.trans (Go.same G7.st u1)).trans g2'
  refine ⟨by show 2 ≤ sizeLine; decide, fun r hr' => ?_⟩
  obtain ⟨J3, f3, u3, st3', n3, k3⟩ := newO (o := .lst [gv, V.str z']) G2'.st hr'
  rw [f3]
  refine ⟨_, rfl, _, rfl, by show 2 ≤ sizeLine; decide, fun ws hws => ?_⟩
  obtain ⟨J4, f4, u4, st4', n4', k4⟩ := newO (o := .lst [V.ref l7, V.ref l11]) st3' hws
  rw [f4]
  refine ⟨by show 2 ≤ sizeLine; decide, fun nl hnl => ?_⟩
  obtain ⟨J5, f5, u5, st5', n5, k5⟩ := newO (o := .lst [V.str "expression", V.str "order"]) st4' hnl
  have f5 : upd J4 nl (.lst [V.str (Str.ofString "expression"), V.str (Str.ofString "order")]) = J5 := f5
  rw [f5]
  refine ⟨by show 4 ≤ sizeLine; decide, fun t ht => ?_⟩
  obtain ⟨J6, f6, u6, st6', n6, k6⟩ := newO (o := .tup [V.str "renamed", V.ref r, V.ref ws, V.ref nl]) st5' ht
  have f6 : upd J5 t (.tup [V.str (Str.ofString "renamed"), V.ref r, V.ref ws, V.ref nl]) = J6 := f6
  rw [f6]
  have hts2 : J2 D = some (.lst ts7) := g2'.keep _ _ (u1 _ _ hts7) nD
  have uu := u3.trans (u4.trans (u5.trans u6))
  have dD : ∀ {b : Addr} {Hx : Hp}, Same J2 Hx → Hx b = none → b ≠ D := fun sx hb => (ne_of_none (sx _ _ hts2) hb).symm
  have row : RowAt7 a D J6 (.ref t) "renamed" [gv, .str z'] [l7, l11] ["expression", "order"] := ⟨t, r, ws, nl, rfl, k6, ⟨n6, n3, n4', n5⟩, ⟨dD (u3.trans (u4.trans u5)) ht, dD (Same.refl _) hr', dD u3 hws, dD (u3.trans u4) hnl⟩, (u4.trans (u5.trans u6)) _ _ k3, (u5.trans u6) _ _ k4, u6 _ _ k5⟩
  have G6 := G2'.trans (Go.same G2'.st uu)
  refine ⟨D, ts7, .ref t, rfl, rfl, uu _ _ hts2, by rw [htl7]; decide, ?_⟩
  have G8 := G6.loc (o := .lst (ts7 ++ [.ref t])) hD
  have hrk8 : ∀ y ∈ ts7 ++ [V.ref t], RowK a D (upd J6 D (.lst (ts7 ++ [.ref t]))) gv l7 l9 l11 y := fun y hy => by
    rcases List.mem_append.mp hy with hy | hy
    · exact (hrk7 y hy).kd (((KD.same u1).trans (KD.go g2')).trans ((KD.same uu).trans KD.store))
    · rw [List.mem_singleton.mp hy]
      exact .inr (.inr ⟨z', hzO, row.kd KD.store⟩)
  have hts8 : upd J6 D (.lst (ts7 ++ [.ref t])) D = some (.lst (ts7 ++ [.ref t])) := upd_same
  generalize upd J6 D (.lst (ts7 ++ [.ref t])) = H21 at G8 hrk8 hts8 ⊢
  generalize ts7 ++ [V.ref t] = ts8 at hrk8 hts8
  clear row hts2 uu dD G6 f1 f3 f4 f5 f6 k1 k3 k4 k5 k6 hrk7 hts7 htl7 u1 u3 u4 u5 u6 hwv
  dsimp only
  have hgR := hgR12.pers G8.pers
  have bad7 := bad7.pers G8
  have bad9 := bad9.pers G8
  have bad11 := bad11.pers G8
  have st21 := G8.st
  refine ⟨_, rfl, D, rfl, ⟨_, SqL.of hts8⟩, for_list (K := K) (a := D) (xs := ts8) (fun i σ' H' => ∃ o7 o8 o9 o10 o11 o12 o13 : Option V, σ' = [some (.ref s), some (.ref a), some gv, some (.ref l7), some (.ref l9), some (.ref l11), some (.ref D), o7, o8, o9, o10, o11, o12, o13, none, none] ∧ Go a H21 H') ?_ ?_ ?_ ?_⟩
  · exact ⟨_, _, _, _, _, _, _, rfl, Go.refl st21⟩
  · rintro i σ' H' _ ⟨o7, o8, o9, o10, o11, o12, o13, rfl, g⟩
    exact SqL.of (g.keep _ _ hts8 nD)
  · rintro i v σ' H22 hv ⟨o7, o8, o9, o10, o11, o12, o13, rfl, g22⟩
    have rk := (hrk8 v (List.mem_of_getElem? hv)).kd (KD.go g22)
    obtain ⟨wd, us, bl, nms, hRA, hbl, hRD⟩ : ∃ (wd : Str) (us : List V) (bl : List (Addr × (My.D → Bool))) (nms : List Str), RowAt7 a D H22 v wd us (bl.map Prod.fst) nms ∧ (∀ b ∈ bl, BadL a H21 b.1 b.2) ∧ ∀ H', Rep H' gv e.toD → RowD H' wd us bl nms := by
      rcases rk with ⟨wd, h1, h2⟩ | ⟨z, h1, h2, h3⟩ | ⟨z, h1, h3⟩
      · refine ⟨wd, _, [(l7, oddB)], _, h2, fun b hb => ?_, fun H' hR' => rowd1 h1 hE hdd hR'⟩
        rw [List.mem_singleton.mp hb]
        exact bad7
      · refine ⟨_, _, [(l7, oddB), (l9, fun d => !isWord d)], _, h3, fun b hb => ?_, fun H' hR' => rowd2 h1 h2 hE hR'⟩
        rcases List.mem_cons.mp hb with rfl | hb
        · exact bad7
        · rw [List.mem_singleton.mp hb]
          exact bad9
      · refine ⟨_, _, [(l7, oddB), (l11, fun d => !isOrdD d)], _, h3, fun b hb => ?_, fun H' hR' => rowd3 h1 hE hdd hR'⟩
        rcases List.mem_cons.mp hb with rfl | hb
        · exact bad7
        · rw [List.mem_singleton.mp hb]
          exact bad11
    obtain ⟨t, r, ws, nl, rfl, ht, ⟨na1, na2, na3, na4⟩, _, hr1, hws, hnl⟩ := hRA
    have hgR22 := hgR.pers g22.pers
    obtain ⟨ubl, u2, ⟨tv, td, tR, tF, tz, tS⟩, _⟩ := hRD H22 hgR22
    refine ⟨t, _, rfl, SqT.of ht, rfl, _, _, rfl, _, _, rfl, _, _, rfl, _, _, rfl, rfl, ?_⟩
    refine ⟨_, rfl, _, rfl, wd, r, us, tv, td, none, rfl, hr1, tR, tF, tz, tS, fun H23 s23 => ⟨rfl, _, rfl, iteF ?_⟩⟩
    have st22 := g22.st
    have g23 : Go a H22 H23 := Go.same st22 s23
    refine ⟨_, rfl, _, us.length, rfl, .inl ⟨us, SqL.of (s23 _ _ hr1), rfl⟩, _, rfl, by omega, by omega, for_range (lo := 0) (n := us.length) (fun k σ' H' => ∃ o11 o12 o13 : Option V, σ' = [some (.ref s), some (.ref a), some gv, some (.ref l7), some (.ref l9), some (.ref l11), some (.ref D), some (.str wd), some (.ref r), some (.ref ws), some (.ref nl), o11, o12, o13, none, none] ∧ Go a H22 H') ?_ ?_ ?_⟩
    · exact ⟨_, _, _, rfl, g23⟩
    · rintro k σ' H24 hk ⟨o11, o12, o13, rfl, g24⟩
      have st24 := g24.st
      have hws24 := g24.keep _ _ hws na3
      refine ⟨_, rfl, ws, rfl, ⟨_, SqL.of hws24⟩, fun D2 hD2 => ?_⟩
      have nD2 := (st24.ne hD2).symm
      refine lc_list (K := K) (a := ws) (xs := (bl.map Prod.fst).map V.ref) (fun i H' => Go a H24 H' ∧ ∃ xs, H' D2 = some (.lst xs) ∧ Two (fun x b => ∃ d, Rep H' x d ∧ b.2 d = true) xs (bl.take i)) ⟨Go.new st24 hD2, [], upd_same, .nil⟩ (fun i H' _ h => SqL.of (h.1.keep _ _ hws24 na3)) (fun i x H25 hx h => ?_) (fun H26 h => ?_)
      · obtain ⟨g25, xs, hxs, tw⟩ := h
        obtain ⟨b, hb, rfl⟩ : ∃ b, bl[i]? = some b ∧ V.ref b.1 = x := by
          rw [List.getElem?_map, List.getElem?_map] at hx
          cases hbi : bl[i]? with
          | none => rw [hbi] at hx; cases hx
          | some b => rw [hbi] at hx; exact ⟨b, rfl, Option.some.inj hx⟩
        have hbm := List.mem_of_getElem? hb
        obtain ⟨b0, vs, b1, b2, b3, b4⟩ := (hbl b hbm).pers ((g22.trans g24).trans g25)
        have xl := tw.len
        rw [List.length_take] at xl
        refine ⟨rfl, tyes ⟨_, rfl, _, rfl, a, b.1, vs, rfl, g25.st, SqL.of b1, b0, b2, b3, fun y H27 hy g27 => ⟨xs, g27.keep _ _ hxs nD2, Nat.lt_of_le_of_lt (m := 2) (by omega) (by decide), (g25.trans g27).loc hD2, xs ++ [y], upd_same, ?_⟩⟩⟩
        obtain ⟨d, hd1, hd2⟩ := b4 y hy
        have P3 : Pers H27 (upd H27 D2 (.lst (xs ++ [y]))) := Pers.store (g27.keep _ _ hxs nD2)
        rw [take_snoc hb]
        exact (tw.mono fun _ _ ⟨d, q1, q2⟩ => ⟨d, (q1.pers g27.pers).pers P3, q2⟩).app (.cons ⟨d, (hd1.pers g27.pers).pers P3, hd2⟩ .nil)
      obtain ⟨g26, xs, hxs, tw⟩ := h
      rw [List.length_map, List.length_map, List.take_length] at tw
      have G26 := g24.trans g26
      obtain ⟨_, _, _, each⟩ := hRD H26 (hgR22.pers G26.pers)
      obtain ⟨nm, x, hnm, hxk, T1, T2⟩ := each k hk xs tw
      have hr26 := G26.keep _ _ hr1 na2
      have hnl26 := G26.keep _ _ hnl na4
      have z0 : (0 : Int) + (k : Int) = k := Int.zero_add _
      have c1 : cutV us none (some ((0 : Int) + (k : Int))) = us.take k := by rw [z0]; exact cutN_take us k
      have c2 : cutV us (some ((0 : Int) + (k : Int) + 1)) none = us.drop (k + 1) := by rw [z0]; exact cutN_drop us (k + 1)
      have c3 : cutV xs (some ((0 : Int) + (k : Int))) none = xs.drop k := by rw [z0]; exact cutN_drop xs k
      have xl : xs.length ≤ 2 := by rw [tw.len]; omega
      dsimp only
      refine ⟨_, rfl, _, rfl, _, rfl, r, us, rfl, SqL.of hr26, fun Z1 hZ1 => ?_⟩
      rw [c1]
      have st26 := g26.st
      obtain ⟨J1, f1, u1, st1', n1, k1⟩ := newO (o := .lst (us.take k)) st26 hZ1
      rw [f1]
      refine ⟨_, rfl, _, rfl, D2, xs, _, x, rfl, rfl, SqL.of (u1 _ _ hxs), (by rw [z0]; exact atI_nat hxk), by show 1 ≤ sizeLine; decide, fun Z2 hZ2 => ?_⟩
      obtain ⟨J2, f2, u2', st2', n2, k2⟩ := newO (o := .lst [x]) st1' hZ2
      rw [f2]
      have ul1 : (us.take k).length ≤ 2 := by rw [List.length_take]; omega
      have ul2 : (us.drop (k + 1)).length ≤ 2 := by rw [List.length_drop]; omega
      have xl2 : (xs.drop k).length ≤ 2 := by rw [List.length_drop]; omega
      refine ⟨Z1, Z2, _, _, rfl, rfl, u2' _ _ k1, k2, Nat.le_trans (m := 10) (by rw [List.length_singleton]; omega) (by decide), fun Z3 hZ3 => ?_⟩
      obtain ⟨J3, f3, u3, st3', n3, k3⟩ := newO (o := .lst (us.take k ++ [x])) st2' hZ3
      rw [f3]
      have U3 := u1.trans (u2'.trans u3)
      refine ⟨_, rfl, _, rfl, _, _, rfl, rfl, _, rfl, r, us, rfl, SqL.of (U3 _ _ hr26), fun Z4 hZ4 => ?_⟩
      rw [c2]
      obtain ⟨J4, f4, u4, st4', n4', k4⟩ := newO (o := .lst (us.drop (k + 1))) st3' hZ4
      rw [f4]
      refine ⟨Z3, Z4, _, _, rfl, rfl, u4 _ _ k3, k4, Nat.le_trans (m := 10) (by rw [List.length_append, List.length_singleton]; omega) (by decide), fun Z5 hZ5 => ?_⟩
      obtain ⟨J5, f5, u5, st5', n5, k5⟩ := newO (o := .lst (us.take k ++ [x] ++ us.drop (k + 1))) st4' hZ5
      rw [f5]
      have U5 := U3.trans (u4.trans u5)
      have tolds : ∀ {Hx Hy : Hp} {vs : List V} {rs : Option Str}, Same Hx Hy → Told Hx wd vs rs → Told Hy wd vs rs := fun sx ⟨v, d, q1, q2, q3, q4⟩ => by
        refine ⟨v, d, q1.pers (Pers.same sx), q2, q3, ?_⟩
        rcases q4 with q4 | ⟨e1, u, e2, q4⟩ | ⟨e1, u, e2, q4⟩
        · exact .inl q4
        · refine .inr (.inl ⟨e1, u, e2, ?_⟩)
          rcases q4 with q4 | ⟨e3, a1, a2, ⟨d2, a3, a4⟩ | a3⟩
          · exact .inl q4
          · exact .inr ⟨e3, a1, a2, .inl ⟨d2, a3.pers (Pers.same sx), a4⟩⟩
          · exact .inr ⟨e3, a1, a2, .inr a3⟩
        · refine .inr (.inr ⟨e1, u, e2, ?_⟩)
          rcases q4 with q4 | ⟨e3, a1, a0, a2, ⟨d2, a3, a4⟩ | a3⟩
          · exact .inl q4
          · exact .inr ⟨e3, a1, a0, a2, .inl ⟨d2, a3.pers (Pers.same sx), a4⟩⟩
          · exact .inr ⟨e3, a1, a0, a2, .inr a3⟩
      obtain ⟨v1, d1, q1, q2, q3, q4⟩ := tolds U5 T1
      dsimp only
      refine ⟨_, rfl, _, rfl, wd, Z5, _, v1, d1, some nm, rfl, k5, q1, q2, q3, q4, fun J6 u6 => ?_⟩
      have U6 := U5.trans u6
      refine ⟨_, rfl, _, rfl, nl, _, _, .str nm, rfl, rfl, SqL.of (U6 _ _ hnl26), (by rw [z0]; exact atI_nat (by rw [List.getElem?_map, hnm]; rfl)), rfl, _, rfl, ?_⟩
      rw [show (!decide (V.str ((some nm).getD (Str.ofString "")) = V.str nm)) = false from by rw [decide_eq_true (show V.str ((some nm).getD (Str.ofString "")) = V.str nm from rfl)]; rfl]
      refine iteF ?_
      have st6 := st5'.same u6
      refine ⟨_, rfl, _, rfl, _, rfl, _, rfl, r, us, rfl, SqL.of (U6 _ _ hr26), fun Y1 hY1 => ?_⟩
      rw [c1]
      obtain ⟨L1, h1', w1, _, _, m1⟩ := newO (o := .lst (us.take k)) st6 hY1
      rw [h1']
      refine ⟨_, rfl, _, rfl, _, rfl, D2, xs, rfl, SqL.of ((U6.trans w1) _ _ hxs), fun Y2 hY2 => ?_⟩
      rw [c3]
      obtain ⟨L2', h2', w2, st8, _, m2⟩ := newO (o := .lst (xs.drop k)) (st6.same w1) hY2
      rw [h2']
      refine ⟨Y1, Y2, _, _, rfl, rfl, w2 _ _ m1, m2, Nat.le_trans (m := 10) (by omega) (by decide), fun Y3 hY3 => ?_⟩
      obtain ⟨L3, h3', w3, st9, _, m3⟩ := newO (o := .lst (us.take k ++ xs.drop k)) st8 hY3
      rw [h3']
      have U9 := U6.trans (w1.trans (w2.trans w3))
      obtain ⟨v2, d2, p1, p2, p3, p4⟩ := tolds U9 T2
      refine ⟨wd, Y3, _, v2, d2, some nm, rfl, m3, p1, p2, p3, p4, fun L4 w4 => ?_⟩
      have U10 := U9.trans w4
      refine ⟨_, rfl, _, rfl, nl, _, _, .str nm, rfl, rfl, SqL.of (U10 _ _ hnl26), (by rw [z0]; exact atI_nat (by rw [List.getElem?_map, hnm]; rfl)), rfl, _, rfl, ?_⟩
      rw [show (!decide (V.str ((some nm).getD (Str.ofString "")) = V.str nm)) = false from by rw [decide_eq_true (show V.str ((some nm).getD (Str.ofString "")) = V.str nm from rfl)]; rfl]
      exact iteF ⟨_, _, _, rfl, G26.trans (Go.same st26 U10)⟩
    · rintro σ' H24 ⟨o11, o12, o13, rfl, g24⟩
      exact ⟨_, _, _, _, _, _, _, rfl, g22.trans g24⟩
  · rintro σ' H22 ⟨o7, o8, o9, o10, o11, o12, o13, rfl, g22⟩
    exact q H22
end
end My
namespace My
open PySem PySem.Spec PyProof.Rows L2
section
variable {P : Program} {w : World} {K : PySem.W.Frag} {mg : Str → Option Value} {base : Heap} {a_BOUNDS a_LONG_BOUNDS : Addr} {tL tM : Tok}
theorem all_ends {f fj fo : Addr} {fd fdj fdo : FuncData} (B : Bt K mg a_BOUNDS a_LONG_BOUNDS tL tM) (Dd : Df K mg "_ends_of" s__ends_of ["part", "letters", "rows"] f fd) (Dj : Df K mg "_ends_of_join" s__ends_of_join ["parts", "letters", "rows"] fj fdj) (Do : Df K mg "_ends_of_or" s__ends_of_or ["parts", "letters", "rows"] fo fdo)
    (G1 : Cl P w K mg base 1 "_link" ["rows", "ends", "begins"] (spLink K)) (G2 : Cl P w K mg base 1 "_ends_of_leaf" ["part", "letters", "rows"] spLeaf) : ∀ n, FnOk P w K mg base CX0 (2 * n + 2) f fd ["part", "letters", "rows"] (spEnds n)
  | 0 => none_left fun vs H Q Ex h => by
    obtain ⟨H0, v, la, ra, e, cs, F, _, _, h, _⟩ := h
    exact absurd h (Nat.not_lt_zero _)
  | n + 1 => by
    have ih := Dd.cl (all_ends B Dd Dj Do G1 G2 n)
    exact ok_ends_step B Dd G1 G2 n (2 * n + 2) (by omega) ih (Dj.cl (ok_joinends B Dj G1 n (2 * n + 2) (by omega) ih)) (Do.cl (ok_orends B Do n (2 * n + 2) ih))
end
section
variable {P : Program} {w : World} {K : PySem.W.Frag} {mg : Str → Option Value} {base : Heap} {a_BOUNDS a_LONG_BOUNDS : Addr} {tL tM : Tok}
theorem all_grown {f : Addr} {fd : FuncData} (B : Bt K mg a_BOUNDS a_LONG_BOUNDS tL tM) (Dd : Df K mg "_law_grown" s__law_grown ["stream", "letters", "room", "deep", "outer"] f fd) (G1 : Cl P w K mg base 1 "_law_next" ["stream", "many"] spNext) (G2 : Cl P w K mg base 2 "_law_pick" ["stream", "rows"] (spPick K)) : ∀ n, FnOk P w K mg base CX0 (n + 2) f fd ["stream", "letters", "room", "deep", "outer"] (spGrown n)
  | 0 => none_left fun vs H Q Ex h => by
    obtain ⟨a, z, room, deep, outer, _, _, _, _, h, _⟩ := h
    exact absurd h (Nat.not_lt_zero _)
  | n + 1 => ok_grown_step B Dd G1 G2 n (Dd.cl (all_grown B Dd G1 G2 n))
theorem all_turned {f : Addr} {fd : FuncData} (B : Bt K mg a_BOUNDS a_LONG_BOUNDS tL tM) (Dd : Df K mg "_turned" s__turned ["part"] f fd) : ∀ n, FnOk P w K mg base CX0 (n) f fd ["part"] (spTurn n)
  | 0 => none_left fun vs H Q Ex h => by
    obtain ⟨v, e, _, _, h, _⟩ := h
    exact absurd h (Nat.not_lt_zero _)
  | n + 1 => ok_turned_step B Dd n (Dd.cl (all_turned B Dd n))
theorem all_renamed {f : Addr} {fd : FuncData} (B : Bt K mg a_BOUNDS a_LONG_BOUNDS tL tM) (Dd : Df K mg "_renamed" s__renamed ["part", "order"] f fd) : ∀ n, FnOk P w K mg base CX0 (n) f fd ["part", "order"] (spRen n)
  | 0 => none_left fun vs H Q Ex h => by
    obtain ⟨v, e, z, _, _, h, _⟩ := h
    exact absurd h (Nat.not_lt_zero _)
  | n + 1 => ok_renamed_step B Dd n (Dd.cl (all_renamed B Dd n))
theorem all_least {f : Addr} {fd : FuncData} (B : Bt K mg a_BOUNDS a_LONG_BOUNDS tL tM) (Dd : Df K mg "_least" s__least ["part"] f fd) : ∀ n, FnOk P w K mg base CX0 (n) f fd ["part"] (spLeast n)
  | 0 => none_left fun vs H Q Ex h => by
    obtain ⟨v, e, _, _, h, _⟩ := h
    exact absurd h (Nat.not_lt_zero _)
  | n + 1 => ok_least_step B Dd n (Dd.cl (all_least B Dd n))
theorem all_greatest {f : Addr} {fd : FuncData} (B : Bt K mg a_BOUNDS a_LONG_BOUNDS tL tM) (Dd : Df K mg "_greatest" s__greatest ["part"] f fd) : ∀ n, FnOk P w K mg base CX0 (n) f fd ["part"] (spGreat n)
  | 0 => none_left fun vs H Q Ex h => by
    obtain ⟨v, e, _, _, h, _⟩ := h
    exact absurd h (Nat.not_lt_zero _)
  | n + 1 => ok_greatest_step B Dd n (Dd.cl (all_greatest B Dd n))
theorem all_simp {f : Addr} {fd : FuncData} (B : Bt K mg a_BOUNDS a_LONG_BOUNDS tL tM) (Dd : Df K mg "_simple" s__simple ["part"] f fd) (G1 : Cl P w K mg base 2 "opened_parts" ["word", "parts"] spOpen) (G2 : Cl P w K mg base 3 "join_of" ["parts"] spJoinOf) (G3 : Cl P w K mg base 43 "_simple_or" ["parts"] spOrOf) (G4 : Cl P w K mg base 43 "_simple_maybe" ["part"] spMaybeS) (G5 : Cl P w K mg base 2 "_simple_many" ["part"] spManyS) : ∀ n, FnOk P w K mg base CX0 (n + 43) f fd ["part"] (spSimp n)
  | 0 => none_left fun vs H Q Ex h => by
    obtain ⟨v, e, _, _, h, _⟩ := h
    exact absurd h (Nat.not_lt_zero _)
  | n + 1 => ok_simp_step B Dd G1 G2 G3 G4 G5 n (Dd.cl (all_simp B Dd G1 G2 G3 G4 G5 n))
end
/-! ### what the top has left -/
set_option maxHeartbeats 2000000 in
theorem all_mk {l : PySem.W.OpenLaw} {w : World} {K : PySem.W.Frag} {h : Heap} {mg : Str → Option Value} {fa : Addr} (X : K.In h) (G : h.Ns mainGlobals mg) (hfa : mg "law" = some (.ref fa))
    {od1 an1 od2 an2 od3 an3 od4 an4 od5 an5 od6 an6 od7 an7 od8 an8 od9 an9 od10 an10 od11 an11 od12 an12 od13 an13 od14 an14 od15 an15 od16 an16 od17 an17 od18 an18 od19 an19 od20 an20 od21 an21 od22 an22 od23 an23 od24 an24 od25 an25 od26 an26 od27 an27 od28 an28 od29 an29 od30 an30 od31 an31 od32 an32 od33 an33 od34 an34 od35 an35 od36 an36 od37 an37 od38 an38 od39 an39 od40 an40 od41 an41 od42 an42 od43 an43 od44 an44 od45 an45 od46 an46 od47 an47 od48 an48 : Option Addr} {sl1 sl2 sl3 sl4 sl5 sl6 sl7 sl8 sl9 sl10 sl11 sl12 sl13 sl14 sl15 sl16 sl17 sl18 sl19 sl20 sl21 sl22 sl23 sl24 sl25 sl26 sl27 sl28 sl29 sl30 sl31 sl32 sl33 sl34 sl35 sl36 sl37 sl38 sl39 sl40 sl41 sl42 sl43 sl44 sl45 sl46 sl47 sl48 : Array (Option Value)} {oc1 kV1 dc1 pm1 cd1 ct1 oc2 kV2 dc2 pm2 cd2 ct2 oc3 kV3 dc3 pm3 cd3 ct3 oc4 kV4 dc4 pm4 cd4 ct4 oc5 kV5 dc5 pm5 cd5 ct5 oc6 kV6 dc6 pm6 cd6 ct6 oc7 kV7 dc7 pm7 cd7 ct7 oc8 kV8 dc8 pm8 cd8 ct8 oc9 kV9 dc9 pm9 cd9 ct9 oc10 kV10 dc10 pm10 cd10 ct10 oc11 kV11 dc11 pm11 cd11 ct11 oc12 kV12 dc12 pm12 cd12 ct12 oc13 kV13 dc13 pm13 cd13 ct13 oc14 kV14 dc14 pm14 cd14 ct14 oc15 kV15 dc15 pm15 cd15 ct15 oc16 kV16 dc16 pm16 cd16 ct16 oc17 kV17 dc17 pm17 cd17 ct17 oc18 kV18 dc18 pm18 cd18 ct18 oc19 kV19 dc19 pm19 cd19 ct19 oc20 kV20 dc20 pm20 cd20 ct20 oc21 kV21 dc21 pm21 cd21 ct21 oc22 kV22 dc22 pm22 cd22 ct22 oc23 kV23 dc23 pm23 cd23 ct23 oc24 kV24 dc24 pm24 cd24 ct24 oc25 kV25 dc25 pm25 cd25 ct25 oc26 kV26 dc26 pm26 cd26 ct26 oc27 kV27 dc27 pm27 cd27 ct27 oc28 kV28 dc28 pm28 cd28 ct28 oc29 kV29 dc29 pm29 cd29 ct29 oc30 kV30 dc30 pm30 cd30 ct30 oc31 kV31 dc31 pm31 cd31 ct31 oc32 kV32 dc32 pm32 cd32 ct32 oc33 kV33 dc33 pm33 cd33 ct33 oc34 kV34 dc34 pm34 cd34 ct34 oc35 kV35 dc35 pm35 cd35 ct35 oc36 kV36 dc36 pm36 cd36 ct36 oc37 kV37 dc37 pm37 cd37 ct37 oc38 kV38 dc38 pm38 cd38 ct38 oc39 kV39 dc39 pm39 cd39 ct39 oc40 kV40 dc40 pm40 cd40 ct40 oc41 kV41 dc41 pm41 cd41 ct41 oc42 kV42 dc42 pm42 cd42 ct42 oc43 kV43 dc43 pm43 cd43 ct43 oc44 kV44 dc44 pm44 cd44 ct44 oc45 kV45 dc45 pm45 cd45 ct45 oc46 kV46 dc46 pm46 cd46 ct46 oc47 kV47 dc47 pm47 cd47 ct47 oc48 kV48 dc48 pm48 cd48 ct48 : Value} {f1 f2 f3 f4 f5 f6 f7 f8 f9 f10 f11 f12 f13 f14 f15 f16 f17 f18 f19 f20 f21 f22 f23 f24 f25 f26 f27 f28 f29 f30 f31 f32 f33 f34 f35 f36 f37 f38 f39 f40 f41 f42 f43 f44 f45 f46 f47 f48 : Addr}
    (a1 : PySem.W.nsIn K mainGlobals "steps_of" = some (some (.ref f1))) (l1 : K.lookup f1 = some ⟨oc1, od1, .func (PySem.W.fnOf "steps_of" "steps_of" (defArgs s_steps_of) (defBody s_steps_of) (defScope s_steps_of) .none kV1 dc1 pm1 an1 cd1 ct1), sl1⟩) (c1 : PySem.W.codeIn K cd1 "steps_of" = true) (k1 : PySem.W.keepIn K (.ref f1) = true)
    (a2 : PySem.W.nsIn K mainGlobals "_ends_of" = some (some (.ref f2))) (l2 : K.lookup f2 = some ⟨oc2, od2, .func (PySem.W.fnOf "_ends_of" "_ends_of" (defArgs s__ends_of) (defBody s__ends_of) (defScope s__ends_of) .none kV2 dc2 pm2 an2 cd2 ct2), sl2⟩) (c2 : PySem.W.codeIn K cd2 "_ends_of" = true) (k2 : PySem.W.keepIn K (.ref f2) = true)
    (a3 : PySem.W.nsIn K mainGlobals "_ends_of_leaf" = some (some (.ref f3))) (l3 : K.lookup f3 = some ⟨oc3, od3, .func (PySem.W.fnOf "_ends_of_leaf" "_ends_of_leaf" (defArgs s__ends_of_leaf) (defBody s__ends_of_leaf) (defScope s__ends_of_leaf) .none kV3 dc3 pm3 an3 cd3 ct3), sl3⟩) (c3 : PySem.W.codeIn K cd3 "_ends_of_leaf" = true) (k3 : PySem.W.keepIn K (.ref f3) = true)
    (a4 : PySem.W.nsIn K mainGlobals "_ends_of_join" = some (some (.ref f4))) (l4 : K.lookup f4 = some ⟨oc4, od4, .func (PySem.W.fnOf "_ends_of_join" "_ends_of_join" (defArgs s__ends_of_join) (defBody s__ends_of_join) (defScope s__ends_of_join) .none kV4 dc4 pm4 an4 cd4 ct4), sl4⟩) (c4 : PySem.W.codeIn K cd4 "_ends_of_join" = true) (k4 : PySem.W.keepIn K (.ref f4) = true)
    (a5 : PySem.W.nsIn K mainGlobals "_ends_of_or" = some (some (.ref f5))) (l5 : K.lookup f5 = some ⟨oc5, od5, .func (PySem.W.fnOf "_ends_of_or" "_ends_of_or" (defArgs s__ends_of_or) (defBody s__ends_of_or) (defScope s__ends_of_or) .none kV5 dc5 pm5 an5 cd5 ct5), sl5⟩) (c5 : PySem.W.codeIn K cd5 "_ends_of_or" = true) (k5 : PySem.W.keepIn K (.ref f5) = true)
    (a6 : PySem.W.nsIn K mainGlobals "_link" = some (some (.ref f6))) (l6 : K.lookup f6 = some ⟨oc6, od6, .func (PySem.W.fnOf "_link" "_link" (defArgs s__link) (defBody s__link) (defScope s__link) .none kV6 dc6 pm6 an6 cd6 ct6), sl6⟩) (c6 : PySem.W.codeIn K cd6 "_link" = true) (k6 : PySem.W.keepIn K (.ref f6) = true)
    (a7 : PySem.W.nsIn K mainGlobals "places_behind" = some (some (.ref f7))) (l7 : K.lookup f7 = some ⟨oc7, od7, .func (PySem.W.fnOf "places_behind" "places_behind" (defArgs s_places_behind) (defBody s_places_behind) (defScope s_places_behind) .none kV7 dc7 pm7 an7 cd7 ct7), sl7⟩) (c7 : PySem.W.codeIn K cd7 "places_behind" = true) (k7 : PySem.W.keepIn K (.ref f7) = true)
    (a8 : PySem.W.nsIn K mainGlobals "candidates_of" = some (some (.ref f8))) (l8 : K.lookup f8 = some ⟨oc8, od8, .func (PySem.W.fnOf "candidates_of" "candidates_of" (defArgs s_candidates_of) (defBody s_candidates_of) (defScope s_candidates_of) .none kV8 dc8 pm8 an8 cd8 ct8), sl8⟩) (c8 : PySem.W.codeIn K cd8 "candidates_of" = true) (k8 : PySem.W.keepIn K (.ref f8) = true)
    (a9 : PySem.W.nsIn K mainGlobals "is_right" = some (some (.ref f9))) (l9 : K.lookup f9 = some ⟨oc9, od9, .func (PySem.W.fnOf "is_right" "is_right" (defArgs s_is_right) (defBody s_is_right) (defScope s_is_right) .none kV9 dc9 pm9 an9 cd9 ct9), sl9⟩) (c9 : PySem.W.codeIn K cd9 "is_right" = true) (k9 : PySem.W.keepIn K (.ref f9) = true)
    (a10 : PySem.W.nsIn K mainGlobals "is_long" = some (some (.ref f10))) (l10 : K.lookup f10 = some ⟨oc10, od10, .func (PySem.W.fnOf "is_long" "is_long" (defArgs s_is_long) (defBody s_is_long) (defScope s_is_long) .none kV10 dc10 pm10 an10 cd10 ct10), sl10⟩) (c10 : PySem.W.codeIn K cd10 "is_long" = true) (k10 : PySem.W.keepIn K (.ref f10) = true)
    (a11 : PySem.W.nsIn K mainGlobals "is_word" = some (some (.ref f11))) (l11 : K.lookup f11 = some ⟨oc11, od11, .func (PySem.W.fnOf "is_word" "is_word" (defArgs s_is_word) (defBody s_is_word) (defScope s_is_word) .none kV11 dc11 pm11 an11 cd11 ct11), sl11⟩) (c11 : PySem.W.codeIn K cd11 "is_word" = true) (k11 : PySem.W.keepIn K (.ref f11) = true)
    (a12 : PySem.W.nsIn K mainGlobals "matches" = some (some (.ref f12))) (l12 : K.lookup f12 = some ⟨oc12, od12, .func (PySem.W.fnOf "matches" "matches" (defArgs s_matches) (defBody s_matches) (defScope s_matches) .none kV12 dc12 pm12 an12 cd12 ct12), sl12⟩) (c12 : PySem.W.codeIn K cd12 "matches" = true) (k12 : PySem.W.keepIn K (.ref f12) = true)
    (a13 : PySem.W.nsIn K mainGlobals "places" = some (some (.ref f13))) (l13 : K.lookup f13 = some ⟨oc13, od13, .func (PySem.W.fnOf "places" "places" (defArgs s_places) (defBody s_places) (defScope s_places) .none kV13 dc13 pm13 an13 cd13 ct13), sl13⟩) (c13 : PySem.W.codeIn K cd13 "places" = true) (k13 : PySem.W.keepIn K (.ref f13) = true)
    (a14 : PySem.W.nsIn K mainGlobals "sizes" = some (some (.ref f14))) (l14 : K.lookup f14 = some ⟨oc14, od14, .func (PySem.W.fnOf "sizes" "sizes" (defArgs s_sizes) (defBody s_sizes) (defScope s_sizes) .none kV14 dc14 pm14 an14 cd14 ct14), sl14⟩) (c14 : PySem.W.codeIn K cd14 "sizes" = true) (k14 : PySem.W.keepIn K (.ref f14) = true)
    (a15 : PySem.W.nsIn K mainGlobals "is_letter" = some (some (.ref f15))) (l15 : K.lookup f15 = some ⟨oc15, od15, .func (PySem.W.fnOf "is_letter" "is_letter" (defArgs s_is_letter) (defBody s_is_letter) (defScope s_is_letter) .none kV15 dc15 pm15 an15 cd15 ct15), sl15⟩) (c15 : PySem.W.codeIn K cd15 "is_letter" = true) (k15 : PySem.W.keepIn K (.ref f15) = true)
    (a16 : PySem.W.nsIn K mainGlobals "is_text" = some (some (.ref f16))) (l16 : K.lookup f16 = some ⟨oc16, od16, .func (PySem.W.fnOf "is_text" "is_text" (defArgs s_is_text) (defBody s_is_text) (defScope s_is_text) .none kV16 dc16 pm16 an16 cd16 ct16), sl16⟩) (c16 : PySem.W.codeIn K cd16 "is_text" = true) (k16 : PySem.W.keepIn K (.ref f16) = true)
    (a17 : PySem.W.nsIn K mainGlobals "check_long" = some (some (.ref f17))) (l17 : K.lookup f17 = some ⟨oc17, od17, .func (PySem.W.fnOf "check_long" "check_long" (defArgs s_check_long) (defBody s_check_long) (defScope s_check_long) .none kV17 dc17 pm17 an17 cd17 ct17), sl17⟩) (c17 : PySem.W.codeIn K cd17 "check_long" = true) (k17 : PySem.W.keepIn K (.ref f17) = true)
    (a18 : PySem.W.nsIn K mainGlobals "check_word" = some (some (.ref f18))) (l18 : K.lookup f18 = some ⟨oc18, od18, .func (PySem.W.fnOf "check_word" "check_word" (defArgs s_check_word) (defBody s_check_word) (defScope s_check_word) .none kV18 dc18 pm18 an18 cd18 ct18), sl18⟩) (c18 : PySem.W.codeIn K cd18 "check_word" = true) (k18 : PySem.W.keepIn K (.ref f18) = true)
    (a19 : PySem.W.nsIn K mainGlobals "sizes_within" = some (some (.ref f19))) (l19 : K.lookup f19 = some ⟨oc19, od19, .func (PySem.W.fnOf "sizes_within" "sizes_within" (defArgs s_sizes_within) (defBody s_sizes_within) (defScope s_sizes_within) .none kV19 dc19 pm19 an19 cd19 ct19), sl19⟩) (c19 : PySem.W.codeIn K cd19 "sizes_within" = true) (k19 : PySem.W.keepIn K (.ref f19) = true)
    (a20 : PySem.W.nsIn K mainGlobals "_parts_of" = some (some (.ref f20))) (l20 : K.lookup f20 = some ⟨oc20, od20, .func (PySem.W.fnOf "_parts_of" "_parts_of" (defArgs s__parts_of) (defBody s__parts_of) (defScope s__parts_of) .none kV20 dc20 pm20 an20 cd20 ct20), sl20⟩) (c20 : PySem.W.codeIn K cd20 "_parts_of" = true) (k20 : PySem.W.keepIn K (.ref f20) = true)
    (a21 : PySem.W.nsIn K mainGlobals "_is_row" = some (some (.ref f21))) (l21 : K.lookup f21 = some ⟨oc21, od21, .func (PySem.W.fnOf "_is_row" "_is_row" (defArgs s__is_row) (defBody s__is_row) (defScope s__is_row) .none kV21 dc21 pm21 an21 cd21 ct21), sl21⟩) (c21 : PySem.W.codeIn K cd21 "_is_row" = true) (k21 : PySem.W.keepIn K (.ref f21) = true)
    (a22 : PySem.W.nsIn K mainGlobals "_begins_with" = some (some (.ref f22))) (l22 : K.lookup f22 = some ⟨oc22, od22, .func (PySem.W.fnOf "_begins_with" "_begins_with" (defArgs s__begins_with) (defBody s__begins_with) (defScope s__begins_with) .none kV22 dc22 pm22 an22 cd22 ct22), sl22⟩) (c22 : PySem.W.codeIn K cd22 "_begins_with" = true) (k22 : PySem.W.keepIn K (.ref f22) = true)
    (a23 : PySem.W.nsIn K mainGlobals "turned" = some (some (.ref f23))) (l23 : K.lookup f23 = some ⟨oc23, od23, .func (PySem.W.fnOf "turned" "turned" (defArgs s_turned) (defBody s_turned) (defScope s_turned) .none kV23 dc23 pm23 an23 cd23 ct23), sl23⟩) (c23 : PySem.W.codeIn K cd23 "turned" = true) (k23 : PySem.W.keepIn K (.ref f23) = true)
    (a24 : PySem.W.nsIn K mainGlobals "_turned" = some (some (.ref f24))) (l24 : K.lookup f24 = some ⟨oc24, od24, .func (PySem.W.fnOf "_turned" "_turned" (defArgs s__turned) (defBody s__turned) (defScope s__turned) .none kV24 dc24 pm24 an24 cd24 ct24), sl24⟩) (c24 : PySem.W.codeIn K cd24 "_turned" = true) (k24 : PySem.W.keepIn K (.ref f24) = true)
    (a25 : PySem.W.nsIn K mainGlobals "renamed" = some (some (.ref f25))) (l25 : K.lookup f25 = some ⟨oc25, od25, .func (PySem.W.fnOf "renamed" "renamed" (defArgs s_renamed) (defBody s_renamed) (defScope s_renamed) .none kV25 dc25 pm25 an25 cd25 ct25), sl25⟩) (c25 : PySem.W.codeIn K cd25 "renamed" = true) (k25 : PySem.W.keepIn K (.ref f25) = true)
    (a26 : PySem.W.nsIn K mainGlobals "_is_order" = some (some (.ref f26))) (l26 : K.lookup f26 = some ⟨oc26, od26, .func (PySem.W.fnOf "_is_order" "_is_order" (defArgs s__is_order) (defBody s__is_order) (defScope s__is_order) .none kV26 dc26 pm26 an26 cd26 ct26), sl26⟩) (c26 : PySem.W.codeIn K cd26 "_is_order" = true) (k26 : PySem.W.keepIn K (.ref f26) = true)
    (a27 : PySem.W.nsIn K mainGlobals "_renamed" = some (some (.ref f27))) (l27 : K.lookup f27 = some ⟨oc27, od27, .func (PySem.W.fnOf "_renamed" "_renamed" (defArgs s__renamed) (defBody s__renamed) (defScope s__renamed) .none kV27 dc27 pm27 an27 cd27 ct27), sl27⟩) (c27 : PySem.W.codeIn K cd27 "_renamed" = true) (k27 : PySem.W.keepIn K (.ref f27) = true)
    (a28 : PySem.W.nsIn K mainGlobals "simple" = some (some (.ref f28))) (l28 : K.lookup f28 = some ⟨oc28, od28, .func (PySem.W.fnOf "simple" "simple" (defArgs s_simple) (defBody s_simple) (defScope s_simple) .none kV28 dc28 pm28 an28 cd28 ct28), sl28⟩) (c28 : PySem.W.codeIn K cd28 "simple" = true) (k28 : PySem.W.keepIn K (.ref f28) = true)
    (a29 : PySem.W.nsIn K mainGlobals "_simple" = some (some (.ref f29))) (l29 : K.lookup f29 = some ⟨oc29, od29, .func (PySem.W.fnOf "_simple" "_simple" (defArgs s__simple) (defBody s__simple) (defScope s__simple) .none kV29 dc29 pm29 an29 cd29 ct29), sl29⟩) (c29 : PySem.W.codeIn K cd29 "_simple" = true) (k29 : PySem.W.keepIn K (.ref f29) = true)
    (a30 : PySem.W.nsIn K mainGlobals "_simple_maybe" = some (some (.ref f30))) (l30 : K.lookup f30 = some ⟨oc30, od30, .func (PySem.W.fnOf "_simple_maybe" "_simple_maybe" (defArgs s__simple_maybe) (defBody s__simple_maybe) (defScope s__simple_maybe) .none kV30 dc30 pm30 an30 cd30 ct30), sl30⟩) (c30 : PySem.W.codeIn K cd30 "_simple_maybe" = true) (k30 : PySem.W.keepIn K (.ref f30) = true)
    (a31 : PySem.W.nsIn K mainGlobals "_simple_many" = some (some (.ref f31))) (l31 : K.lookup f31 = some ⟨oc31, od31, .func (PySem.W.fnOf "_simple_many" "_simple_many" (defArgs s__simple_many) (defBody s__simple_many) (defScope s__simple_many) .none kV31 dc31 pm31 an31 cd31 ct31), sl31⟩) (c31 : PySem.W.codeIn K cd31 "_simple_many" = true) (k31 : PySem.W.keepIn K (.ref f31) = true)
    (a32 : PySem.W.nsIn K mainGlobals "_simple_or" = some (some (.ref f32))) (l32 : K.lookup f32 = some ⟨oc32, od32, .func (PySem.W.fnOf "_simple_or" "_simple_or" (defArgs s__simple_or) (defBody s__simple_or) (defScope s__simple_or) .none kV32 dc32 pm32 an32 cd32 ct32), sl32⟩) (c32 : PySem.W.codeIn K cd32 "_simple_or" = true) (k32 : PySem.W.keepIn K (.ref f32) = true)
    (a33 : PySem.W.nsIn K mainGlobals "join_of" = some (some (.ref f33))) (l33 : K.lookup f33 = some ⟨oc33, od33, .func (PySem.W.fnOf "join_of" "join_of" (defArgs s_join_of) (defBody s_join_of) (defScope s_join_of) .none kV33 dc33 pm33 an33 cd33 ct33), sl33⟩) (c33 : PySem.W.codeIn K cd33 "join_of" = true) (k33 : PySem.W.keepIn K (.ref f33) = true)
    (a34 : PySem.W.nsIn K mainGlobals "opened_parts" = some (some (.ref f34))) (l34 : K.lookup f34 = some ⟨oc34, od34, .func (PySem.W.fnOf "opened_parts" "opened_parts" (defArgs s_opened_parts) (defBody s_opened_parts) (defScope s_opened_parts) .none kV34 dc34 pm34 an34 cd34 ct34), sl34⟩) (c34 : PySem.W.codeIn K cd34 "opened_parts" = true) (k34 : PySem.W.keepIn K (.ref f34) = true)
    (a35 : PySem.W.nsIn K mainGlobals "_has_word" = some (some (.ref f35))) (l35 : K.lookup f35 = some ⟨oc35, od35, .func (PySem.W.fnOf "_has_word" "_has_word" (defArgs s__has_word) (defBody s__has_word) (defScope s__has_word) .none kV35 dc35 pm35 an35 cd35 ct35), sl35⟩) (c35 : PySem.W.codeIn K cd35 "_has_word" = true) (k35 : PySem.W.keepIn K (.ref f35) = true)
    (a36 : PySem.W.nsIn K mainGlobals "row_of" = some (some (.ref f36))) (l36 : K.lookup f36 = some ⟨oc36, od36, .func (PySem.W.fnOf "row_of" "row_of" (defArgs s_row_of) (defBody s_row_of) (defScope s_row_of) .none kV36 dc36 pm36 an36 cd36 ct36), sl36⟩) (c36 : PySem.W.codeIn K cd36 "row_of" = true) (k36 : PySem.W.keepIn K (.ref f36) = true)
    (a37 : PySem.W.nsIn K mainGlobals "least_length" = some (some (.ref f37))) (l37 : K.lookup f37 = some ⟨oc37, od37, .func (PySem.W.fnOf "least_length" "least_length" (defArgs s_least_length) (defBody s_least_length) (defScope s_least_length) .none kV37 dc37 pm37 an37 cd37 ct37), sl37⟩) (c37 : PySem.W.codeIn K cd37 "least_length" = true) (k37 : PySem.W.keepIn K (.ref f37) = true)
    (a38 : PySem.W.nsIn K mainGlobals "_least" = some (some (.ref f38))) (l38 : K.lookup f38 = some ⟨oc38, od38, .func (PySem.W.fnOf "_least" "_least" (defArgs s__least) (defBody s__least) (defScope s__least) .none kV38 dc38 pm38 an38 cd38 ct38), sl38⟩) (c38 : PySem.W.codeIn K cd38 "_least" = true) (k38 : PySem.W.keepIn K (.ref f38) = true)
    (a39 : PySem.W.nsIn K mainGlobals "greatest_length" = some (some (.ref f39))) (l39 : K.lookup f39 = some ⟨oc39, od39, .func (PySem.W.fnOf "greatest_length" "greatest_length" (defArgs s_greatest_length) (defBody s_greatest_length) (defScope s_greatest_length) .none kV39 dc39 pm39 an39 cd39 ct39), sl39⟩) (c39 : PySem.W.codeIn K cd39 "greatest_length" = true) (k39 : PySem.W.keepIn K (.ref f39) = true)
    (a40 : PySem.W.nsIn K mainGlobals "_greatest" = some (some (.ref f40))) (l40 : K.lookup f40 = some ⟨oc40, od40, .func (PySem.W.fnOf "_greatest" "_greatest" (defArgs s__greatest) (defBody s__greatest) (defScope s__greatest) .none kV40 dc40 pm40 an40 cd40 ct40), sl40⟩) (c40 : PySem.W.codeIn K cd40 "_greatest" = true) (k40 : PySem.W.keepIn K (.ref f40) = true)
    (a41 : PySem.W.nsIn K mainGlobals "_law_stream" = some (some (.ref f41))) (l41 : K.lookup f41 = some ⟨oc41, od41, .func (PySem.W.fnOf "_law_stream" "_law_stream" (defArgs s__law_stream) (defBody s__law_stream) (defScope s__law_stream) .none kV41 dc41 pm41 an41 cd41 ct41), sl41⟩) (c41 : PySem.W.codeIn K cd41 "_law_stream" = true) (k41 : PySem.W.keepIn K (.ref f41) = true)
    (a42 : PySem.W.nsIn K mainGlobals "_law_next" = some (some (.ref f42))) (l42 : K.lookup f42 = some ⟨oc42, od42, .func (PySem.W.fnOf "_law_next" "_law_next" (defArgs s__law_next) (defBody s__law_next) (defScope s__law_next) .none kV42 dc42 pm42 an42 cd42 ct42), sl42⟩) (c42 : PySem.W.codeIn K cd42 "_law_next" = true) (k42 : PySem.W.keepIn K (.ref f42) = true)
    (a43 : PySem.W.nsIn K mainGlobals "_law_pick" = some (some (.ref f43))) (l43 : K.lookup f43 = some ⟨oc43, od43, .func (PySem.W.fnOf "_law_pick" "_law_pick" (defArgs s__law_pick) (defBody s__law_pick) (defScope s__law_pick) .none kV43 dc43 pm43 an43 cd43 ct43), sl43⟩) (c43 : PySem.W.codeIn K cd43 "_law_pick" = true) (k43 : PySem.W.keepIn K (.ref f43) = true)
    (a44 : PySem.W.nsIn K mainGlobals "_law_grown" = some (some (.ref f44))) (l44 : K.lookup f44 = some ⟨oc44, od44, .func (PySem.W.fnOf "_law_grown" "_law_grown" (defArgs s__law_grown) (defBody s__law_grown) (defScope s__law_grown) .none kV44 dc44 pm44 an44 cd44 ct44), sl44⟩) (c44 : PySem.W.codeIn K cd44 "_law_grown" = true) (k44 : PySem.W.keepIn K (.ref f44) = true)
    (a45 : PySem.W.nsIn K mainGlobals "_law_expression" = some (some (.ref f45))) (l45 : K.lookup f45 = some ⟨oc45, od45, .func (PySem.W.fnOf "_law_expression" "_law_expression" (defArgs s__law_expression) (defBody s__law_expression) (defScope s__law_expression) .none kV45 dc45 pm45 an45 cd45 ct45), sl45⟩) (c45 : PySem.W.codeIn K cd45 "_law_expression" = true) (k45 : PySem.W.keepIn K (.ref f45) = true)
    (a46 : PySem.W.nsIn K mainGlobals "_law_told" = some (some (.ref f46))) (l46 : K.lookup f46 = some ⟨oc46, od46, .func (PySem.W.fnOf "_law_told" "_law_told" (defArgs s__law_told) (defBody s__law_told) (defScope s__law_told) .none kV46 dc46 pm46 an46 cd46 ct46), sl46⟩) (c46 : PySem.W.codeIn K cd46 "_law_told" = true) (k46 : PySem.W.keepIn K (.ref f46) = true)
    (a47 : PySem.W.nsIn K mainGlobals "_law_chain" = some (some (.ref f47))) (l47 : K.lookup f47 = some ⟨oc47, od47, .func (PySem.W.fnOf "_law_chain" "_law_chain" (defArgs s__law_chain) (defBody s__law_chain) (defScope s__law_chain) .none kV47 dc47 pm47 an47 cd47 ct47), sl47⟩) (c47 : PySem.W.codeIn K cd47 "_law_chain" = true) (k47 : PySem.W.keepIn K (.ref f47) = true)
    (a48 : PySem.W.nsIn K mainGlobals "law" = some (some (.ref f48))) (l48 : K.lookup f48 = some ⟨oc48, od48, .func (PySem.W.fnOf "law" "law" (defArgs s_law) (defBody s_law) (defScope s_law) .none kV48 dc48 pm48 an48 cd48 ct48), sl48⟩) (c48 : PySem.W.codeIn K cd48 "law" = true) (k48 : PySem.W.keepIn K (.ref f48) = true)
    (z_ValueError : PySem.W.nsIn K mainGlobals "ValueError" = some none) (z_abs : PySem.W.nsIn K mainGlobals "abs" = some none) (z_all : PySem.W.nsIn K mainGlobals "all" = some none) (z_any : PySem.W.nsIn K mainGlobals "any" = some none) (z_int : PySem.W.nsIn K mainGlobals "int" = some none) (z_isinstance : PySem.W.nsIn K mainGlobals "isinstance" = some none) (z_len : PySem.W.nsIn K mainGlobals "len" = some none) (z_list : PySem.W.nsIn K mainGlobals "list" = some none) (z_max : PySem.W.nsIn K mainGlobals "max" = some none) (z_min : PySem.W.nsIn K mainGlobals "min" = some none) (z_range : PySem.W.nsIn K mainGlobals "range" = some none) (z_set : PySem.W.nsIn K mainGlobals "set" = some none) (z_sorted : PySem.W.nsIn K mainGlobals "sorted" = some none) (z_str : PySem.W.nsIn K mainGlobals "str" = some none) (z_sum : PySem.W.nsIn K mainGlobals "sum" = some none) (z_super : PySem.W.nsIn K mainGlobals "super" = some none) (z_tuple : PySem.W.nsIn K mainGlobals "tuple" = some none)
    {tL tM tG1 tG2 tG3 : Tok} {aG : Addr} {dG : Option Addr} {nG : Nat} {slG : Array (Option Value)}
    (gL : PySem.W.nsIn K mainGlobals "LETTERS" = some (some (.str "abcd" tL)))
    (gM : PySem.W.nsIn K mainGlobals "MOST_LETTERS" = some (some (.int 24 tM)))
    (gG : PySem.W.nsIn K mainGlobals "LONG_BOUNDS" = some (some (.ref aG))) (lG : K.lookup aG = some ⟨.type "tuple", dG, .seq #[.int 40 tG1, .int 40 tG2, .int 200 tG3] nG, slG⟩)
    {CS fI : Addr} {odI anI : Option Addr} {slI : Array (Option Value)} {ocI kVI dcI pmI cdI ctI : Value}
    (aS : PySem.W.nsIn K mainGlobals "Steps" = some (some (.ref CS))) (aI : PySem.W.findIn K (.ref CS) "__init__" = some (some (.ref fI))) (iI : PySem.W.isFn K (.ref fI) = true)
    (lI : K.lookup fI = some ⟨ocI, odI, .func (PySem.W.fnOf "__init__" "Steps.__init__" (defArgs s_Steps___init__) (defBody s_Steps___init__) (defScope s_Steps___init__) .none kVI dcI pmI anI cdI ctI), slI⟩) (cI : PySem.W.codeIn K cdI "Steps.__init__" = true) (kI : PySem.W.keepIn K (.ref fI) = true)
    (pgS : PySem.W.plainGet K CS Str.empty = true) (hdS : PySem.W.hasDictIn K CS = true) (poS : PySem.W.plainOver K CS = true) (saS : PySem.W.findIn K (.ref CS) "__setattr__" = some (some (.builtin "object.__setattr__"))) (mkS : PySem.W.makesIn K CS = true) (kcS : PySem.W.keepIn K (.ref CS) = true)
    (n1 : PySem.W.findIn K (.ref CS) "letters" = some none) (n2 : PySem.W.findIn K (.ref CS) "empty" = some none) (n3 : PySem.W.findIn K (.ref CS) "first" = some none) (n4 : PySem.W.findIn K (.ref CS) "last" = some none) (n5 : PySem.W.findIn K (.ref CS) "following" = some none)
    {CBadValue fIBadValue cdaBadValue ccBadValue : Addr} {nmBadValue qBadValue : Str} {NBadValue : Addr} {bsBadValue bmBadValue : List Value} {snBadValue : List Str} {subBadValue : List Value} {abBadValue : Bool} {colBadValue : Option Bool} {ddBadValue : Option Addr} {k0BadValue k1BadValue k2BadValue k3BadValue k5BadValue : Option Value}
    {ocBadValue docBadValue pmBadValue ctBadValue : Value} {odBadValue anBadValue : Option Addr} {oslBadValue : Array (Option Value)} {p1BadValue p2BadValue a1BadValue a2BadValue a3BadValue a4BadValue a5BadValue a6BadValue a7BadValue a8BadValue a9BadValue b1BadValue b2BadValue b3BadValue b4BadValue : Pos}
    {o1BadValue o4BadValue : Value} {o2BadValue o5BadValue : Option Addr} {vsBadValue : Array Value} {o3BadValue o6BadValue : Array (Option Value)} {fileBadValue : Str} {tfBadValue : Tok}
    (gCBadValue : PySem.W.nsIn K mainGlobals "BadValue" = some (some (.ref CBadValue)))
    (xLBadValue : K.lookup CBadValue = some (excClassObj nmBadValue qBadValue CBadValue NBadValue bsBadValue bmBadValue true snBadValue subBadValue abBadValue colBadValue ddBadValue k0BadValue k1BadValue k2BadValue k3BadValue k5BadValue "ValueError.__new__")) (bmBadValue' : PySem.HandSPX.refsVE bmBadValue = true)
    (saBadValue : PySem.W.findIn K (.ref CBadValue) "__setattr__" = some (some (.builtin "object.__setattr__"))) (gaBadValue : PySem.W.findIn K (.ref CBadValue) "__getattribute__" = some (some (.builtin "BaseException.__getattribute__"))) (ggBadValue : PySem.W.findIn K (.ref CBadValue) "__getattr__" = some none) (nbBadValue : PySem.W.findIn K (.ref CBadValue) "name" = some none)
    (iCBadValue : PySem.W.findIn K (.ref CBadValue) "__init__" = some (some (.ref fIBadValue))) (tIBadValue : PySem.W.typeIn K (.ref fIBadValue) = some (.type "function")) (kCBadValue : PySem.W.keepIn K (.ref CBadValue) = true) (eCBadValue : PySem.W.subIn K (.ref CBadValue) (.type "BaseException") = some true) (tCBadValue : PySem.W.typeIn K (.ref CBadValue) = some (.type "type")) (hCBadValue : PySem.W.hasDictIn K CBadValue = true)
    (upBadValue : PySem.W.ks_superIn K CBadValue CBadValue "__init__" = some (some (.builtin "ValueError.__init__"))) (mCBadValue : PySem.W.mroIn K CBadValue (.ref CBadValue) = some true) (sVBadValue : PySem.W.subIn K (.ref CBadValue) (.type "ValueError") = some true) (sSBadValue : PySem.W.subIn K (.ref CBadValue) (.ref CBadValue) = some true)
    (opBadValue : PySem.W.nsIn K cStatics "thirdparty.any" = some none) (gSBadValue : PySem.W.nsIn K mainGlobals "super" = some none)
    (lIBadValue : K.lookup fIBadValue = some ⟨ocBadValue, odBadValue, .func (PySem.W.ksFn "__init__" "BadValue.__init__" (ExBadValue.prm p1BadValue p2BadValue) (ExBadValue.bod a1BadValue a2BadValue a3BadValue a4BadValue a5BadValue a6BadValue a7BadValue a8BadValue a9BadValue b1BadValue b2BadValue b3BadValue b4BadValue) ExBadValue.scp .none .none docBadValue pmBadValue anBadValue (.ref cdaBadValue) ctBadValue ccBadValue), oslBadValue⟩) (cIBadValue : PySem.W.codeIn K (.ref cdaBadValue) "BadValue.__init__" = true)
    (lDBadValue : K.lookup cdaBadValue = some ⟨o1BadValue, o2BadValue, .fields vsBadValue, o3BadValue⟩) (vDBadValue : vsBadValue[2]? = some (.str fileBadValue tfBadValue)) (fDBadValue : fileBadValue = "/claim/cut.py") (lccBadValue : K.lookup ccBadValue = some ⟨o4BadValue, o5BadValue, .cell (some (.ref CBadValue)), o6BadValue⟩) (eLBadValue : (a3BadValue.endLine == a8BadValue.line) = true)
    (pFBadValue : l.prog.main.file = "/claim/cut.py") (pSBadValue : (l.prog.main.scope.names.lookup ("super" : Str)).isSome = false)
    {CDoubtError : Addr} (gDoubt : PySem.W.nsIn K mainGlobals "DoubtError" = some (some (.ref CDoubtError)))
    (isH1 : PySem.W.findIn K (.ref CBadValue) "__class__" = some (some (.builtin "object.__class__")))
    (isH2 : PySem.W.specialIn K (.builtin "object.__class__") "__get__" = some (some (.builtin "getset_descriptor.__get__")))
    (isH3 : PySem.W.takesIn K (.builtin "object.__class__") = some true)
    (isH4 : PySem.W.mroIn K CBadValue (.type "object") = some true)
    (kDE : PySem.W.kitOne K (.ref CBadValue) (.ref CDoubtError) = some true)
    (kVE : PySem.W.kitOne K (.ref CBadValue) (.type "ValueError") = some true)
    :
    ∃ fd : FuncData, (∀ (s : Shared) (v : Value), BindsTo s fd ⟨[v], []⟩ [("script", v)]) ∧ ∀ base : Heap, K.In base → base.Ns mainGlobals mg → FnOk l.prog w K mg base CX0 91 fa fd ["script"] (spLaw K) := by
  have F1 := fun_mk (st := s_steps_of) l1 c1 k1
  have b1 := F1.binds (ps := ["expression"]) fun _ _ _ _ _ _ us hl => match us, hl with | [_], _ => rfl
  have D_steps_of : Df K mg "steps_of" s_steps_of ["expression"] f1 _ := ⟨F1, b1, PySem.W.mg_of X G a1⟩
  have F2 := fun_mk (st := s__ends_of) l2 c2 k2
  have b2 := F2.binds (ps := ["part", "letters", "rows"]) fun _ _ _ _ _ _ us hl => match us, hl with | [_, _, _], _ => rfl
  have D__ends_of : Df K mg "_ends_of" s__ends_of ["part", "letters", "rows"] f2 _ := ⟨F2, b2, PySem.W.mg_of X G a2⟩
  have F3 := fun_mk (st := s__ends_of_leaf) l3 c3 k3
  have b3 := F3.binds (ps := ["part", "letters", "rows"]) fun _ _ _ _ _ _ us hl => match us, hl with | [_, _, _], _ => rfl
  have D__ends_of_leaf : Df K mg "_ends_of_leaf" s__ends_of_leaf ["part", "letters", "rows"] f3 _ := ⟨F3, b3, PySem.W.mg_of X G a3⟩
  have F4 := fun_mk (st := s__ends_of_join) l4 c4 k4
  have b4 := F4.binds (ps := ["parts", "letters", "rows"]) fun _ _ _ _ _ _ us hl => match us, hl with | [_, _, _], _ => rfl
  have D__ends_of_join : Df K mg "_ends_of_join" s__ends_of_join ["parts", "letters", "rows"] f4 _ := ⟨F4, b4, PySem.W.mg_of X G a4⟩
  have F5 := fun_mk (st := s__ends_of_or) l5 c5 k5
  have b5 := F5.binds (ps := ["parts", "letters", "rows"]) fun _ _ _ _ _ _ us hl => match us, hl with | [_, _, _], _ => rfl
  have D__ends_of_or : Df K mg "_ends_of_or" s__ends_of_or ["parts", "letters", "rows"] f5 _ := ⟨F5, b5, PySem.W.mg_of X G a5⟩
  have F6 := fun_mk (st := s__link) l6 c6 k6
  have b6 := F6.binds (ps := ["rows", "ends", "begins"]) fun _ _ _ _ _ _ us hl => match us, hl with | [_, _, _], _ => rfl
  have D__link : Df K mg "_link" s__link ["rows", "ends", "begins"] f6 _ := ⟨F6, b6, PySem.W.mg_of X G a6⟩
  have F7 := fun_mk (st := s_places_behind) l7 c7 k7
  have b7 := F7.binds (ps := ["steps", "row"]) fun _ _ _ _ _ _ us hl => match us, hl with | [_, _], _ => rfl
  have D_places_behind : Df K mg "places_behind" s_places_behind ["steps", "row"] f7 _ := ⟨F7, b7, PySem.W.mg_of X G a7⟩
  have F8 := fun_mk (st := s_candidates_of) l8 c8 k8
  have b8 := F8.binds (ps := ["steps", "word"]) fun _ _ _ _ _ _ us hl => match us, hl with | [_, _], _ => rfl
  have D_candidates_of : Df K mg "candidates_of" s_candidates_of ["steps", "word"] f8 _ := ⟨F8, b8, PySem.W.mg_of X G a8⟩
  have F9 := fun_mk (st := s_is_right) l9 c9 k9
  have b9 := F9.binds (ps := ["steps", "word"]) fun _ _ _ _ _ _ us hl => match us, hl with | [_, _], _ => rfl
  have D_is_right : Df K mg "is_right" s_is_right ["steps", "word"] f9 _ := ⟨F9, b9, PySem.W.mg_of X G a9⟩
  have F10 := fun_mk (st := s_is_long) l10 c10 k10
  have b10 := F10.binds (ps := ["value"]) fun _ _ _ _ _ _ us hl => match us, hl with | [_], _ => rfl
  have D_is_long : Df K mg "is_long" s_is_long ["value"] f10 _ := ⟨F10, b10, PySem.W.mg_of X G a10⟩
  have F11 := fun_mk (st := s_is_word) l11 c11 k11
  have b11 := F11.binds (ps := ["value"]) fun _ _ _ _ _ _ us hl => match us, hl with | [_], _ => rfl
  have D_is_word : Df K mg "is_word" s_is_word ["value"] f11 _ := ⟨F11, b11, PySem.W.mg_of X G a11⟩
  have F12 := fun_mk (st := s_matches) l12 c12 k12
  have b12 := F12.binds (ps := ["expression", "word"]) fun _ _ _ _ _ _ us hl => match us, hl with | [_, _], _ => rfl
  have D_matches : Df K mg "matches" s_matches ["expression", "word"] f12 _ := ⟨F12, b12, PySem.W.mg_of X G a12⟩
  have F13 := fun_mk (st := s_places) l13 c13 k13
  have b13 := F13.binds (ps := ["expression"]) fun _ _ _ _ _ _ us hl => match us, hl with | [_], _ => rfl
  have D_places : Df K mg "places" s_places ["expression"] f13 _ := ⟨F13, b13, PySem.W.mg_of X G a13⟩
  have F14 := fun_mk (st := s_sizes) l14 c14 k14
  have b14 := F14.binds (ps := ["expression"]) fun _ _ _ _ _ _ us hl => match us, hl with | [_], _ => rfl
  have D_sizes : Df K mg "sizes" s_sizes ["expression"] f14 _ := ⟨F14, b14, PySem.W.mg_of X G a14⟩
  have F15 := fun_mk (st := s_is_letter) l15 c15 k15
  have b15 := F15.binds (ps := ["value"]) fun _ _ _ _ _ _ us hl => match us, hl with | [_], _ => rfl
  have D_is_letter : Df K mg "is_letter" s_is_letter ["value"] f15 _ := ⟨F15, b15, PySem.W.mg_of X G a15⟩
  have F16 := fun_mk (st := s_is_text) l16 c16 k16
  have b16 := F16.binds (ps := ["value", "most"]) fun _ _ _ _ _ _ us hl => match us, hl with | [_, _], _ => rfl
  have D_is_text : Df K mg "is_text" s_is_text ["value", "most"] f16 _ := ⟨F16, b16, PySem.W.mg_of X G a16⟩
  have F17 := fun_mk (st := s_check_long) l17 c17 k17
  have b17 := F17.binds (ps := ["value"]) fun _ _ _ _ _ _ us hl => match us, hl with | [_], _ => rfl
  have D_check_long : Df K mg "check_long" s_check_long ["value"] f17 _ := ⟨F17, b17, PySem.W.mg_of X G a17⟩
  have F18 := fun_mk (st := s_check_word) l18 c18 k18
  have b18 := F18.binds (ps := ["value"]) fun _ _ _ _ _ _ us hl => match us, hl with | [_], _ => rfl
  have D_check_word : Df K mg "check_word" s_check_word ["value"] f18 _ := ⟨F18, b18, PySem.W.mg_of X G a18⟩
  have F19 := fun_mk (st := s_sizes_within) l19 c19 k19
  have b19 := F19.binds (ps := ["value", "bounds"]) fun _ _ _ _ _ _ us hl => match us, hl with | [_, _], _ => rfl
  have D_sizes_within : Df K mg "sizes_within" s_sizes_within ["value", "bounds"] f19 _ := ⟨F19, b19, PySem.W.mg_of X G a19⟩
  have F20 := fun_mk (st := s__parts_of) l20 c20 k20
  have b20 := F20.binds (ps := ["value"]) fun _ _ _ _ _ _ us hl => match us, hl with | [_], _ => rfl
  have D__parts_of : Df K mg "_parts_of" s__parts_of ["value"] f20 _ := ⟨F20, b20, PySem.W.mg_of X G a20⟩
  have F21 := fun_mk (st := s__is_row) l21 c21 k21
  have b21 := F21.binds (ps := ["word", "value"]) fun _ _ _ _ _ _ us hl => match us, hl with | [_, _], _ => rfl
  have D__is_row : Df K mg "_is_row" s__is_row ["word", "value"] f21 _ := ⟨F21, b21, PySem.W.mg_of X G a21⟩
  have F22 := fun_mk (st := s__begins_with) l22 c22 k22
  have b22 := F22.binds (ps := ["value", "word"]) fun _ _ _ _ _ _ us hl => match us, hl with | [_, _], _ => rfl
  have D__begins_with : Df K mg "_begins_with" s__begins_with ["value", "word"] f22 _ := ⟨F22, b22, PySem.W.mg_of X G a22⟩
  have F23 := fun_mk (st := s_turned) l23 c23 k23
  have b23 := F23.binds (ps := ["expression"]) fun _ _ _ _ _ _ us hl => match us, hl with | [_], _ => rfl
  have D_turned : Df K mg "turned" s_turned ["expression"] f23 _ := ⟨F23, b23, PySem.W.mg_of X G a23⟩
  have F24 := fun_mk (st := s__turned) l24 c24 k24
  have b24 := F24.binds (ps := ["part"]) fun _ _ _ _ _ _ us hl => match us, hl with | [_], _ => rfl
  have D__turned : Df K mg "_turned" s__turned ["part"] f24 _ := ⟨F24, b24, PySem.W.mg_of X G a24⟩
  have F25 := fun_mk (st := s_renamed) l25 c25 k25
  have b25 := F25.binds (ps := ["expression", "order"]) fun _ _ _ _ _ _ us hl => match us, hl with | [_, _], _ => rfl
  have D_renamed : Df K mg "renamed" s_renamed ["expression", "order"] f25 _ := ⟨F25, b25, PySem.W.mg_of X G a25⟩
  have F26 := fun_mk (st := s__is_order) l26 c26 k26
  have b26 := F26.binds (ps := ["value"]) fun _ _ _ _ _ _ us hl => match us, hl with | [_], _ => rfl
  have D__is_order : Df K mg "_is_order" s__is_order ["value"] f26 _ := ⟨F26, b26, PySem.W.mg_of X G a26⟩
  have F27 := fun_mk (st := s__renamed) l27 c27 k27
  have b27 := F27.binds (ps := ["part", "order"]) fun _ _ _ _ _ _ us hl => match us, hl with | [_, _], _ => rfl
  have D__renamed : Df K mg "_renamed" s__renamed ["part", "order"] f27 _ := ⟨F27, b27, PySem.W.mg_of X G a27⟩
  have F28 := fun_mk (st := s_simple) l28 c28 k28
  have b28 := F28.binds (ps := ["expression"]) fun _ _ _ _ _ _ us hl => match us, hl with | [_], _ => rfl
  have D_simple : Df K mg "simple" s_simple ["expression"] f28 _ := ⟨F28, b28, PySem.W.mg_of X G a28⟩
  have F29 := fun_mk (st := s__simple) l29 c29 k29
  have b29 := F29.binds (ps := ["part"]) fun _ _ _ _ _ _ us hl => match us, hl with | [_], _ => rfl
  have D__simple : Df K mg "_simple" s__simple ["part"] f29 _ := ⟨F29, b29, PySem.W.mg_of X G a29⟩
  have F30 := fun_mk (st := s__simple_maybe) l30 c30 k30
  have b30 := F30.binds (ps := ["part"]) fun _ _ _ _ _ _ us hl => match us, hl with | [_], _ => rfl
  have D__simple_maybe : Df K mg "_simple_maybe" s__simple_maybe ["part"] f30 _ := ⟨F30, b30, PySem.W.mg_of X G a30⟩
  have F31 := fun_mk (st := s__simple_many) l31 c31 k31
  have b31 := F31.binds (ps := ["part"]) fun _ _ _ _ _ _ us hl => match us, hl with | [_], _ => rfl
  have D__simple_many : Df K mg "_simple_many" s__simple_many ["part"] f31 _ := ⟨F31, b31, PySem.W.mg_of X G a31⟩
  have F32 := fun_mk (st := s__simple_or) l32 c32 k32
  have b32 := F32.binds (ps := ["parts"]) fun _ _ _ _ _ _ us hl => match us, hl with | [_], _ => rfl
  have D__simple_or : Df K mg "_simple_or" s__simple_or ["parts"] f32 _ := ⟨F32, b32, PySem.W.mg_of X G a32⟩
  have F33 := fun_mk (st := s_join_of) l33 c33 k33
  have b33 := F33.binds (ps := ["parts"]) fun _ _ _ _ _ _ us hl => match us, hl with | [_], _ => rfl
  have D_join_of : Df K mg "join_of" s_join_of ["parts"] f33 _ := ⟨F33, b33, PySem.W.mg_of X G a33⟩
  have F34 := fun_mk (st := s_opened_parts) l34 c34 k34
  have b34 := F34.binds (ps := ["word", "parts"]) fun _ _ _ _ _ _ us hl => match us, hl with | [_, _], _ => rfl
  have D_opened_parts : Df K mg "opened_parts" s_opened_parts ["word", "parts"] f34 _ := ⟨F34, b34, PySem.W.mg_of X G a34⟩
  have F35 := fun_mk (st := s__has_word) l35 c35 k35
  have b35 := F35.binds (ps := ["part", "word"]) fun _ _ _ _ _ _ us hl => match us, hl with | [_, _], _ => rfl
  have D__has_word : Df K mg "_has_word" s__has_word ["part", "word"] f35 _ := ⟨F35, b35, PySem.W.mg_of X G a35⟩
  have F36 := fun_mk (st := s_row_of) l36 c36 k36
  have b36 := F36.binds (ps := ["word", "parts"]) fun _ _ _ _ _ _ us hl => match us, hl with | [_, _], _ => rfl
  have D_row_of : Df K mg "row_of" s_row_of ["word", "parts"] f36 _ := ⟨F36, b36, PySem.W.mg_of X G a36⟩
  have F37 := fun_mk (st := s_least_length) l37 c37 k37
  have b37 := F37.binds (ps := ["expression"]) fun _ _ _ _ _ _ us hl => match us, hl with | [_], _ => rfl
  have D_least_length : Df K mg "least_length" s_least_length ["expression"] f37 _ := ⟨F37, b37, PySem.W.mg_of X G a37⟩
  have F38 := fun_mk (st := s__least) l38 c38 k38
  have b38 := F38.binds (ps := ["part"]) fun _ _ _ _ _ _ us hl => match us, hl with | [_], _ => rfl
  have D__least : Df K mg "_least" s__least ["part"] f38 _ := ⟨F38, b38, PySem.W.mg_of X G a38⟩
  have F39 := fun_mk (st := s_greatest_length) l39 c39 k39
  have b39 := F39.binds (ps := ["expression"]) fun _ _ _ _ _ _ us hl => match us, hl with | [_], _ => rfl
  have D_greatest_length : Df K mg "greatest_length" s_greatest_length ["expression"] f39 _ := ⟨F39, b39, PySem.W.mg_of X G a39⟩
  have F40 := fun_mk (st := s__greatest) l40 c40 k40
  have b40 := F40.binds (ps := ["part"]) fun _ _ _ _ _ _ us hl => match us, hl with | [_], _ => rfl
  have D__greatest : Df K mg "_greatest" s__greatest ["part"] f40 _ := ⟨F40, b40, PySem.W.mg_of X G a40⟩
  have F41 := fun_mk (st := s__law_stream) l41 c41 k41
  have b41 := F41.binds (ps := ["script"]) fun _ _ _ _ _ _ us hl => match us, hl with | [_], _ => rfl
  have D__law_stream : Df K mg "_law_stream" s__law_stream ["script"] f41 _ := ⟨F41, b41, PySem.W.mg_of X G a41⟩
  have F42 := fun_mk (st := s__law_next) l42 c42 k42
  have b42 := F42.binds (ps := ["stream", "many"]) fun _ _ _ _ _ _ us hl => match us, hl with | [_, _], _ => rfl
  have D__law_next : Df K mg "_law_next" s__law_next ["stream", "many"] f42 _ := ⟨F42, b42, PySem.W.mg_of X G a42⟩
  have F43 := fun_mk (st := s__law_pick) l43 c43 k43
  have b43 := F43.binds (ps := ["stream", "rows"]) fun _ _ _ _ _ _ us hl => match us, hl with | [_, _], _ => rfl
  have D__law_pick : Df K mg "_law_pick" s__law_pick ["stream", "rows"] f43 _ := ⟨F43, b43, PySem.W.mg_of X G a43⟩
  have F44 := fun_mk (st := s__law_grown) l44 c44 k44
  have b44 := F44.binds (ps := ["stream", "letters", "room", "deep", "outer"]) fun _ _ _ _ _ _ us hl => match us, hl with | [_, _, _, _, _], _ => rfl
  have D__law_grown : Df K mg "_law_grown" s__law_grown ["stream", "letters", "room", "deep", "outer"] f44 _ := ⟨F44, b44, PySem.W.mg_of X G a44⟩
  have F45 := fun_mk (st := s__law_expression) l45 c45 k45
  have b45 := F45.binds (ps := ["stream", "most"]) fun _ _ _ _ _ _ us hl => match us, hl with | [_, _], _ => rfl
  have D__law_expression : Df K mg "_law_expression" s__law_expression ["stream", "most"] f45 _ := ⟨F45, b45, PySem.W.mg_of X G a45⟩
  have F46 := fun_mk (st := s__law_told) l46 c46 k46
  have b46 := F46.binds (ps := ["word", "parts"]) fun _ _ _ _ _ _ us hl => match us, hl with | [_, _], _ => rfl
  have D__law_told : Df K mg "_law_told" s__law_told ["word", "parts"] f46 _ := ⟨F46, b46, PySem.W.mg_of X G a46⟩
  have F47 := fun_mk (st := s__law_chain) l47 c47 k47
  have b47 := F47.binds (ps := ["many"]) fun _ _ _ _ _ _ us hl => match us, hl with | [_], _ => rfl
  have D__law_chain : Df K mg "_law_chain" s__law_chain ["many"] f47 _ := ⟨F47, b47, PySem.W.mg_of X G a47⟩
  have F48 := fun_mk (st := s_law) l48 c48 k48
  have b48 := F48.binds (ps := ["script"]) fun _ _ _ _ _ _ us hl => match us, hl with | [_], _ => rfl
  have D_law : Df K mg "law" s_law ["script"] f48 _ := ⟨F48, b48, PySem.W.mg_of X G a48⟩
  have B : Bt K mg aG aG tL tM := ⟨PySem.W.mg_none_of X G z_ValueError, PySem.W.mg_none_of X G z_abs, PySem.W.mg_none_of X G z_all, PySem.W.mg_none_of X G z_any, PySem.W.mg_none_of X G z_int, PySem.W.mg_none_of X G z_isinstance, PySem.W.mg_none_of X G z_len, PySem.W.mg_none_of X G z_list, PySem.W.mg_none_of X G z_max, PySem.W.mg_none_of X G z_min, PySem.W.mg_none_of X G z_range, PySem.W.mg_none_of X G z_set, PySem.W.mg_none_of X G z_sorted, PySem.W.mg_none_of X G z_str, PySem.W.mg_none_of X G z_sum, PySem.W.mg_none_of X G z_super, PySem.W.mg_none_of X G z_tuple, PySem.W.mg_of X G gL, PySem.W.mg_of X G gG, PySem.W.mg_of X G gM, fun H => .inr ⟨_, _, _, lG, rfl, rfl, (by show 3 ≤ sizeLine; decide), .cons ⟨_, rfl⟩ (.cons ⟨_, rfl⟩ (.cons ⟨_, rfl⟩ .nil))⟩⟩
  have TBadValue : ExBadValue.Txt K mg CBadValue fIBadValue := ⟨PySem.W.mg_of X G gCBadValue, ⟨_, _, _, _, _, _, _, _, _, _, _, _, _, _, _, xLBadValue, bmBadValue'⟩, saBadValue, gaBadValue, ggBadValue, nbBadValue, iCBadValue, tIBadValue, kCBadValue, eCBadValue, tCBadValue, hCBadValue, upBadValue, mCBadValue, sVBadValue, sSBadValue, opBadValue, PySem.W.mg_none_of X G gSBadValue, ⟨_, _, _, _, _, _, _, _, _, _, _, _, _, _, _, _, _, _, _, _, _, _, _, _, lIBadValue, cIBadValue, ⟨_, _, _, _, _, _, lDBadValue, vDBadValue, fDBadValue⟩, ⟨_, _, _, lccBadValue⟩, eLBadValue⟩⟩
  have PBadValue : ExBadValue.Prg l.prog := ⟨pFBadValue, pSBadValue⟩
  have isBad : IsC K CBadValue := ⟨xfBadValue TBadValue, isH1, isH2, isH3, isH4⟩
  have FI := fun_mk (st := s_Steps___init__) lI cI kI
  have bI := FI.binds (ps := ["self", "letters", "empty", "first", "last", "following"]) fun _ _ _ _ _ _ us hl => match us, hl with | [_, _, _, _, _, _], _ => rfl
  have T : StTxt K CS := ⟨⟨pgS, hdS, poS, saS⟩, n1, n2, n3, n4, n5⟩
  have e := hfa.symm.trans D_law.g
  cases e
  refine ⟨(PySem.W.fnOf "law" "law" (defArgs s_law) (defBody s_law) (defScope s_law) .none kV48 dc48 pm48 an48 cd48 ct48), fun s v => .of_eq rfl, fun base _ _ => ?_⟩
  have MS : Ck l.prog w K mg base 1 "Steps" ["self", "letters", "empty", "first", "last", "following"] (spInit CS) CS := ⟨fI, _, ⟨mkS, aI, iI, kcS⟩, ok_stepsinit FI T, bI, PySem.W.mg_of X G aS⟩
  have C_is_letter := D_is_letter.cl (ok_letter (P := l.prog) (w := w) (base := base) B D_is_letter)
  have C_begins := D__begins_with.cl (ok_begins (P := l.prog) (w := w) (base := base) B D__begins_with)
  have C_isrow := D__is_row.cl (ok_isrow (P := l.prog) (w := w) (base := base) B D__is_row C_begins)
  have C_parts := D__parts_of.cl (ok_parts (P := l.prog) (w := w) (base := base) B D__parts_of C_is_letter C_isrow)
  have C_sizes := D_sizes_within.cl (ok_sizes (P := l.prog) (w := w) (base := base) B D_sizes_within C_parts)
  have C_is_long := D_is_long.cl (ok_islong (P := l.prog) (w := w) (base := base) B D_is_long C_sizes)
  have C_check_long := D_check_long.cl (ok_checklong (P := l.prog) (w := w) (base := base) B D_check_long C_is_long)
  have C_link := D__link.cl (ok_link (P := l.prog) (w := w) (base := base) B D__link)
  have C_leaf := D__ends_of_leaf.cl (ok_leaf (P := l.prog) (w := w) (base := base) B D__ends_of_leaf)
  have C_ends := D__ends_of.cl (all_ends (P := l.prog) (w := w) (base := base) B D__ends_of D__ends_of_join D__ends_of_or C_link C_leaf 42)
  have C_steps := D_steps_of.cl (ok_stepsof (P := l.prog) (w := w) (base := base) B D_steps_of C_ends MS)
  have C__law_stream := D__law_stream.cl (ok_stream (P := l.prog) (w := w) (base := base) B D__law_stream)
  have C__law_next := D__law_next.cl (ok_next (P := l.prog) (w := w) (base := base) B D__law_next)
  have C_istext := D_is_text.cl (ok_istext (P := l.prog) (w := w) (base := base) B D_is_text)
  have C_isword := D_is_word.cl (ok_isword (P := l.prog) (w := w) (base := base) B D_is_word C_istext)
  have C_checkword := D_check_word.cl (ok_checkword (P := l.prog) (w := w) (base := base) B D_check_word C_isword)
  have C_pb := D_places_behind.cl (ok_behind (P := l.prog) (w := w) (base := base) T B D_places_behind)
  have C_co := D_candidates_of.cl (ok_cands (P := l.prog) (w := w) (base := base) T B D_candidates_of C_pb)
  have C_right := D_is_right.cl (ok_right (P := l.prog) (w := w) (base := base) T B D_is_right C_co)
  have C_pick := D__law_pick.cl (ok_pick (P := l.prog) (w := w) (base := base) B D__law_pick C__law_next)
  have C_pickB := D__law_pick.cl (ok_pickB (P := l.prog) (w := w) (base := base) B D__law_pick C__law_next)
  have C_grown := D__law_grown.cl (all_grown (P := l.prog) (w := w) (base := base) B D__law_grown C__law_next C_pick 5)
  have C_expr := D__law_expression.cl (ok_expr (P := l.prog) (w := w) (base := base) B D__law_expression C__law_next C_pick C_grown)
  have C_turned0 := D__turned.cl (all_turned (P := l.prog) (w := w) (base := base) B D__turned 41)
  have C_ren0 := D__renamed.cl (all_renamed (P := l.prog) (w := w) (base := base) B D__renamed 41)
  have C_least := D__least.cl (all_least (P := l.prog) (w := w) (base := base) B D__least 42)
  have C_great := D__greatest.cl (all_greatest (P := l.prog) (w := w) (base := base) B D__greatest 42)
  have C_isord := D__is_order.cl (ok_isorder (P := l.prog) (w := w) (base := base) B D__is_order)
  have C_isordV := D__is_order.cl (ok_isordV (P := l.prog) (w := w) (base := base) B D__is_order)
  have C_has := D__has_word.cl (ok_has (P := l.prog) (w := w) (base := base) B D__has_word)
  have C_open := D_opened_parts.cl (ok_open (P := l.prog) (w := w) (base := base) B D_opened_parts C_has)
  have C_rowof := D_row_of.cl (ok_rowof (P := l.prog) (w := w) (base := base) B D_row_of)
  have C_joinof := D_join_of.cl (ok_joinof (P := l.prog) (w := w) (base := base) B D_join_of C_open C_rowof)
  have C_sor := D__simple_or.cl (ok_simpor (P := l.prog) (w := w) (base := base) B D__simple_or C_least C_rowof)
  have C_smaybe := D__simple_maybe.cl (ok_simpmaybe (P := l.prog) (w := w) (base := base) B D__simple_maybe C_least)
  have C_smany := D__simple_many.cl (ok_simpmany (P := l.prog) (w := w) (base := base) B D__simple_many C_has)
  have C_simp0 := D__simple.cl (all_simp (P := l.prog) (w := w) (base := base) B D__simple C_open C_joinof C_sor C_smaybe C_smany 41)
  have X_check_long := D_check_long.clX (ok_chklongX (P := l.prog) (w := w) (base := base) B D_check_long TBadValue PBadValue C_is_long)
  have X_check_word := D_check_word.clX (ok_chkwordX (P := l.prog) (w := w) (base := base) B D_check_word TBadValue PBadValue C_isword)
  have X_places := D_places.clX (ok_placesX (P := l.prog) (w := w) (base := base) T B D_places X_check_long C_steps)
  have X_sizes := D_sizes.clX (ok_sizesX (P := l.prog) (w := w) (base := base) B D_sizes X_check_long C_sizes)
  have X_turned := D_turned.clX (a1g_of (ok_turnedB (P := l.prog) (w := w) (base := base) B D_turned X_check_long C_turned0) (ok_turned (P := l.prog) (w := w) (base := base) B D_turned C_check_long C_turned0) (fun v e H Q E hE _ hR q => ⟨v, e, rfl, hE, hR, fun u H1 s _ => q u H1 s⟩))
  have X_simple := D_simple.clX (a1g_of (ok_simpleB (P := l.prog) (w := w) (base := base) B D_simple X_check_long C_simp0) (ok_simple (P := l.prog) (w := w) (base := base) B D_simple C_check_long C_simp0) (fun v e H Q E hE hd hR q => ⟨v, e, rfl, hE, hd, hR, fun u H1 s _ => q u H1 s⟩))
  have X_ll := D_least_length.clX (a1g_of (ok_least_lengthB (P := l.prog) (w := w) (base := base) B D_least_length X_check_long C_least) (ok_leastlength (P := l.prog) (w := w) (base := base) B D_least_length C_check_long C_least) (fun v e H Q E hE _ hR q => ⟨v, e, rfl, hE, hR, fun H1 s => q _ H1 s⟩))
  have X_gl := D_greatest_length.clX (a1g_of (ok_greatest_lengthB (P := l.prog) (w := w) (base := base) B D_greatest_length X_check_long C_great) (ok_greatestlength (P := l.prog) (w := w) (base := base) B D_greatest_length C_check_long C_great) (fun v e H Q E hE _ hR q => ⟨v, e, rfl, hE, hR, fun H1 s => q _ H1 s⟩))
  have X_matches := D_matches.clX (a2_of (ok_matchesB (P := l.prog) (w := w) (base := base) B D_matches X_check_long X_check_word C_steps C_right) (ok_matches (P := l.prog) (w := w) (base := base) B D_matches C_check_long C_checkword C_steps C_right) (fun v e z H Q E hE hR hz hl q => ⟨v, e, z, rfl, hE, hR, hz, hl, fun H1 s => q _ H1 s⟩))
  have X_renamed := D_renamed.clX (ao_of (ok_renamedB (P := l.prog) (w := w) (base := base) B D_renamed TBadValue PBadValue X_check_long C_isordV C_ren0) (ok_renamed (P := l.prog) (w := w) (base := base) B D_renamed C_check_long C_isord C_ren0))
  have C_chain := D__law_chain.cl (ok_chain (P := l.prog) (w := w) (base := base) B D__law_chain)
  have C_told := D__law_told.cl (ok_told (P := l.prog) (w := w) (base := base) B D__law_told TBadValue isBad (PySem.W.mg_of X G gDoubt) kDE kVE X_matches X_places X_sizes X_turned X_renamed X_simple X_ll X_gl)
  exact ok_law B D_law C__law_stream C_expr C_pickB C_chain C_told
theorem walk {l : PySem.W.OpenLaw} {q : Program} {loose : List Str} {XP : (Str → Option Value) → Heap → Prop} {YP : World → Heap → Prop} {d : DefRec} {K : Params → PySem.W.Frag} (hn : l.most = some 63) (hdf : d.params.defaults = [])
    (hY : ∀ (w : World) (h : Heap), YP w h → (K w.params).In h)
    (F : ∀ (w : World) (mg : Str → Option Value) (fa : Addr) (h : Heap), (K w.params).In h → h.Ns mainGlobals mg → mg d.name = some (.ref fa) →
      ∃ fd : FuncData, (∀ (s : Shared) (u : Value), BindsTo s fd ⟨[u], []⟩ [("script", u)]) ∧ ∀ base : Heap, (K w.params).In base → base.Ns mainGlobals mg → FnOk l.prog w (K w.params) mg base CX0 91 fa fd ["script"] (spLaw (K w.params))) :
    PySem.W.WalkO q loose XP YP l.row.toRowW d [] (fun f vs => PySem.call f vs) :=
  L2.walk_of (n := 63) (k := 91) (x := "script") (CX := fun _ => CX0) (sp := fun w => spLaw (K w.params)) hn (by decide) hdf ⟨rfl, by decide, by decide⟩ hY F (fun _ _ a ns hl _ hS => ⟨a, ns, rfl, hS, hl, fun _ => rfl⟩) fun _ _ _ _ _ z => z
end My
open PySem PySem.W PyProof.Rows
set_option maxRecDepth 100000 in
set_option maxHeartbeats 0 in
theorem PySem.Challenge.cw_nodoubt_k07_refusals_of_expressions_holds : PySem.Challenge.rw_nodoubt_k07_refusals_of_expressions.Holds := by
  w_on; o_law; k_head; (case hw => w_witness2)
  k_fill
  refine My.walk (l := PySem.Challenge.rw_nodoubt_k07_refusals_of_expressions) rfl rfl (fun w h Y => PySem.W.kIn_of Y) ?F
  case F =>
    intro w mg fa h KX G hmg
    refine' My.all_mk KX G hmg ?a1 ?l1 ?c1 ?k1 ?a2 ?l2 ?c2 ?k2 ?a3 ?l3 ?c3 ?k3 ?a4 ?l4 ?c4 ?k4 ?a5 ?l5 ?c5 ?k5 ?a6 ?l6 ?c6 ?k6 ?a7 ?l7 ?c7 ?k7 ?a8 ?l8 ?c8 ?k8 ?a9 ?l9 ?c9 ?k9 ?a10 ?l10 ?c10 ?k10 ?a11 ?l11 ?c11 ?k11 ?a12 ?l12 ?c12 ?k12 ?a13 ?l13 ?c13 ?k13 ?a14 ?l14 ?c14 ?k14 ?a15 ?l15 ?c15 ?k15 ?a16 ?l16 ?c16 ?k16 ?a17 ?l17 ?c17 ?k17 ?a18 ?l18 ?c18 ?k18 ?a19 ?l19 ?c19 ?k19 ?a20 ?l20 ?c20 ?k20 ?a21 ?l21 ?c21 ?k21 ?a22 ?l22 ?c22 ?k22 ?a23 ?l23 ?c23 ?k23 ?a24 ?l24 ?c24 ?k24 ?a25 ?l25 ?c25 ?k25 ?a26 ?l26 ?c26 ?k26 ?a27 ?l27 ?c27 ?k27 ?a28 ?l28 ?c28 ?k28 ?a29 ?l29 ?c29 ?k29 ?a30 ?l30 ?c30 ?k30 ?a31 ?l31 ?c31 ?k31 ?a32 ?l32 ?c32 ?k32 ?a33 ?l33 ?c33 ?k33 ?a34 ?l34 ?c34 ?k34 ?a35 ?l35 ?c35 ?k35 ?a36 ?l36 ?c36 ?k36 ?a37 ?l37 ?c37 ?k37 ?a38 ?l38 ?c38 ?k38 ?a39 ?l39 ?c39 ?k39 ?a40 ?l40 ?c40 ?k40 ?a41 ?l41 ?c41 ?k41 ?a42 ?l42 ?c42 ?k42 ?a43 ?l43 ?c43 ?k43 ?a44 ?l44 ?c44 ?k44 ?a45 ?l45 ?c45 ?k45 ?a46 ?l46 ?c46 ?k46 ?a47 ?l47 ?c47 ?k47 ?a48 ?l48 ?c48 ?k48 ?z_ValueError ?z_abs ?z_all ?z_any ?z_int ?z_isinstance ?z_len ?z_list ?z_max ?z_min ?z_range ?z_set ?z_sorted ?z_str ?z_sum ?z_super ?z_tuple ?gL ?gM ?gG ?lG ?aS ?aI ?iI ?lI ?cI ?kI ?pgS ?hdS ?poS ?saS ?mkS ?kcS ?n1 ?n2 ?n3 ?n4 ?n5 ?gCBadValue ?xLBadValue ?bmBadValue' ?saBadValue ?gaBadValue ?ggBadValue ?nbBadValue ?iCBadValue ?tIBadValue ?kCBadValue ?eCBadValue ?tCBadValue ?hCBadValue ?upBadValue ?mCBadValue ?sVBadValue ?sSBadValue ?opBadValue ?gSBadValue ?lIBadValue ?cIBadValue ?lDBadValue ?vDBadValue ?fDBadValue ?lccBadValue ?eLBadValue ?pFBadValue ?pSBadValue ?gDoubt ?isH1 ?isH2 ?isH3 ?isH4 ?kDE ?kVE
    (case a1 => k_is); (case l1 => k_is); (case c1 => k_is); (case k1 => k_is); (case a2 => k_is); (case l2 => k_is); (case c2 => k_is); (case k2 => k_is); (case a3 => k_is); (case l3 => k_is); (case c3 => k_is); (case k3 => k_is); (case a4 => k_is); (case l4 => k_is); (case c4 => k_is); (case k4 => k_is); (case a5 => k_is); (case l5 => k_is); (case c5 => k_is); (case k5 => k_is); (case a6 => k_is); (case l6 => k_is); (case c6 => k_is); (case k6 => k_is); (case a7 => k_is); (case l7 => k_is); (case c7 => k_is); (case k7 => k_is); (case a8 => k_is); (case l8 => k_is); (case c8 => k_is); (case k8 => k_is); (case a9 => k_is); (case l9 => k_is); (case c9 => k_is); (case k9 => k_is); (case a10 => k_is); (case l10 => k_is); (case c10 => k_is); (case k10 => k_is); (case a11 => k_is); (case l11 => k_is); (case c11 => k_is); (case k11 => k_is); (case a12 => k_is); (case l12 => k_is); (case c12 => k_is); (case k12 => k_is); (case a13 => k_is); (case l13 => k_is); (case c13 => k_is); (case k13 => k_is); (case a14 => k_is); (case l14 => k_is); (case c14 => k_is); (case k14 => k_is); (case a15 => k_is); (case l15 => k_is); (case c15 => k_is); (case k15 => k_is); (case a16 => k_is); (case l16 => k_is); (case c16 => k_is); (case k16 => k_is); (case a17 => k_is); (case l17 => k_is); (case c17 => k_is); (case k17 => k_is); (case a18 => k_is); (case l18 => k_is); (case c18 => k_is); (case k18 => k_is); (case a19 => k_is); (case l19 => k_is); (case c19 => k_is); (case k19 => k_is); (case a20 => k_is); (case l20 => k_is); (case c20 => k_is); (case k20 => k_is); (case a21 => k_is); (case l21 => k_is); (case c21 => k_is); (case k21 => k_is); (case a22 => k_is); (case l22 => k_is); (case c22 => k_is); (case k22 => k_is); (case a23 => k_is); (case l23 => k_is); (case c23 => k_is); (case k23 => k_is); (case a24 => k_is); (case l24 => k_is); (case c24 => k_is); (case k24 => k_is); (case a25 => k_is); (case l25 => k_is); (case c25 => k_is); (case k25 => k_is); (case a26 => k_is); (case l26 => k_is); (case c26 => k_is); (case k26 => k_is); (case a27 => k_is); (case l27 => k_is); (case c27 => k_is); (case k27 => k_is); (case a28 => k_is); (case l28 => k_is); (case c28 => k_is); (case k28 => k_is); (case a29 => k_is); (case l29 => k_is); (case c29 => k_is); (case k29 => k_is); (case a30 => k_is); (case l30 => k_is); (case c30 => k_is); (case k30 => k_is); (case a31 => k_is); (case l31 => k_is); (case c31 => k_is); (case k31 => k_is); (case a32 => k_is); (case l32 => k_is); (case c32 => k_is); (case k32 => k_is); (case a33 => k_is); (case l33 => k_is); (case c33 => k_is); (case k33 => k_is); (case a34 => k_is); (case l34 => k_is); (case c34 => k_is); (case k34 => k_is); (case a35 => k_is); (case l35 => k_is); (case c35 => k_is); (case k35 => k_is); (case a36 => k_is); (case l36 => k_is); (case c36 => k_is); (case k36 => k_is); (case a37 => k_is); (case l37 => k_is); (case c37 => k_is); (case k37 => k_is); (case a38 => k_is); (case l38 => k_is); (case c38 => k_is); (case k38 => k_is); (case a39 => k_is); (case l39 => k_is); (case c39 => k_is); (case k39 => k_is); (case a40 => k_is); (case l40 => k_is); (case c40 => k_is); (case k40 => k_is); (case a41 => k_is); (case l41 => k_is); (case c41 => k_is); (case k41 => k_is); (case a42 => k_is); (case l42 => k_is); (case c42 => k_is); (case k42 => k_is); (case a43 => k_is); (case l43 => k_is); (case c43 => k_is); (case k43 => k_is); (case a44 => k_is); (case l44 => k_is); (case c44 => k_is); (case k44 => k_is); (case a45 => k_is); (case l45 => k_is); (case c45 => k_is); (case k45 => k_is); (case a46 => k_is); (case l46 => k_is); (case c46 => k_is); (case k46 => k_is); (case a47 => k_is); (case l47 => k_is); (case c47 => k_is); (case k47 => k_is); (case a48 => k_is); (case l48 => k_is); (case c48 => k_is); (case k48 => k_is); (case z_ValueError => k_is); (case z_abs => k_is); (case z_all => k_is); (case z_any => k_is); (case z_int => k_is); (case z_isinstance => k_is); (case z_len => k_is); (case z_list => k_is); (case z_max => k_is); (case z_min => k_is); (case z_range => k_is); (case z_set => k_is); (case z_sorted => k_is); (case z_str => k_is); (case z_sum => k_is); (case z_super => k_is); (case z_tuple => k_is)
    (case gL => first | k_is | rfl | decide +kernel)
    (case gM => first | k_is | rfl | decide +kernel)
    (case gG => first | k_is | rfl | decide +kernel)
    (case lG => first | k_is | rfl | decide +kernel)
    (case aS => first | k_is | rfl | decide +kernel)
    (case aI => first | k_is | rfl | decide +kernel)
    (case iI => first | k_is | rfl | decide +kernel)
    (case lI => first | k_is | rfl | decide +kernel)
    (case cI => first | k_is | rfl | decide +kernel)
    (case kI => first | k_is | rfl | decide +kernel)
    (case pgS => first | k_is | rfl | decide +kernel)
    (case hdS => first | k_is | rfl | decide +kernel)
    (case poS => first | k_is | rfl | decide +kernel)
    (case saS => first | k_is | rfl | decide +kernel)
    (case mkS => first | k_is | rfl | decide +kernel)
    (case kcS => first | k_is | rfl | decide +kernel)
    (case n1 => first | k_is | rfl | decide +kernel)
    (case n2 => first | k_is | rfl | decide +kernel)
    (case n3 => first | k_is | rfl | decide +kernel)
    (case n4 => first | k_is | rfl | decide +kernel)
    (case n5 => first | k_is | rfl | decide +kernel)
    (case gCBadValue => first | k_is | rfl | decide +kernel)
    (case xLBadValue => first | k_is | rfl | decide +kernel)
    (case bmBadValue' => first | k_is | rfl | decide +kernel)
    (case saBadValue => first | k_is | rfl | decide +kernel)
    (case gaBadValue => first | k_is | rfl | decide +kernel)
    (case ggBadValue => first | k_is | rfl | decide +kernel)
    (case nbBadValue => first | k_is | rfl | decide +kernel)
    (case iCBadValue => first | k_is | rfl | decide +kernel)
    (case tIBadValue => first | k_is | rfl | decide +kernel)
    (case kCBadValue => first | k_is | rfl | decide +kernel)
    (case eCBadValue => first | k_is | rfl | decide +kernel)
    (case tCBadValue => first | k_is | rfl | decide +kernel)
    (case hCBadValue => first | k_is | rfl | decide +kernel)
    (case upBadValue => first | k_is | rfl | decide +kernel)
    (case mCBadValue => first | k_is | rfl | decide +kernel)
    (case sVBadValue => first | k_is | rfl | decide +kernel)
    (case sSBadValue => first | k_is | rfl | decide +kernel)
    (case opBadValue => first | k_is | rfl | decide +kernel)
    (case gSBadValue => first | k_is | rfl | decide +kernel)
    (case lIBadValue => first | k_is | rfl | decide +kernel)
    (case cIBadValue => first | k_is | rfl | decide +kernel)
    (case lDBadValue => first | k_is | rfl | decide +kernel)
    (case vDBadValue => first | k_is | rfl | decide +kernel)
    (case fDBadValue => first | k_is | rfl | decide +kernel)
    (case lccBadValue => first | k_is | rfl | decide +kernel)
    (case eLBadValue => first | k_is | rfl | decide +kernel)
    (case pFBadValue => first | k_is | rfl | decide +kernel)
    (case pSBadValue => first | k_is | rfl | decide +kernel)
    (case gDoubt => first | k_is | rfl | decide +kernel)
    (case isH1 => first | k_is | rfl | decide +kernel)
    (case isH2 => first | k_is | rfl | decide +kernel)
    (case isH3 => first | k_is | rfl | decide +kernel)
    (case isH4 => first | k_is | rfl | decide +kernel)
    (case kDE => first | k_is | rfl | decide +kernel)
    (case kVE => first | k_is | rfl | decide +kernel)
