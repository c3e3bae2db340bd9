import PyProof.Rows.All
import Wide.All
import OpenK.AllK
import Wide.FinOn
import HandS.ForMost
import HandS.IsInst
import HandS.TupAny
import HandS.TupMul
import HandS.Codes
import HandS.Style
import HandS.Wide
import PyProof.StrBlock2
import KE.KDictKeyed
import KE.KDictDisplayH
import HandS.Dict
import HandS.WordsDict
import HandS.SetKeys
import HandS.TupLen
import HandS.Iter
import HandS.Text
import HandS.Walk
import HandS.DictComp
import HandS.Defaults
import HandS.SetFor
import HandS.Strs
import PyProof.Rows.SetFrom
import KE.KDictCopyH
import HandS.DictTup
import HandS.List
import HandS.Comp
import HandS.RevRange
import HandS.ExcOwn
import HandS.WordsExc
import HandS.More
import HandS.Deep
import HandS.TryOnly
import HandS.Conv
import HandS.SortInts
import PySem.Challenge.RW_nodoubt_k30_counted_words
set_option Elab.async false
set_option maxRecDepth 100000
set_option linter.all false
namespace My
open PySem PySem.Spec PyProof.Rows L2
/-! ### a def of the text, and what a caller needs of it -/
structure Df (K : PySem.W.Frag) (mg : Str → Option Value) (x : Str) (st : Stmt) (ps : List Str) (f : Addr) (fd : FuncData) : Prop where
  F : Fun K x x st f fd
  b : Binds K fd ps []
  g : mg x = some (.ref f)
structure Cl (P : Program) (w : World) (K : PySem.W.Frag) (mg : Str → Option Value) (base : Heap) (k : Nat) (x : Str) (ps : List Str) (sp : Sp) : Prop where
  ex : ∃ (f : Addr) (fd : FuncData), FnOk P w K mg base CX0 k f fd ps sp ∧ Binds K fd ps [] ∧ mg x = some (.ref f) ∧ PySem.W.keepIn K (.ref f) = true
theorem Df.cl {P : Program} {w : World} {K : PySem.W.Frag} {mg : Str → Option Value} {base : Heap} {x : Str} {st : Stmt} {ps : List Str} {f : Addr} {fd : FuncData} {k : Nat} {sp : Sp} (D : Df K mg x st ps f fd) (h : FnOk P w K mg base CX0 k f fd ps sp) : Cl P w K mg base k x ps sp :=
  ⟨f, fd, h, D.b, D.g, D.F.kp⟩
theorem pe_cl {X : Cx} {k : Nat} {x : Str} {ps : List Str} {sp : Sp} {p pos : Pos} {e : Expr} {es : List Expr} {t : TA} (C : Cl X.prog X.w X.K X.mg X.base k x ps sp) (hr : Room k X.A) (hg : Gl X x) (ha : PA X (e :: es) t)
    (hdb : (x == ("__debug__" : Str)) = false := by decide) (he : starEach (e :: es) X.env = (false, eval e X.env) :: starEach es X.env := by rfl) (hpl : (backTo pos (starEach es X.env)).any (·.1) = false := by rfl) :
    PE X (.Call (.Name x p) (e :: es) [] pos) (tCall sp [] E0 t) := by
  obtain ⟨f, fd, F, b, m, kp⟩ := C.ex
  exact pe_call F hr hg m kp b .nil pass0 ha hdb he hpl
/-! ### lists of values -/
theorem vals_of : ∀ (vs : List V) (us : List Value), vs.length = us.length → (∀ (j : Nat) (v : V) (u : Value), vs[j]? = some v → us[j]? = some u → RelV v u) → Vals vs us
  | [], [], _, _ => .nil
  | [], _ :: _, h, _ => by cases h
  | _ :: _, [], h, _ => by cases h
  | v :: vs, u :: us, h, k => .cons (k 0 v u rfl rfl) (vals_of vs us (Nat.succ.inj h) fun j v' u' h1 h2 => k (j + 1) v' u' h1 h2)
/-! ### list(text) -/
def signsV (z : Str) : List V := z.cps.toList.map fun c => V.str ⟨#[c]⟩
theorem call_list_text {X : Cx} (hc : X.calm = true) : CallR X (.type "list") (fun xs H Q => ∃ z : Str, xs = [.str z] ∧ z.length ≤ sizeLine ∧ ∀ l, H l = none → Q (.ref l) (upd H l (.lst (signsV z)))) := by
  intro pins s σ H xs us Q I r h
  obtain ⟨z, rfl, hz, q⟩ := h
  obtain ⟨u, rfl, t, rfl⟩ := vals1 r
  have hz' : z.cps.size ≤ sizeLine := hz
  refine call_list_str (I.ok.hd hc) z t (hn := hz) fun h' tk acc' c' hk hS hacc => ?_
  have vals : Vals (signsV z) acc'.toList := by
    refine vals_of _ _ (by unfold signsV; simp [hacc.1]) fun j v u h1 h2 => ?_
    obtain ⟨c, t', hc', rfl⟩ := hacc.2 j u (by simpa using h2)
    unfold signsV at h1
    rw [List.getElem?_map] at h1
    rw [show z.cps.toList[j]? = some c by simpa using hc'] at h1
    cases h1
    exact ⟨_, rfl⟩
  exact ⟨.ref s.heap.objs.size, _, I.laid (t' := tk) hk (Nat.le_refl _) (show ObjOk X.prog X.w _ h' _ (.lst (signsV z)) from ⟨by unfold signsV; simpa using hz', acc'.toList, c', vals, by simpa using hS⟩), rfl, q _ (I.hok.fresh (Nat.le_refl _))⟩

/-- text * number -/
theorem op_mul_str {X : Cx} : OpR X (binaryOp .Mult) (fun x y H Q => ∃ z n, x = .str z ∧ y = .int n ∧ MulOk z n ∧ Q (.str (Txt.mul z n)) H) := by
  intro pins s σ H x y v u Q I rx ry h
  obtain ⟨z, n, rfl, rfl, hok, q⟩ := h
  obtain ⟨t, rfl⟩ := rx
  obtain ⟨t', rfl⟩ := ry
  exact SB.mul hok fun t' k => ⟨.str _, H, I.tok k, ⟨_, rfl⟩, q⟩
/-! ### heaps -/
theorem same_upd {H : Hp} {p : Addr} {o : HO} (h : H p = none) : Same H (upd H p o) := fun b u q => by rw [upd_ne (ne_of_none q h)]; exact q
/-- all but what stands at a is as it was -/
def Keep (a : Addr) (H H' : Hp) : Prop := ∀ b o, H b = some o → b ≠ a → H' b = some o
theorem Keep.refl (a : Addr) (H : Hp) : Keep a H H := fun _ _ h _ => h
theorem Keep.trans {a : Addr} {H H1 H2 : Hp} (x : Keep a H H1) (y : Keep a H1 H2) : Keep a H H2 := fun b o h n => y b o (x b o h n) n
theorem Keep.same {a : Addr} {H H' : Hp} (x : Same H H') : Keep a H H' := fun b o h _ => x b o h
theorem Keep.new {a p : Addr} {H : Hp} {o : HO} (h : H p = none) : Keep a H (upd H p o) := Keep.same (same_upd h)
theorem Keep.store {a : Addr} {H : Hp} {o : HO} : Keep a H (upd H a o) := fun b u q n => by rw [upd_ne n]; exact q
/-- tuples stay, lists stay lists -/
structure Pers (H H' : Hp) : Prop where
  tup : ∀ b xs, H b = some (.tup xs) → H' b = some (.tup xs)
  lst : ∀ b xs, H b = some (.lst xs) → ∃ ys, H' b = some (.lst ys)
theorem Pers.refl (H : Hp) : Pers H H := ⟨fun _ _ h => h, fun _ xs h => ⟨xs, h⟩⟩
theorem Pers.trans {H H1 H2 : Hp} (x : Pers H H1) (y : Pers H1 H2) : Pers H H2 := ⟨fun b xs h => y.tup b xs (x.tup b xs h), fun b xs h => by
  obtain ⟨ys, h1⟩ := x.lst b xs h
  exact y.lst b ys h1⟩
theorem Pers.same {H H' : Hp} (x : Same H H') : Pers H H' := ⟨fun b xs h => x b _ h, fun b xs h => ⟨xs, x b _ h⟩⟩
theorem Pers.new {p : Addr} {H : Hp} {o : HO} (h : H p = none) : Pers H (upd H p o) := Pers.same (same_upd h)
theorem Pers.store {a : Addr} {H : Hp} {xs ys : List V} (h : H a = some (.lst xs)) : Pers H (upd H a (.lst ys)) := ⟨fun b zs q => by
  have n : b ≠ a := fun e => by
    rw [e, h] at q
    cases q
  rw [upd_ne n]
  exact q, fun b zs q => by
  by_cases n : b = a
  · subst n
    exact ⟨ys, upd_same⟩
  · rw [upd_ne n]
    exact ⟨zs, q⟩⟩
/-! ### the stream of draws -/
def StrmW (H : Hp) (a l : Addr) (c k : Int) (ns : List Int) : Prop := H a = some (.lst [.ref l, .int c, .int k]) ∧ H l = some (.lst (ns.map V.int)) ∧ l ≠ a ∧ 0 ≤ k
def Strm (H : Hp) (a : Addr) : Prop := ∃ l c k ns, StrmW H a l c k ns
/-- what a call that draws leaves: all but the stream as it was -/
structure Go (a : Addr) (H H' : Hp) : Prop where
  keep : Keep a H H'
  st0 : Strm H a
  mv : ∀ l c k ns, StrmW H a l c k ns → ∃ c' k' ns', StrmW H' a l c' k' ns'
theorem Go.st {a : Addr} {H H' : Hp} (g : Go a H H') : Strm H' a := by
  obtain ⟨l, c, k, ns, h⟩ := g.st0
  obtain ⟨c', k', ns', h'⟩ := g.mv l c k ns h
  exact ⟨l, c', k', ns', h'⟩
theorem Go.refl {a : Addr} {H : Hp} (h : Strm H a) : Go a H H := ⟨Keep.refl a H, h, fun l c k ns h => ⟨c, k, ns, h⟩⟩
theorem Go.trans {a : Addr} {H H1 H2 : Hp} (x : Go a H H1) (y : Go a H1 H2) : Go a H H2 := ⟨x.keep.trans y.keep, x.st0, fun l c k ns h => by
  obtain ⟨c', k', ns', h'⟩ := x.mv l c k ns h
  exact y.mv l c' k' ns' h'⟩
theorem StrmW.same {a l : Addr} {c k : Int} {ns : List Int} {H H' : Hp} (h : StrmW H a l c k ns) (s : Same H H') : StrmW H' a l c k ns := ⟨s _ _ h.1, s _ _ h.2.1, h.2.2.1, h.2.2.2⟩
theorem Strm.same {a : Addr} {H H' : Hp} (h : Strm H a) (s : Same H H') : Strm H' a := by
  obtain ⟨l, c, k, ns, h⟩ := h
  exact ⟨l, c, k, ns, h.same s⟩
theorem Go.same {a : Addr} {H H' : Hp} (h : Strm H a) (s : Same H H') : Go a H H' := ⟨Keep.same s, h, fun l c k ns w => ⟨c, k, ns, w.same s⟩⟩
theorem Go.new {a p : Addr} {H : Hp} {o : HO} (h : Strm H a) (n : H p = none) : Go a H (upd H p o) := Go.same h (same_upd n)
/-- a store to what is new since H -/
theorem Go.loc {a p : Addr} {H H' : Hp} {o : HO} (g : Go a H H') (n : H p = none) : Go a H (upd H' p o) := ⟨fun b u hb hn => by
  rw [upd_ne (ne_of_none hb n)]
  exact g.keep b u hb hn, g.st0, fun l c k ns h => by
  obtain ⟨c', k', ns', h1, h2, h3, h4⟩ := g.mv l c k ns h
  exact ⟨c', k', ns', by rw [upd_ne (ne_of_none h.1 n)]; exact h1, by rw [upd_ne (ne_of_none h.2.1 n)]; exact h2, h3, h4⟩⟩
theorem Strm.isl {a : Addr} {H : Hp} (h : Strm H a) : ∃ xs, H a = some (.lst xs) := by
  obtain ⟨l, c, k, ns, h1, h2⟩ := h
  exact ⟨_, h1⟩
theorem Go.pers {a : Addr} {H H' : Hp} (g : Go a H H') : Pers H H' := by
  obtain ⟨xs, h1⟩ := g.st0.isl
  obtain ⟨ys, h2⟩ := g.st.isl
  refine ⟨fun b zs q => g.keep b _ q fun e => ?_, fun b zs q => ?_⟩
  · rw [e, h1] at q
    cases q
  · by_cases n : b = a
    · subst n
      exact ⟨ys, h2⟩
    · exact ⟨zs, g.keep b _ q n⟩
theorem Strm.ne {a p : Addr} {H : Hp} (h : Strm H a) (n : H p = none) : a ≠ p := by
  obtain ⟨xs, h1⟩ := h.isl
  exact ne_of_none h1 n
theorem Strm.neT {a p : Addr} {H : Hp} {xs : List V} (h : Strm H a) (n : H p = some (.tup xs)) : p ≠ a := fun e => by
  obtain ⟨ys, h1⟩ := h.isl
  rw [e, h1] at n
  cases n
/-! ### two lists, item by item -/
inductive Two {α β : Type} (R : α → β → Prop) : List α → List β → Prop where
  | nil : Two R [] []
  | cons {a : α} {b : β} {as : List α} {bs : List β} (h : R a b) (t : Two R as bs) : Two R (a :: as) (b :: bs)
theorem Two.len {α β : Type} {R : α → β → Prop} {as : List α} {bs : List β} (h : Two R as bs) : as.length = bs.length := by
  induction h with
  | nil => rfl
  | cons _ _ ih => rw [List.length_cons, List.length_cons, ih]
theorem Two.mono {α β : Type} {R S : α → β → Prop} (k : ∀ a b, R a b → S a b) {as : List α} {bs : List β} (h : Two R as bs) : Two S as bs := by
  induction h with
  | nil => exact .nil
  | cons h _ ih => exact .cons (k _ _ h) ih
theorem Two.monoM {α β : Type} {R S : α → β → Prop} {as : List α} {bs : List β} (h : Two R as bs) (k : ∀ a b, a ∈ as → b ∈ bs → R a b → S a b) : Two S as bs := by
  induction h with
  | nil => exact .nil
  | cons h _ ih => exact .cons (k _ _ (List.mem_cons_self ..) (List.mem_cons_self ..) h) (ih fun a b ha hb => k a b (List.mem_cons_of_mem _ ha) (List.mem_cons_of_mem _ hb))
theorem Two.app {α β : Type} {R : α → β → Prop} {as as' : List α} {bs bs' : List β} (h : Two R as bs) (h' : Two R as' bs') : Two R (as ++ as') (bs ++ bs') := by
  induction h with
  | nil => exact h'
  | cons h _ ih => exact .cons h ih
theorem Two.get {α β : Type} {R : α → β → Prop} {as : List α} {bs : List β} (h : Two R as bs) : ∀ {i : Nat} {a : α}, as[i]? = some a → ∃ b, bs[i]? = some b ∧ R a b := by
  induction h with
  | nil => intro i a h; simp at h
  | cons h _ ih =>
    intro i a e
    cases i with
    | zero => cases e; exact ⟨_, rfl, h⟩
    | succ i => exact ih e
theorem Two.get2 {α β : Type} {R : α → β → Prop} {as : List α} {bs : List β} (h : Two R as bs) {i : Nat} {a : α} {b : β} (ha : as[i]? = some a) (hb : bs[i]? = some b) : R a b := by
  obtain ⟨b', h1, h2⟩ := h.get ha
  rw [h1] at hb
  cases hb
  exact h2
theorem Two.of_get {α β : Type} {R : α → β → Prop} : ∀ {as : List α} {bs : List β}, as.length = bs.length → (∀ (i : Nat) (a : α) (b : β), as[i]? = some a → bs[i]? = some b → R a b) → Two R as bs
  | [], [], _, _ => .nil
  | [], _ :: _, h, _ => by cases h
  | _ :: _, [], h, _ => by cases h
  | a :: as, b :: bs, h, k => .cons (k 0 a b rfl rfl) (Two.of_get (Nat.succ.inj h) fun i a' b' h1 h2 => k (i + 1) a' b' h1 h2)
theorem Two.unsnoc {α β : Type} {R : α → β → Prop} {as : List α} {bs : List β} {b : β} (h : Two R as (bs ++ [b])) : ∃ as' a, as = as' ++ [a] ∧ Two R as' bs ∧ R a b := by
  induction bs generalizing as with
  | nil =>
    cases h with
    | cons h t =>
      cases t
      exact ⟨[], _, rfl, .nil, h⟩
  | cons c bs ih =>
    cases h with
    | cons h t =>
      obtain ⟨as', a, rfl, h1, h2⟩ := ih t
      exact ⟨_ :: as', a, rfl, .cons h h1, h2⟩
theorem Two.map_right {α β γ : Type} {R : α → γ → Prop} {f : β → γ} {as : List α} {bs : List β} (h : Two (fun a b => R a (f b)) as bs) : Two R as (bs.map f) := by
  induction h with
  | nil => exact .nil
  | cons h _ ih => exact .cons h ih
/-! ### data: what stands at a value -/
inductive D where
  | str (z : Str)
  | tup (ds : List D)
  | lst
  | flat
inductive Rep (H : Hp) : V → D → Prop where
  | str {z : Str} (h : z.length ≤ 1000) : Rep H (.str z) (.str z)
  | tup {p : Addr} {xs : List V} {ds : List D} (h : H p = some (.tup xs)) (z : xs.length ≤ 100000) (l : xs.length = ds.length) (k : ∀ (i : Nat) (x : V) (d : D), xs[i]? = some x → ds[i]? = some d → Rep H x d) : Rep H (.ref p) (.tup ds)
  | lst {p : Addr} {xs : List V} (h : H p = some (.lst xs)) : Rep H (.ref p) .lst
  | non : Rep H .non .flat
  | bl (b : Bool) : Rep H (.bl b) .flat
  | int (i : Int) : Rep H (.int i) .flat
theorem Rep.tup2 {H : Hp} {p : Addr} {xs : List V} {ds : List D} (h : H p = some (.tup xs)) (z : xs.length ≤ 100000) (k : Two (Rep H) xs ds) : Rep H (.ref p) (.tup ds) := .tup h z k.len fun _ _ _ h1 h2 => k.get2 h1 h2
theorem Rep.pers {H H' : Hp} (k : Pers H H') {v : V} {d : D} (h : Rep H v d) : Rep H' v d := by
  induction h with
  | str h => exact .str h
  | tup h z l _ ih => exact .tup (k.tup _ _ h) z l ih
  | lst h =>
    obtain ⟨ys, h1⟩ := k.lst _ _ h
    exact .lst h1
  | non => exact .non
  | bl b => exact .bl b
  | int i => exact .int i
theorem Rep.pers2 {H H' : Hp} (k : Pers H H') {vs : List V} {ds : List D} (h : Two (Rep H) vs ds) : Two (Rep H') vs ds := h.mono fun _ _ => Rep.pers k
theorem Rep.untup {H : Hp} {v : V} {ds : List D} (h : Rep H v (.tup ds)) : ∃ p xs, v = .ref p ∧ H p = some (.tup xs) ∧ xs.length ≤ 100000 ∧ Two (Rep H) xs ds := by
  cases h with
  | tup h z l k => exact ⟨_, _, rfl, h, z, Two.of_get l k⟩
def isStr : D → Bool | .str _ => true | _ => false
def isTup : D → Bool | .tup _ => true | _ => false
/-- its type, for isinstance -/
theorem Rep.ty {K : PySem.W.Frag} {H : Hp} {v : V} {d : D} (h : Rep H v d) : ∃ t : String, TyX K H v (.type t) ∧ PySem.W.kitOne K (.type t) (.type "str") = some (isStr d) ∧ PySem.W.kitOne K (.type t) (.type "tuple") = some (isTup d) := by
  cases h with
  | str h => exact ⟨"str", .base (.str _), kit_ty (r := true) (by decide +kernel), kit_ty (r := false) (by decide +kernel)⟩
  | tup h _ _ _ => exact ⟨"tuple", .base (.tup h), kit_ty (r := false) (by decide +kernel), kit_ty (r := true) (by decide +kernel)⟩
  | lst h => exact ⟨"list", .base (.lst h), kit_ty (r := false) (by decide +kernel), kit_ty (r := false) (by decide +kernel)⟩
  | non => exact ⟨"NoneType", .base .non, kit_ty (r := false) (by decide +kernel), kit_ty (r := false) (by decide +kernel)⟩
  | bl b => exact ⟨"bool", .base (.bl _), kit_ty (r := false) (by decide +kernel), kit_ty (r := false) (by decide +kernel)⟩
  | int i => exact ⟨"int", .base (.int _), kit_ty (r := false) (by decide +kernel), kit_ty (r := false) (by decide +kernel)⟩
/-! ### short words for readings -/
theorem vstr {a b : Str} (h : decide (V.str a = V.str b) = true) : a = b := by
  have e := of_decide_eq_true h
  cases e
  rfl
theorem vstrN {a b : Str} (h : ¬ decide (V.str a = V.str b) = true) : ¬ a = b := fun e => h (decide_eq_true (congrArg V.str e))
theorem tyes {σ : L2.St} {H : Hp} {A B : Hp → Prop} (h : A H) : tYes σ H (fun b H3 => if b = true then A H3 else B H3) := by
  show (if true = true then A H else B H)
  rw [if_pos rfl]
  exact h
theorem at_zero {x : V} {xs : List V} : atI (x :: xs) 0 = some x := at_of (j := 0) rfl rfl
theorem at_one {x y : V} {xs : List V} : atI (x :: y :: xs) 1 = some y := at_of (j := 1) rfl rfl
theorem or2 {a b : Prop} {A B : Prop} [Decidable a] [Decidable b] (h1 : a ∨ b → A) (h2 : ¬ (a ∨ b) → B) : if a then A else if b then A else B := by
  by_cases c : a
  · rw [if_pos c]
    exact h1 (.inl c)
  · rw [if_neg c]
    by_cases d : b
    · rw [if_pos d]
      exact h1 (.inr d)
    · rw [if_neg d]
      exact h2 fun z => z.elim c d
theorem lc_str {z : Str} {g : TG} {tt : TT} {te : TE} {vs : List Nat} {σ : L2.St} {H1 : Hp} {D : Addr} {Qd : Hp → Prop} (Pv : Nat → Hp → Prop) (h0 : Pv 0 (upd H1 D (.lst [])))
    (hs : ∀ i c H, z.cps[i]? = some c → Pv i H → g (.str ⟨#[c]⟩) (wipe σ vs) H fun σ2 H2 => wipe σ2 vs = wipe σ vs ∧ tt σ2 H2 fun b H3 =>
      if b = true then te σ2 H3 fun y H4 => ∃ acc, H4 D = some (.lst acc) ∧ acc.length < sizeLine ∧ Pv (i + 1) (upd H4 D (.lst (acc ++ [y]))) else Pv (i + 1) H3) (hd : ∀ H, Pv z.cps.size H → Qd H) :
    ∃ W : Nat → Nat → Hp → Prop, (∃ m, W 0 m (upd H1 D (.lst []))) ∧ ∀ i m H, W i m H →
      ((Its z).stop i H ∧ Qd H) ∨ ((Its z).go i H ∧ ∃ Nx : Hp → Prop, (∀ H', Nx H' → ∃ m', m' < m ∧ W (i + 1) m' H') ∧ ∀ x H', (Its z).yld i H x H' → g x (wipe σ vs) H' fun σ2 H2 => wipe σ2 vs = wipe σ vs ∧ tt σ2 H2 fun b H3 =>
        if b = true then te σ2 H3 fun y H4 => ∃ acc, H4 D = some (.lst acc) ∧ acc.length < sizeLine ∧ Nx (upd H4 D (.lst (acc ++ [y]))) else Nx H3) := by
  refine ⟨fun i m H => m = z.cps.size - i ∧ i ≤ z.cps.size ∧ Pv i H, ⟨z.cps.size, by simp, Nat.zero_le _, h0⟩, ?_⟩
  rintro i m H ⟨rfl, hi, p⟩
  by_cases hlt : i < z.cps.size
  · refine .inr ⟨hlt, Pv (i + 1), fun H' p' => ⟨z.cps.size - (i + 1), by omega, rfl, hlt, p'⟩, fun x H' y => ?_⟩
    obtain ⟨rfl, c, hc, rfl⟩ := y
    exact hs i c _ hc p
  · have e : i = z.cps.size := by omega
    subst e
    exact .inl ⟨Nat.le_refl _, hd H p⟩
/-! ### plain data, for the law's own comparison -/
inductive J where
  | non
  | bl (b : Bool)
  | int (i : Int)
  | str (z : Str)
  | tup (js : List J)
  | lst (js : List J)
inductive RepJ (H : Hp) : V → J → Nat → Prop where
  | non {n : Nat} : RepJ H .non .non n
  | bl {n : Nat} (b : Bool) : RepJ H (.bl b) (.bl b) n
  | int {n : Nat} (i : Int) : RepJ H (.int i) (.int i) n
  | str {n : Nat} (z : Str) : RepJ H (.str z) (.str z) n
  | tup {n : Nat} {p : Addr} {xs : List V} {js : List J} (h : H p = some (.tup xs)) (z : xs.length ≤ 100000) (l : xs.length = js.length) (k : ∀ (i : Nat) (x : V) (j : J), xs[i]? = some x → js[i]? = some j → RepJ H x j n) : RepJ H (.ref p) (.tup js) (n + 1)
  | lst {n : Nat} {p : Addr} {xs : List V} {js : List J} (h : H p = some (.lst xs)) (z : xs.length ≤ 100000) (l : xs.length = js.length) (k : ∀ (i : Nat) (x : V) (j : J), xs[i]? = some x → js[i]? = some j → RepJ H x j n) : RepJ H (.ref p) (.lst js) (n + 1)
theorem RepJ.same {H H' : Hp} (s : Same H H') {v : V} {j : J} {n : Nat} (h : RepJ H v j n) : RepJ H' v j n := by
  induction h with
  | non => exact .non
  | bl b => exact .bl b
  | int i => exact .int i
  | str z => exact .str z
  | tup h z l _ ih => exact .tup (s _ _ h) z l ih
  | lst h z l _ ih => exact .lst (s _ _ h) z l ih
/-! ### the promises of the draws -/
def spStream (K : PySem.W.Frag) : Sp := fun vs H Q _ => ∃ (s : Addr) (ns : List Int), vs = [.ref s] ∧ SqL K H s (ns.map V.int) ∧ ns.length ≤ 63 ∧ ∀ a H', Same H H' → H a = none → Strm H' a → Q (.ref a) H'
def spNext : Sp := fun vs H Q _ => ∃ (a : Addr) (m : Int), vs = [.ref a, .int m] ∧ Strm H a ∧ 0 < m ∧ m < 2000000 ∧ ∀ d H', 0 ≤ d → d < m → Go a H H' → Q (.int d) H'
def spPick (K : PySem.W.Frag) : Sp := fun vs H Q _ => ∃ (a r : Addr) (xs : List V), vs = [.ref a, .ref r] ∧ Strm H a ∧ SqL K H r xs ∧ r ≠ a ∧ 0 < xs.length ∧ xs.length < 1000 ∧ ∀ v H', v ∈ xs → Go a H H' → Q v H'
theorem Go.seq {K : PySem.W.Frag} {a r : Addr} {H H' : Hp} {xs : List V} (g : Go a H H') (n : r ≠ a) (h : SqL K H r xs) : SqL K H' r xs := by
  rcases h with (h | ⟨o, h⟩) | h
  · exact .inl (.inl (g.keep _ _ h n))
  · exact .inl (.inr ⟨o, g.keep _ _ h n⟩)
  · exact .inr h
end My
namespace My
open PySem PySem.Spec PyProof.Rows L2
def natsV (xs : List Nat) : List V := xs.map fun (i : Nat) => V.int (i : Int)
end My
namespace My
open PySem PySem.Spec PyProof.Rows L2
/-! ### letters and words -/
def isLet (z : Str) : Bool := match z.cps.toList with | [c] => decide (97 ≤ c) && decide (c ≤ 100) | _ => false
abbrev sJoin : Str := "join"
abbrev sOr : Str := "or"
abbrev sMaybe : Str := "maybe"
abbrev sMany : Str := "many"
abbrev sNo : Str := ""
theorem jo : ¬ sJoin = sOr := by decide +kernel
theorem jm : ¬ sJoin = sMaybe := by decide +kernel
theorem jn : ¬ sJoin = sMany := by decide +kernel
theorem je : ¬ sJoin = sNo := by decide +kernel
theorem om : ¬ sOr = sMaybe := by decide +kernel
theorem on : ¬ sOr = sMany := by decide +kernel
theorem oe : ¬ sOr = sNo := by decide +kernel
theorem mn : ¬ sMaybe = sMany := by decide +kernel
theorem lJ : sJoin.length = 4 := by decide +kernel
theorem lO : sOr.length = 2 := by decide +kernel
theorem lM : sMaybe.length = 5 := by decide +kernel
theorem lN : sMany.length = 4 := by decide +kernel
theorem lE : sNo.length = 0 := by decide +kernel
/-! ### the parts directly in a datum -/
def begins (w : Str) : D → Bool
  | .tup (.str x :: _) => decide (x = w)
  | _ => false
def rowOk (w : Str) : D → Bool
  | .tup ys => decide (2 ≤ ys.length) && !(ys.any (begins w))
  | _ => false
def rowItems : D → Option (List D)
  | .tup ys => some ys
  | _ => none
def innerPair (w : Str) (y : D) : Option (List D) := if w = sMaybe ∨ w = sMany then some [y] else if (w = sJoin ∨ w = sOr) ∧ rowOk w y = true then rowItems y else none
def inner : D → Option (List D)
  | .str z => if z = sNo ∨ isLet z = true then some [] else none
  | .tup [.str w, y] => innerPair w y
  | _ => none
theorem inner_pair (w : Str) (y : D) : inner (.tup [.str w, y]) = innerPair w y := rfl
/-- a part of a row does not begin with an object -/
def notObj : D → Bool
  | .tup _ => false
  | .lst => false
  | _ => true
def headFlat : D → Bool
  | .tup (x :: _) => notObj x
  | _ => true
def rowFlat : D → Bool
  | .tup ys => ys.all headFlat
  | _ => true
/-- what the looks at a datum ask: items of a row of parts begin flat -/
inductive Fl : D → Prop where
  | str (z : Str) : Fl (.str z)
  | tup {ds : List D} (h : ∀ w y, ds = [.str w, y] → w = sJoin ∨ w = sOr → rowFlat y = true) (k : ∀ d ∈ ds, Fl d) : Fl (.tup ds)
  | lst : Fl .lst
  | flat : Fl .flat
/-! ### sizes, for the loop's measure -/
def D.size : D → Nat
  | .str _ => 1
  | .tup ds => 1 + sizes ds
  | .lst => 1
  | .flat => 1
where sizes : List D → Nat
  | [] => 0
  | d :: ds => d.size + sizes ds
def places1 : D → Nat
  | .str z => z.length
  | _ => 0
abbrev Bnd := Nat × Nat × Nat
def within (b a : Bnd) : Bool := decide (a.1 ≤ b.1) && decide (a.2.1 ≤ b.2.1) && decide (a.2.2 ≤ b.2.2)
/-- the loop: n turns at most; the stack's last is looked at first -/
def look (b : Bnd) : Nat → List (D × Nat) → Bnd → Option Bnd
  | 0, _, _ => none
  | _ + 1, [], a => some a
  | n + 1, (d, k) :: st, a => match inner d with
    | none => none
    | some ys =>
      if within b (a.1 + places1 d, max a.2.1 k, a.2.2 + ys.length) = true then look b n ((ys.map fun y => (y, k + 1)).reverse ++ st) (a.1 + places1 d, max a.2.1 k, a.2.2 + ys.length) else none
def msr (st : List (D × Nat)) : Nat := (st.map fun p => p.1.size).sum
theorem sizes_eq (ds : List D) : D.size.sizes ds = (ds.map D.size).sum := by
  induction ds with
  | nil => rfl
  | cons d ds ih => rw [D.size.sizes, ih, List.map_cons, List.sum_cons]
theorem size_pos (d : D) : 0 < d.size := by
  cases d <;> (unfold D.size; omega)
theorem inner_size {d : D} {ys : List D} (h : inner d = some ys) : (ys.map D.size).sum < d.size := by
  unfold inner at h
  split at h
  · split at h
    · cases h
      exact size_pos _
    · cases h
  · rename_i w y
    unfold innerPair at h
    split at h
    · cases h
      simp only [D.size, D.size.sizes, List.map_cons, List.map_nil, List.sum_cons, List.sum_nil]
      omega
    · split at h
      · cases y with
        | tup zs =>
          cases h
          simp only [D.size, D.size.sizes, sizes_eq]
          omega
        | str z => cases h
        | lst => cases h
        | flat => cases h
      · cases h
  · cases h
theorem msr_step {d : D} {k : Nat} {st : List (D × Nat)} {ys : List D} (h : inner d = some ys) : msr ((ys.map fun y => (y, k + 1)).reverse ++ st) < msr ((d, k) :: st) := by
  unfold msr
  rw [List.map_append, List.sum_append, List.map_reverse, List.sum_reverse, List.map_map, List.map_cons, List.sum_cons]
  have e : ((fun p : D × Nat => p.1.size) ∘ fun y => (y, k + 1)) = D.size := rfl
  rw [e]
  have := inner_size h
  show _ < d.size + _
  omega

/-! ### expressions -/
inductive E where
  | eps
  | sym (c : Nat)
  | maybe (e : E)
  | many (e : E)
  | join (es : List E)
  | alt (es : List E)
def E.toD : E → D
  | .eps => .str sNo
  | .sym c => .str ⟨#[c]⟩
  | .maybe e => .tup [.str sMaybe, e.toD]
  | .many e => .tup [.str sMany, e.toD]
  | .join es => .tup [.str sJoin, .tup (toDs es)]
  | .alt es => .tup [.str sOr, .tup (toDs es)]
where toDs : List E → List D
  | [] => []
  | e :: es => e.toD :: toDs es
theorem toDs_eq (es : List E) : E.toD.toDs es = es.map E.toD := by
  induction es with
  | nil => rfl
  | cons e es ih => rw [E.toD.toDs, ih, List.map_cons]
def isJoin : E → Bool | .join _ => true | _ => false
def isAlt : E → Bool | .alt _ => true | _ => false
def E.ok : E → Bool
  | .eps => true
  | .sym c => decide (97 ≤ c) && decide (c ≤ 100)
  | .maybe e => e.ok
  | .many e => e.ok
  | .join es => decide (2 ≤ es.length) && oks es && !(es.any isJoin)
  | .alt es => decide (2 ≤ es.length) && oks es && !(es.any isAlt)
where oks : List E → Bool
  | [] => true
  | e :: es => e.ok && oks es
theorem oks_eq (es : List E) : E.ok.oks es = es.all E.ok := by
  induction es with
  | nil => rfl
  | cons e es ih => rw [E.ok.oks, ih, List.all_cons]
def E.places : E → Nat
  | .eps => 0
  | .sym _ => 1
  | .maybe e => e.places
  | .many e => e.places
  | .join es => placess es
  | .alt es => placess es
where placess : List E → Nat
  | [] => 0
  | e :: es => e.places + placess es
def E.depth : E → Nat
  | .eps => 0
  | .sym _ => 0
  | .maybe e => e.depth + 1
  | .many e => e.depth + 1
  | .join es => depths es + 1
  | .alt es => depths es + 1
where depths : List E → Nat
  | [] => 0
  | e :: es => max e.depth (depths es)
def E.parts : E → Nat
  | .eps => 1
  | .sym _ => 1
  | .maybe e => e.parts + 1
  | .many e => e.parts + 1
  | .join es => partss es + 1
  | .alt es => partss es + 1
where partss : List E → Nat
  | [] => 0
  | e :: es => e.parts + partss es
theorem placess_eq (es : List E) : E.places.placess es = (es.map E.places).sum := by
  induction es with
  | nil => rfl
  | cons e es ih => rw [E.places.placess, ih, List.map_cons, List.sum_cons]
theorem partss_eq (es : List E) : E.parts.partss es = (es.map E.parts).sum := by
  induction es with
  | nil => rfl
  | cons e es ih => rw [E.parts.partss, ih, List.map_cons, List.sum_cons]
theorem depths_le {es : List E} {n : Nat} (h : ∀ e ∈ es, e.depth ≤ n) : E.depth.depths es ≤ n := by
  induction es with
  | nil => exact Nat.zero_le _
  | cons e es ih =>
    rw [E.depth.depths]
    exact Nat.max_le.mpr ⟨h e (List.mem_cons_self ..), ih fun x hx => h x (List.mem_cons_of_mem _ hx)⟩
/-- the expressions directly in one -/
def E.kids : E → List E
  | .eps => []
  | .sym _ => []
  | .maybe e => [e]
  | .many e => [e]
  | .join es => es
  | .alt es => es
def E.own : E → Nat
  | .sym _ => 1
  | _ => 0
theorem parts_kids (e : E) : e.parts = (e.kids.map E.parts).sum + 1 := by
  cases e <;> simp [E.parts, E.kids, partss_eq]
theorem places_kids (e : E) : e.places = e.own + (e.kids.map E.places).sum := by
  cases e <;> simp [E.places, E.kids, E.own, placess_eq]
theorem ok_kids {e : E} (h : e.ok = true) : ∀ k ∈ e.kids, k.ok = true := by
  intro k hk
  cases e with
  | eps => cases hk
  | sym c => cases hk
  | maybe e => rw [E.kids, List.mem_singleton] at hk; subst hk; rw [E.ok] at h; exact h
  | many e => rw [E.kids, List.mem_singleton] at hk; subst hk; rw [E.ok] at h; exact h
  | join es =>
    rw [E.ok, oks_eq] at h
    simp only [Bool.and_eq_true, List.all_eq_true] at h
    exact h.1.2 k hk
  | alt es =>
    rw [E.ok, oks_eq] at h
    simp only [Bool.and_eq_true, List.all_eq_true] at h
    exact h.1.2 k hk
theorem begins_tup (w x : Str) (ys : List D) : begins w (.tup (.str x :: ys)) = decide (x = w) := rfl
theorem begins_join (e : E) : begins sJoin e.toD = isJoin e := by
  cases e with
  | eps => rfl
  | sym c => rfl
  | maybe e => rw [E.toD, begins_tup]; exact decide_eq_false (fun h => jm h.symm)
  | many e => rw [E.toD, begins_tup]; exact decide_eq_false (fun h => jn h.symm)
  | join es => rw [E.toD, begins_tup]; exact decide_eq_true rfl
  | alt es => rw [E.toD, begins_tup]; exact decide_eq_false (fun h => jo h.symm)
theorem begins_or (e : E) : begins sOr e.toD = isAlt e := by
  cases e with
  | eps => rfl
  | sym c => rfl
  | maybe e => rw [E.toD, begins_tup]; exact decide_eq_false (fun h => om h.symm)
  | many e => rw [E.toD, begins_tup]; exact decide_eq_false (fun h => on h.symm)
  | join es => rw [E.toD, begins_tup]; exact decide_eq_false (fun h => jo h)
  | alt es => rw [E.toD, begins_tup]; exact decide_eq_true rfl
theorem rowOk_tup (w : Str) (ys : List D) : rowOk w (.tup ys) = (decide (2 ≤ ys.length) && !(ys.any (begins w))) := rfl
theorem inner_toD {e : E} (h : e.ok = true) : inner e.toD = some (e.kids.map E.toD) := by
  cases e with
  | eps => rw [E.toD, inner, if_pos (.inl rfl)]; rfl
  | sym c =>
    have q : isLet ⟨#[c]⟩ = true := by
      rw [E.ok] at h
      exact h
    rw [E.toD, inner, if_pos (.inr q)]; rfl
  | maybe e => rw [E.toD, inner_pair, innerPair, if_pos (.inl rfl)]; rfl
  | many e => rw [E.toD, inner_pair, innerPair, if_pos (.inr rfl)]; rfl
  | join es =>
    rw [E.ok, oks_eq] at h
    simp only [Bool.and_eq_true, decide_eq_true_eq] at h
    have r : rowOk sJoin (.tup (E.toD.toDs es)) = true := by
      rw [rowOk_tup, toDs_eq, List.length_map, List.any_map]
      have z : (begins sJoin ∘ E.toD) = isJoin := funext begins_join
      rw [z, h.2, Bool.and_true]
      exact decide_eq_true h.1.1
    rw [E.toD, inner_pair, innerPair, if_neg (fun z => z.elim jm jn), if_pos ⟨.inl rfl, r⟩, toDs_eq]; rfl
  | alt es =>
    rw [E.ok, oks_eq] at h
    simp only [Bool.and_eq_true, decide_eq_true_eq] at h
    have r : rowOk sOr (.tup (E.toD.toDs es)) = true := by
      rw [rowOk_tup, toDs_eq, List.length_map, List.any_map]
      have z : (begins sOr ∘ E.toD) = isAlt := funext begins_or
      rw [z, h.2, Bool.and_true]
      exact decide_eq_true h.1.1
    rw [E.toD, inner_pair, innerPair, if_neg (fun z => z.elim om on), if_pos ⟨.inr rfl, r⟩, toDs_eq]; rfl
theorem places1_toD (e : E) : places1 e.toD = e.own := by
  cases e <;> rw [E.toD] <;> first | rfl | exact lE
theorem depth_kids (e : E) : ∀ k ∈ e.kids, k.depth + 1 ≤ e.depth := by
  have a : ∀ (es : List E), ∀ k ∈ es, k.depth ≤ E.depth.depths es := by
    intro es
    induction es with
    | nil => intro k h; cases h
    | cons e es ih =>
      intro k h
      rw [E.depth.depths]
      rcases List.mem_cons.mp h with rfl | h
      · exact Nat.le_max_left _ _
      · exact Nat.le_trans (ih k h) (Nat.le_max_right _ _)
  intro k hk
  cases e with
  | eps => cases hk
  | sym c => cases hk
  | maybe e => rw [E.kids, List.mem_singleton] at hk; subst hk; rw [E.depth]; omega
  | many e => rw [E.kids, List.mem_singleton] at hk; subst hk; rw [E.depth]; omega
  | join es => have := a es k hk; rw [E.depth]; omega
  | alt es => have := a es k hk; rw [E.depth]; omega
theorem depth_by {e : E} {n : Nat} (h : ∀ k ∈ e.kids, k.depth + 1 ≤ n) : e.depth ≤ n ∨ (e.kids = [] ∧ e.depth = 0) ∨ e.depth = 1 := by
  cases e with
  | eps => exact .inr (.inl ⟨rfl, rfl⟩)
  | sym c => exact .inr (.inl ⟨rfl, rfl⟩)
  | maybe e => exact .inl (h e (List.mem_singleton.mpr rfl))
  | many e => exact .inl (h e (List.mem_singleton.mpr rfl))
  | join es =>
    cases es with
    | nil => exact .inr (.inr rfl)
    | cons x r =>
      refine .inl ?_
      rw [E.depth]
      cases n with
      | zero => have := h x (List.mem_cons_self ..); omega
      | succ n => exact Nat.succ_le_succ (depths_le fun k hk => Nat.le_of_succ_le_succ (h k hk))
  | alt es =>
    cases es with
    | nil => exact .inr (.inr rfl)
    | cons x r =>
      refine .inl ?_
      rw [E.depth]
      cases n with
      | zero => have := h x (List.mem_cons_self ..); omega
      | succ n => exact Nat.succ_le_succ (depths_le fun k hk => Nat.le_of_succ_le_succ (h k hk))
/-! ### what the look gives -/
abbrev Stk := List (E × Nat)
def sD (st : Stk) : List (D × Nat) := st.map fun p => (p.1.toD, p.2)
/-- the greatest depth on the stack, from m on -/
def deepE (st : Stk) (m : Nat) : Nat := st.foldr (fun p m => max (p.2 + p.1.depth) m) m
def totE (st : Stk) (a : Bnd) : Bnd := (a.1 + (st.map fun p => p.1.places).sum, deepE st a.2.1, a.2.2 + (st.map fun p => p.1.parts - 1).sum)
theorem deepE_app (s t : Stk) (m : Nat) : deepE (s ++ t) m = deepE s (deepE t m) := by
  unfold deepE
  rw [List.foldr_append]
theorem deepE_max (s : Stk) (m : Nat) : m ≤ deepE s m := by
  induction s with
  | nil => exact Nat.le_refl _
  | cons p s ih => exact Nat.le_trans ih (Nat.le_max_right _ _)
theorem deepE_le {s : Stk} {m n : Nat} : deepE s m ≤ n ↔ m ≤ n ∧ ∀ p ∈ s, p.2 + p.1.depth ≤ n := by
  induction s with
  | nil => exact ⟨fun h => ⟨h, fun p hp => by cases hp⟩, fun h => h.1⟩
  | cons p s ih =>
    show max (p.2 + p.1.depth) (deepE s m) ≤ n ↔ _
    rw [Nat.max_le, ih]
    constructor
    · rintro ⟨h1, h2, h3⟩
      refine ⟨h2, fun q hq => ?_⟩
      rcases List.mem_cons.mp hq with rfl | hq
      · exact h1
      · exact h3 q hq
    · rintro ⟨h1, h2⟩
      exact ⟨h2 p (List.mem_cons_self ..), h1, fun q hq => h2 q (List.mem_cons_of_mem _ hq)⟩
theorem within_iff {b a : Bnd} : within b a = true ↔ a.1 ≤ b.1 ∧ a.2.1 ≤ b.2.1 ∧ a.2.2 ≤ b.2.2 := by
  unfold within
  simp only [Bool.and_eq_true, decide_eq_true_eq, and_assoc]
theorem depth_parts (e : E) (k : Nat) (n : Nat) (h0 : k ≤ n) (h : ∀ q ∈ e.kids, k + 1 + q.depth ≤ n) (hk : e.kids = [] → e.depth = 0) : k + e.depth ≤ n := by
  rcases depth_by (e := e) (n := n - k) (fun q hq => by have := h q hq; omega) with a | ⟨_, a⟩ | a
  · omega
  · omega
  · cases e with
    | eps => have : E.depth E.eps = 0 := rfl; omega
    | sym c => have : E.depth (E.sym c) = 0 := rfl; omega
    | maybe e => have := h e (List.mem_singleton.mpr rfl); omega
    | many e => have := h e (List.mem_singleton.mpr rfl); omega
    | join es =>
      cases es with
      | nil => have := hk rfl; omega
      | cons x r => have := h x (List.mem_cons_self ..); omega
    | alt es =>
      cases es with
      | nil => have := hk rfl; omega
      | cons x r => have := h x (List.mem_cons_self ..); omega
theorem kids_nil {e : E} (h : e.ok = true) (k : e.kids = []) : e.depth = 0 := by
  cases e with
  | eps => rfl
  | sym c => rfl
  | maybe e => cases k
  | many e => cases k
  | join es =>
    rw [E.kids] at k
    subst k
    cases h
  | alt es =>
    rw [E.kids] at k
    subst k
    cases h
theorem parts_pos (e : E) : 1 ≤ e.parts := by
  rw [parts_kids]
  omega
theorem sum_pred (es : List E) : (es.map fun e => e.parts - 1).sum + es.length = (es.map E.parts).sum := by
  induction es with
  | nil => rfl
  | cons e es ih =>
    have := parts_pos e
    simp only [List.map_cons, List.sum_cons, List.length_cons]
    omega
/-- one look at an expression -/
theorem tot_step {b : Bnd} {e : E} {k : Nat} {st : Stk} {a : Bnd} (h : e.ok = true) :
    totE ((e.kids.map fun y => (y, k + 1)).reverse ++ st) (a.1 + e.own, max a.2.1 k, a.2.2 + e.kids.length) = totE ((e, k) :: st) a := by
  have hp := places_kids e
  have hq := parts_kids e
  have hs := sum_pred e.kids
  unfold totE
  refine Prod.ext ?_ (Prod.ext ?_ ?_)
  · show a.1 + e.own + _ = a.1 + _
    rw [List.map_append, List.sum_append, List.map_reverse, List.sum_reverse, List.map_map, List.map_cons, List.sum_cons]
    show a.1 + e.own + ((e.kids.map E.places).sum + _) = a.1 + (e.places + _)
    omega
  · show deepE _ (max a.2.1 k) = deepE ((e, k) :: st) a.2.1
    refine Nat.le_antisymm (deepE_le.mpr ⟨?_, ?_⟩) (deepE_le.mpr ⟨?_, ?_⟩)
    · refine Nat.max_le.mpr ⟨deepE_max _ _, ?_⟩
      exact Nat.le_trans (Nat.le_add_right _ _) ((deepE_le.mp (Nat.le_refl _)).2 (e, k) (List.mem_cons_self ..))
    · intro p hp
      rcases List.mem_append.mp hp with hp | hp
      · rw [List.mem_reverse, List.mem_map] at hp
        obtain ⟨y, hy, rfl⟩ := hp
        have := depth_kids e y hy
        have q := (deepE_le.mp (Nat.le_refl (deepE ((e, k) :: st) a.2.1))).2 (e, k) (List.mem_cons_self ..)
        show k + 1 + y.depth ≤ _
        have q' : k + e.depth ≤ deepE ((e, k) :: st) a.2.1 := q
        omega
      · exact (deepE_le.mp (Nat.le_refl (deepE ((e, k) :: st) a.2.1))).2 p (List.mem_cons_of_mem _ hp)
    · exact Nat.le_trans (Nat.le_max_left _ _) (deepE_max _ _)
    · intro p hp
      have L := (deepE_le.mp (Nat.le_refl (deepE ((e.kids.map fun y => (y, k + 1)).reverse ++ st) (max a.2.1 k))))
      rcases List.mem_cons.mp hp with rfl | hp
      · refine depth_parts e k _ (Nat.le_trans (Nat.le_max_right _ _) L.1) (fun q hq => ?_) (kids_nil h)
        exact L.2 (q, k + 1) (List.mem_append_left _ (List.mem_reverse.mpr (List.mem_map.mpr ⟨q, hq, rfl⟩)))
      · exact L.2 p (List.mem_append_right _ hp)
  · show a.2.2 + e.kids.length + _ = a.2.2 + _
    rw [List.map_append, List.sum_append, List.map_reverse, List.sum_reverse, List.map_map, List.map_cons, List.sum_cons]
    show a.2.2 + e.kids.length + ((e.kids.map fun e => e.parts - 1).sum + _) = a.2.2 + ((e.parts - 1) + _)
    omega
theorem tot_ge (st : Stk) (a : Bnd) : a.1 ≤ (totE st a).1 ∧ a.2.1 ≤ (totE st a).2.1 ∧ a.2.2 ≤ (totE st a).2.2 := ⟨Nat.le_add_right _ _, deepE_max _ _, Nat.le_add_right _ _⟩
theorem sD_step (e : E) (k : Nat) (st : Stk) : ((e.kids.map E.toD).map fun y => (y, k + 1)).reverse ++ sD st = sD ((e.kids.map fun y => (y, k + 1)).reverse ++ st) := by
  unfold sD
  rw [List.map_append, List.map_reverse, List.map_map, List.map_map]
  rfl
theorem look_ok {b : Bnd} : ∀ (n : Nat) (st : Stk) (a : Bnd), msr (sD st) < n → (∀ p ∈ st, p.1.ok = true) → within b a = true → look b n (sD st) a = if within b (totE st a) = true then some (totE st a) else none
  | 0, st, a, h, _, _ => absurd h (Nat.not_lt_zero _)
  | n + 1, [], a, _, _, hw => by
    have e : totE [] a = a := rfl
    rw [e, if_pos hw]
    rfl
  | n + 1, (e, k) :: st, a, hm, ho, hw => by
    have h := ho (e, k) (List.mem_cons_self ..)
    have hi := inner_toD h
    show (match inner e.toD with | none => none | some ys => if within b (a.1 + places1 e.toD, max a.2.1 k, a.2.2 + ys.length) = true then look b n ((ys.map fun y => (y, k + 1)).reverse ++ sD st) (a.1 + places1 e.toD, max a.2.1 k, a.2.2 + ys.length) else none) = _
    rw [hi]
    show (if within b (a.1 + places1 e.toD, max a.2.1 k, a.2.2 + (e.kids.map E.toD).length) = true then look b n (((e.kids.map E.toD).map fun y => (y, k + 1)).reverse ++ sD st) (a.1 + places1 e.toD, max a.2.1 k, a.2.2 + (e.kids.map E.toD).length) else none) = _
    rw [places1_toD, List.length_map, sD_step]
    have ts := tot_step (b := b) (k := k) (st := st) (a := a) h
    by_cases c : within b (a.1 + e.own, max a.2.1 k, a.2.2 + e.kids.length) = true
    · have m1 : msr (sD ((e.kids.map fun y => (y, k + 1)).reverse ++ st)) < n := by
        have := msr_step (k := k) (st := sD st) hi
        rw [sD_step] at this
        have hm' : msr ((e.toD, k) :: sD st) < n + 1 := hm
        exact Nat.lt_of_lt_of_le this (Nat.le_of_lt_succ hm')
      rw [if_pos c, look_ok n _ _ m1 (fun p hp => ?_) c, ts]
      rcases List.mem_append.mp hp with hp | hp
      · rw [List.mem_reverse, List.mem_map] at hp
        obtain ⟨y, hy, rfl⟩ := hp
        exact ok_kids h y hy
      · exact ho p (List.mem_cons_of_mem _ hp)
    · rw [if_neg c, if_neg]
      intro z
      rw [← ts] at z
      apply c
      have g := tot_ge ((e.kids.map fun y => (y, k + 1)).reverse ++ st) (a.1 + e.own, max a.2.1 k, a.2.2 + e.kids.length)
      rw [within_iff] at z ⊢
      exact ⟨Nat.le_trans g.1 z.1, Nat.le_trans g.2.1 z.2.1, Nat.le_trans g.2.2 z.2.2⟩
/-- something wrong within -/
inductive Bad : D → Prop where
  | here {d : D} (h : inner d = none) : Bad d
  | inn {d y : D} {ys : List D} (h : inner d = some ys) (m : y ∈ ys) (b : Bad y) : Bad d
theorem look_bad {b : Bnd} : ∀ (n : Nat) (st : List (D × Nat)) (a : Bnd), (∃ p ∈ st, Bad p.1) → look b n st a = none
  | 0, _, _, _ => rfl
  | n + 1, [], _, h => by
    obtain ⟨p, hp, _⟩ := h
    cases hp
  | n + 1, (d, k) :: st, a, h => by
    show (match inner d with | none => none | some ys => if within b (a.1 + places1 d, max a.2.1 k, a.2.2 + ys.length) = true then look b n ((ys.map fun y => (y, k + 1)).reverse ++ st) (a.1 + places1 d, max a.2.1 k, a.2.2 + ys.length) else none) = none
    cases hi : inner d with
    | none => rfl
    | some ys =>
      show (if within b (a.1 + places1 d, max a.2.1 k, a.2.2 + ys.length) = true then look b n ((ys.map fun y => (y, k + 1)).reverse ++ st) (a.1 + places1 d, max a.2.1 k, a.2.2 + ys.length) else none) = none
      split
      · refine look_bad n _ _ ?_
        obtain ⟨p, hp, hb⟩ := h
        rcases List.mem_cons.mp hp with rfl | hp
        · cases hb with
          | here z => rw [z] at hi; cases hi
          | inn z m hb =>
            rw [z] at hi
            cases hi
            exact ⟨(_, k + 1), List.mem_append_left _ (List.mem_reverse.mpr (List.mem_map.mpr ⟨_, m, rfl⟩)), hb⟩
        · exact ⟨p, List.mem_append_right _ hp, hb⟩
      · rfl
/-- what sizes_within gives of a datum -/
def sizesOf (b : Bnd) (d : D) : Option Bnd := look b (d.size + 1) [(d, 0)] (0, 0, 1)
theorem sizes_ok {b : Bnd} {e : E} (h : e.ok = true) (hb : 1 ≤ b.2.2) : sizesOf b e.toD = if within b (e.places, e.depth, e.parts) = true then some (e.places, e.depth, e.parts) else none := by
  have q := look_ok (b := b) (e.toD.size + 1) [(e, 0)] (0, 0, 1) (by show msr [(e.toD, 0)] < _; unfold msr; simp) (fun p hp => by rw [List.mem_singleton] at hp; subst hp; exact h) (within_iff.mpr ⟨Nat.zero_le _, Nat.zero_le _, hb⟩)
  have t : totE [(e, 0)] (0, 0, 1) = (e.places, e.depth, e.parts) := by
    have := parts_pos e
    refine Prod.ext ?_ (Prod.ext ?_ ?_)
    · show 0 + (e.places + 0) = e.places
      omega
    · show max (0 + e.depth) 0 = e.depth
      omega
    · show 1 + (e.parts - 1 + 0) = e.parts
      omega
  rw [t] at q
  exact q
theorem sizes_bad {b : Bnd} {d : D} (h : Bad d) : sizesOf b d = none := look_bad _ _ _ ⟨(d, 0), List.mem_singleton.mpr rfl, h⟩
theorem headFlat_toD (e : E) : headFlat e.toD = true := by
  cases e <;> rw [E.toD] <;> rfl
theorem rowFlat_toDs (es : List E) : rowFlat (.tup (E.toD.toDs es)) = true := by
  rw [toDs_eq]
  show (es.map E.toD).all headFlat = true
  rw [List.all_eq_true]
  intro d hd
  rw [List.mem_map] at hd
  obtain ⟨e, _, rfl⟩ := hd
  exact headFlat_toD e
theorem fl_pair {w : Str} {y : D} (h : w = sJoin ∨ w = sOr → rowFlat y = true) (k : Fl y) : Fl (.tup [.str w, y]) := by
  refine .tup (fun w' y' e => ?_) fun d hd => ?_
  · cases e
    exact h
  · rcases List.mem_cons.mp hd with rfl | hd
    · exact .str _
    · rw [List.mem_singleton] at hd
      subst hd
      exact k
theorem toD_str {e : E} {w : Str} (h : e.toD = .str w) : ¬ (w = sJoin ∨ w = sOr) := by
  cases e with
  | eps =>
    rw [E.toD] at h
    cases h
    rintro (h | h)
    · exact je h.symm
    · exact oe h.symm
  | sym c =>
    rw [E.toD] at h
    cases h
    rintro (h | h)
    · have := congrArg Str.length h
      rw [lJ] at this
      cases this
    · have := congrArg Str.length h
      rw [lO] at this
      cases this
  | maybe e => rw [E.toD] at h; cases h
  | many e => rw [E.toD] at h; cases h
  | join es => rw [E.toD] at h; cases h
  | alt es => rw [E.toD] at h; cases h
mutual
theorem fl_toD : ∀ e : E, Fl e.toD
  | .eps => .str _
  | .sym c => .str _
  | .maybe e => by
    rw [E.toD]
    exact fl_pair (fun h => (h.elim (fun h => jm h.symm) fun h => om h.symm).elim) (fl_toD e)
  | .many e => by
    rw [E.toD]
    exact fl_pair (fun h => (h.elim (fun h => jn h.symm) fun h => on h.symm).elim) (fl_toD e)
  | .join es => by
    rw [E.toD]
    exact fl_pair (fun _ => rowFlat_toDs es) (fl_toDs es)
  | .alt es => by
    rw [E.toD]
    exact fl_pair (fun _ => rowFlat_toDs es) (fl_toDs es)
theorem fl_toDs : ∀ es : List E, Fl (.tup (E.toD.toDs es))
  | [] => .tup (fun w y h => by cases h) fun d hd => by cases hd
  | e :: es => by
    have h := fl_toDs es
    have h0 := fl_toD e
    refine .tup (fun w y z hw => ?_) fun d hd => ?_
    · rw [E.toD.toDs] at z
      have z1 : e.toD = .str w := (List.cons.inj z).1
      exact absurd hw (toD_str z1)
    · rw [E.toD.toDs] at hd
      rcases List.mem_cons.mp hd with rfl | hd
      · exact h0
      · cases h with
        | tup _ k => exact k d hd
end
end My
namespace My
open PySem PySem.Spec PyProof.Rows L2
/-! ### which places come first, last, behind one another -/
structure Gl where
  nul : Bool
  fst : List Nat
  lst : List Nat
  fol : List (Nat × Nat)
def prodL (xs ys : List Nat) : List (Nat × Nat) := (xs.map fun i => ys.map fun j => (i, j)).flatten
theorem mem_prodL {xs ys : List Nat} {i j : Nat} : (i, j) ∈ prodL xs ys ↔ i ∈ xs ∧ j ∈ ys := by
  unfold prodL
  rw [List.mem_flatten]
  constructor
  · rintro ⟨l, hl, h⟩
    obtain ⟨a, ha, rfl⟩ := List.mem_map.mp hl
    obtain ⟨b, hb, e⟩ := List.mem_map.mp h
    cases e
    exact ⟨ha, hb⟩
  · rintro ⟨h1, h2⟩
    exact ⟨_, List.mem_map.mpr ⟨i, h1, rfl⟩, List.mem_map.mpr ⟨j, h2, rfl⟩⟩
def Gl.one : Gl := ⟨true, [], [], []⟩
def Gl.non : Gl := ⟨false, [], [], []⟩
def Gl.seq (a b : Gl) : Gl := ⟨a.nul && b.nul, a.fst ++ (if a.nul then b.fst else []), (if b.nul then a.lst else []) ++ b.lst, a.fol ++ (prodL a.lst b.fst ++ b.fol)⟩
def Gl.par (a b : Gl) : Gl := ⟨a.nul || b.nul, a.fst ++ b.fst, a.lst ++ b.lst, a.fol ++ b.fol⟩
def gl : E → Nat → Gl
  | .eps, _ => .one
  | .sym _, o => ⟨false, [o], [o], []⟩
  | .maybe e, o => ⟨true, (gl e o).fst, (gl e o).lst, (gl e o).fol⟩
  | .many e, o => ⟨true, (gl e o).fst, (gl e o).lst, (gl e o).fol ++ prodL (gl e o).lst (gl e o).fst⟩
  | .join es, o => glJ es o
  | .alt es, o => glA es o
where
  glJ : List E → Nat → Gl
    | [], _ => .one
    | e :: es, o => (gl e o).seq (glJ es (o + e.places))
  glA : List E → Nat → Gl
    | [], _ => .non
    | e :: es, o => (gl e o).par (glA es (o + e.places))
/-- the same but for the sequence of the pairs -/
structure Eqv (a b : Gl) : Prop where
  nul : a.nul = b.nul
  fst : a.fst = b.fst
  lst : a.lst = b.lst
  fol : ∀ x, x ∈ a.fol ↔ x ∈ b.fol
theorem Eqv.refl (a : Gl) : Eqv a a := ⟨rfl, rfl, rfl, fun _ => Iff.rfl⟩
theorem Eqv.trans {a b c : Gl} (x : Eqv a b) (y : Eqv b c) : Eqv a c := ⟨x.nul.trans y.nul, x.fst.trans y.fst, x.lst.trans y.lst, fun z => (x.fol z).trans (y.fol z)⟩
theorem Eqv.seq {a b c : Gl} (h : Eqv b c) : Eqv (a.seq b) (a.seq c) where
  nul := by unfold Gl.seq; rw [h.nul]
  fst := by unfold Gl.seq; rw [h.fst]
  lst := by unfold Gl.seq; rw [h.lst, h.nul]
  fol x := by
    unfold Gl.seq
    simp only [List.mem_append]
    rw [h.fst, h.fol]
theorem seq_one (a : Gl) : Eqv (a.seq .one) a where
  nul := Bool.and_true _
  fst := by show a.fst ++ (if a.nul = true then [] else []) = _; split <;> simp
  lst := by show (if true = true then a.lst else []) ++ [] = _; simp
  fol x := by
    show x ∈ a.fol ++ (prodL a.lst [] ++ []) ↔ _
    obtain ⟨i, j⟩ := x
    rw [List.mem_append, List.append_nil, mem_prodL]
    simp
theorem one_seq (a : Gl) : Eqv (Gl.one.seq a) a where
  nul := rfl
  fst := rfl
  lst := by show (if a.nul = true then [] else []) ++ a.lst = _; split <;> rfl
  fol x := Iff.rfl
theorem seq_assoc (a b c : Gl) : Eqv ((a.seq b).seq c) (a.seq (b.seq c)) where
  nul := Bool.and_assoc ..
  fst := by
    show (a.fst ++ (if a.nul = true then b.fst else [])) ++ (if (a.nul && b.nul) = true then c.fst else []) = a.fst ++ (if a.nul = true then b.fst ++ (if b.nul = true then c.fst else []) else [])
    cases a.nul <;> cases b.nul <;> simp
  lst := by
    show (if c.nul = true then (if b.nul = true then a.lst else []) ++ b.lst else []) ++ c.lst = (if (b.nul && c.nul) = true then a.lst else []) ++ ((if c.nul = true then b.lst else []) ++ c.lst)
    cases b.nul <;> cases c.nul <;> simp
  fol x := by
    obtain ⟨i, j⟩ := x
    unfold Gl.seq
    simp only [List.mem_append, mem_prodL]
    cases a.nul <;> cases b.nul <;> cases c.nul <;> simp <;> grind
theorem par_assoc (a b c : Gl) : (a.par b).par c = a.par (b.par c) := by
  unfold Gl.par
  simp [Bool.or_assoc, List.append_assoc]
theorem par_non (a : Gl) : a.par .non = a := by
  unfold Gl.par Gl.non
  simp
theorem non_par (a : Gl) : Gl.non.par a = a := by
  unfold Gl.par Gl.non
  simp
theorem sumP_cons (e : E) (es : List E) : ((e :: es).map E.places).sum = e.places + (es.map E.places).sum := by
  rw [List.map_cons, List.sum_cons]
theorem glJ_snoc (es : List E) (e : E) : ∀ o, Eqv (gl.glJ (es ++ [e]) o) ((gl.glJ es o).seq (gl e (o + (es.map E.places).sum))) := by
  induction es with
  | nil =>
    intro o
    show Eqv ((gl e o).seq Gl.one) (Gl.one.seq (gl e (o + 0)))
    rw [Nat.add_zero]
    refine (seq_one _).trans ?_
    have := one_seq (gl e o)
    exact ⟨this.nul.symm, this.fst.symm, this.lst.symm, fun x => (this.fol x).symm⟩
  | cons a es ih =>
    intro o
    show Eqv ((gl a o).seq (gl.glJ (es ++ [e]) (o + a.places))) (((gl a o).seq (gl.glJ es (o + a.places))).seq _)
    refine ((ih (o + a.places)).seq).trans ?_
    have h := seq_assoc (gl a o) (gl.glJ es (o + a.places)) (gl e (o + a.places + (es.map E.places).sum))
    rw [sumP_cons, ← Nat.add_assoc]
    exact ⟨h.nul.symm, h.fst.symm, h.lst.symm, fun x => (h.fol x).symm⟩
theorem glA_snoc (es : List E) (e : E) : ∀ o, gl.glA (es ++ [e]) o = (gl.glA es o).par (gl e (o + (es.map E.places).sum)) := by
  induction es with
  | nil =>
    intro o
    show (gl e o).par Gl.non = Gl.non.par (gl e (o + 0))
    rw [Nat.add_zero, par_non, non_par]
  | cons a es ih =>
    intro o
    show (gl a o).par (gl.glA (es ++ [e]) (o + a.places)) = ((gl a o).par (gl.glA es (o + a.places))).par _
    rw [ih, par_assoc, sumP_cons, ← Nat.add_assoc]
/-- all places that are told lie within the expression's own -/
structure Within (g : Gl) (o n : Nat) : Prop where
  fst : ∀ i ∈ g.fst, o ≤ i ∧ i < o + n
  lst : ∀ i ∈ g.lst, o ≤ i ∧ i < o + n
  fol : ∀ i j, (i, j) ∈ g.fol → (o ≤ i ∧ i < o + n) ∧ o ≤ j ∧ j < o + n
theorem Within.wide {g : Gl} {o n o' n' : Nat} (h : Within g o n) (h1 : o' ≤ o) (h2 : o + n ≤ o' + n') : Within g o' n' where
  fst i hi := by have := h.fst i hi; omega
  lst i hi := by have := h.lst i hi; omega
  fol i j hi := by have := h.fol i j hi; omega
theorem Within.seq {a b : Gl} {o n : Nat} (x : Within a o n) (y : Within b o n) : Within (a.seq b) o n where
  fst i hi := by
    rcases List.mem_append.mp hi with h | h
    · exact x.fst i h
    · split at h
      · exact y.fst i h
      · cases h
  lst i hi := by
    rcases List.mem_append.mp hi with h | h
    · split at h
      · exact x.lst i h
      · cases h
    · exact y.lst i h
  fol i j hi := by
    rcases List.mem_append.mp hi with h | h
    · exact x.fol i j h
    · rcases List.mem_append.mp h with h | h
      · have := mem_prodL.mp h
        exact ⟨x.lst i this.1, y.fst j this.2⟩
      · exact y.fol i j h
theorem Within.par {a b : Gl} {o n : Nat} (x : Within a o n) (y : Within b o n) : Within (a.par b) o n where
  fst i hi := (List.mem_append.mp hi).elim (x.fst i) (y.fst i)
  lst i hi := (List.mem_append.mp hi).elim (x.lst i) (y.lst i)
  fol i j hi := (List.mem_append.mp hi).elim (x.fol i j) (y.fol i j)
mutual
theorem gl_within : ∀ (e : E) (o : Nat), Within (gl e o) o e.places
  | .eps, o => ⟨(fun i h => by cases h), (fun i h => by cases h), (fun i j h => by cases h)⟩
  | .sym c, o => ⟨(fun i h => by rw [gl, List.mem_singleton] at h; rw [E.places]; omega), (fun i h => by rw [gl, List.mem_singleton] at h; rw [E.places]; omega), (fun i j h => by cases h)⟩
  | .maybe e, o => by
    have h := gl_within e o
    rw [gl, E.places]
    exact ⟨h.fst, h.lst, h.fol⟩
  | .many e, o => by
    have h := gl_within e o
    rw [gl, E.places]
    refine ⟨h.fst, h.lst, fun i j hi => ?_⟩
    rcases List.mem_append.mp hi with c | c
    · exact h.fol i j c
    · have := mem_prodL.mp c
      exact ⟨h.lst i this.1, h.fst j this.2⟩
  | .join es, o => by
    rw [gl, E.places]
    exact glJ_within es o
  | .alt es, o => by
    rw [gl, E.places]
    exact glA_within es o
theorem glJ_within : ∀ (es : List E) (o : Nat), Within (gl.glJ es o) o (E.places.placess es)
  | [], o => ⟨(fun i h => by cases h), (fun i h => by cases h), (fun i j h => by cases h)⟩
  | e :: es, o => by
    rw [gl.glJ, E.places.placess]
    exact ((gl_within e o).wide (Nat.le_refl _) (by omega)).seq ((glJ_within es (o + e.places)).wide (by omega) (by omega))
theorem glA_within : ∀ (es : List E) (o : Nat), Within (gl.glA es o) o (E.places.placess es)
  | [], o => ⟨(fun i h => by cases h), (fun i h => by cases h), (fun i j h => by cases h)⟩
  | e :: es, o => by
    rw [gl.glA, E.places.placess]
    exact ((gl_within e o).wide (Nat.le_refl _) (by omega)).par ((glA_within es (o + e.places)).wide (by omega) (by omega))
end
/-! ### the letters of the places -/
def E.letters : E → List Nat
  | .eps => []
  | .sym c => [c]
  | .maybe e => e.letters
  | .many e => e.letters
  | .join es => letterss es
  | .alt es => letterss es
where letterss : List E → List Nat
  | [] => []
  | e :: es => e.letters ++ letterss es
theorem letterss_snoc (es : List E) (e : E) : E.letters.letterss (es ++ [e]) = E.letters.letterss es ++ e.letters := by
  induction es with
  | nil => show e.letters ++ [] = [] ++ e.letters; simp
  | cons a es ih =>
    show a.letters ++ E.letters.letterss (es ++ [e]) = (a.letters ++ E.letters.letterss es) ++ e.letters
    rw [ih, List.append_assoc]
mutual
theorem letters_len : ∀ e : E, e.letters.length = e.places
  | .eps => rfl
  | .sym c => rfl
  | .maybe e => by rw [E.letters, E.places]; exact letters_len e
  | .many e => by rw [E.letters, E.places]; exact letters_len e
  | .join es => by rw [E.letters, E.places]; exact letterss_len es
  | .alt es => by rw [E.letters, E.places]; exact letterss_len es
theorem letterss_len : ∀ es : List E, (E.letters.letterss es).length = E.places.placess es
  | [] => rfl
  | e :: es => by rw [E.letters.letterss, E.places.placess, List.length_append, letters_len e, letterss_len es]
end
structure Short (g : Gl) (n : Nat) : Prop where
  fst : g.fst.length ≤ n
  lst : g.lst.length ≤ n
theorem Short.seq {a b : Gl} {m n : Nat} (x : Short a m) (y : Short b n) : Short (a.seq b) (m + n) where
  fst := by
    show (a.fst ++ (if a.nul = true then b.fst else [])).length ≤ _
    rw [List.length_append]
    have := x.fst
    have := y.fst
    split
    · omega
    · show _ + 0 ≤ _; omega
  lst := by
    show ((if b.nul = true then a.lst else []) ++ b.lst).length ≤ _
    rw [List.length_append]
    have := x.lst
    have := y.lst
    split
    · omega
    · show 0 + _ ≤ _; omega
theorem Short.par {a b : Gl} {m n : Nat} (x : Short a m) (y : Short b n) : Short (a.par b) (m + n) where
  fst := by
    show (a.fst ++ b.fst).length ≤ _
    rw [List.length_append]
    have := x.fst
    have := y.fst
    omega
  lst := by
    show (a.lst ++ b.lst).length ≤ _
    rw [List.length_append]
    have := x.lst
    have := y.lst
    omega
mutual
theorem gl_len : ∀ (e : E) (o : Nat), Short (gl e o) e.places
  | .eps, o => ⟨Nat.zero_le _, Nat.zero_le _⟩
  | .sym c, o => ⟨Nat.le_refl _, Nat.le_refl _⟩
  | .maybe e, o => by
    rw [gl, E.places]
    exact ⟨(gl_len e o).fst, (gl_len e o).lst⟩
  | .many e, o => by
    rw [gl, E.places]
    exact ⟨(gl_len e o).fst, (gl_len e o).lst⟩
  | .join es, o => by
    rw [gl, E.places]
    exact glJ_len es o
  | .alt es, o => by
    rw [gl, E.places]
    exact glA_len es o
theorem glJ_len : ∀ (es : List E) (o : Nat), Short (gl.glJ es o) (E.places.placess es)
  | [], o => ⟨Nat.zero_le _, Nat.zero_le _⟩
  | e :: es, o => by
    rw [gl.glJ, E.places.placess]
    exact (gl_len e o).seq (glJ_len es (o + e.places))
theorem glA_len : ∀ (es : List E) (o : Nat), Short (gl.glA es o) (E.places.placess es)
  | [], o => ⟨Nat.zero_le _, Nat.zero_le _⟩
  | e :: es, o => by
    rw [gl.glA, E.places.placess]
    exact (gl_len e o).par (glA_len es (o + e.places))
end
end My
namespace My
open PySem PySem.Spec PyProof.Rows L2
/-! ### ways through the places, and words -/
def lastN : Nat → List Nat → Nat
  | x, [] => x
  | _, y :: ys => lastN y ys
def chn (F : List (Nat × Nat)) : Nat → List Nat → Prop
  | _, [] => True
  | x, y :: ys => (x, y) ∈ F ∧ chn F y ys
def Sfx (g : Gl) (x : Nat) (xs : List Nat) : Prop := chn g.fol x xs ∧ lastN x xs ∈ g.lst
def Acc (g : Gl) : List Nat → Prop
  | [] => g.nul = true
  | x :: xs => x ∈ g.fst ∧ Sfx g x xs
/-- any number of words that are not empty, one behind the other -/
inductive Star {α : Type} (L : List α → Prop) : List α → Prop where
  | nil : Star L []
  | cons {u v : List α} (h : L u) (n : u ≠ []) (t : Star L v) : Star L (u ++ v)
theorem Star.mono {α : Type} {L M : List α → Prop} (k : ∀ u, L u → M u) {w : List α} (h : Star L w) : Star M w := by
  induction h with
  | nil => exact .nil
  | cons h n _ ih => exact .cons (k _ h) n ih
def MP : E → Nat → List Nat → Prop
  | .eps, _, ps => ps = []
  | .sym _, o, ps => ps = [o]
  | .maybe e, o, ps => ps = [] ∨ MP e o ps
  | .many e, o, ps => Star (MP e o) ps
  | .join es, o, ps => mpJ es o ps
  | .alt es, o, ps => mpA es o ps
where
  mpJ : List E → Nat → List Nat → Prop
    | [], _, ps => ps = []
    | e :: es, o, ps => ∃ us vs, ps = us ++ vs ∧ MP e o us ∧ mpJ es (o + e.places) vs
  mpA : List E → Nat → List Nat → Prop
    | [], _, _ => False
    | e :: es, o, ps => MP e o ps ∨ mpA es (o + e.places) ps
def MW : E → List Nat → Prop
  | .eps, w => w = []
  | .sym c, w => w = [c]
  | .maybe e, w => w = [] ∨ MW e w
  | .many e, w => Star (MW e) w
  | .join es, w => mwJ es w
  | .alt es, w => mwA es w
where
  mwJ : List E → List Nat → Prop
    | [], w => w = []
    | e :: es, w => ∃ us vs, w = us ++ vs ∧ MW e us ∧ mwJ es vs
  mwA : List E → List Nat → Prop
    | [], _ => False
    | e :: es, w => MW e w ∨ mwA es w
theorem mp_eps (o : Nat) (ps : List Nat) : MP .eps o ps ↔ ps = [] := Iff.rfl
theorem mp_sym (c o : Nat) (ps : List Nat) : MP (.sym c) o ps ↔ ps = [o] := Iff.rfl
/-! #### one behind the other -/
theorem chn_mono {F G : List (Nat × Nat)} (k : ∀ x, x ∈ F → x ∈ G) : ∀ (ys : List Nat) (x : Nat), chn F x ys → chn G x ys
  | [], _, _ => trivial
  | y :: ys, x, h => ⟨k _ h.1, chn_mono k ys y h.2⟩
theorem chn_app {F : List (Nat × Nat)} : ∀ (us : List Nat) (x y : Nat) (vs : List Nat), chn F x us → (lastN x us, y) ∈ F → chn F y vs → chn F x (us ++ y :: vs)
  | [], _, _, _, _, h2, h3 => ⟨h2, h3⟩
  | _ :: us, _, _, _, h1, h2, h3 => ⟨h1.1, chn_app us _ _ _ h1.2 h2 h3⟩
theorem lastN_app : ∀ (us : List Nat) (x y : Nat) (vs : List Nat), lastN x (us ++ y :: vs) = lastN y vs
  | [], _, _, _ => rfl
  | u :: us, _, y, vs => lastN_app us u y vs
theorem lastN_app0 (x : Nat) (us : List Nat) : lastN x (us ++ []) = lastN x us := by rw [List.append_nil]
/-- a way that is within the later part stays there -/
theorem seq_right {a b : Gl} {o n m : Nat} (wa : Within a o n) (wb : Within b (o + n) m) : ∀ (xs : List Nat) (x : Nat), o + n ≤ x → Sfx (a.seq b) x xs → Sfx b x xs
  | [], x, hx, h => by
    refine ⟨trivial, ?_⟩
    have h2 : x ∈ (if b.nul = true then a.lst else []) ++ b.lst := h.2
    rcases List.mem_append.mp h2 with h2 | h2
    · split at h2
      · have := wa.lst x h2; omega
      · cases h2
    · exact h2
  | y :: ys, x, hx, h => by
    obtain ⟨⟨h1, h2⟩, h3⟩ := h
    have h1' : (x, y) ∈ a.fol ++ (prodL a.lst b.fst ++ b.fol) := h1
    rcases List.mem_append.mp h1' with c | c
    · have := (wa.fol x y c).1; omega
    · rcases List.mem_append.mp c with c | c
      · have := wa.lst x (mem_prodL.mp c).1; omega
      · have hy := (wb.fol x y c).2
        have r := seq_right wa wb ys y hy.1 ⟨h2, h3⟩
        exact ⟨⟨c, r.1⟩, r.2⟩
theorem seq_left {a b : Gl} {o n m : Nat} (wa : Within a o n) (wb : Within b (o + n) m) : ∀ (xs : List Nat) (x : Nat), x < o + n → Sfx (a.seq b) x xs → ∃ us vs, xs = us ++ vs ∧ Sfx a x us ∧ Acc b vs
  | [], x, hx, h => by
    have h2 : x ∈ (if b.nul = true then a.lst else []) ++ b.lst := h.2
    rcases List.mem_append.mp h2 with h2 | h2
    · split at h2
      · rename_i c
        exact ⟨[], [], rfl, ⟨trivial, h2⟩, c⟩
      · cases h2
    · have := wb.lst x h2; omega
  | y :: ys, x, hx, h => by
    obtain ⟨⟨h1, h2⟩, h3⟩ := h
    have h1' : (x, y) ∈ a.fol ++ (prodL a.lst b.fst ++ b.fol) := h1
    rcases List.mem_append.mp h1' with c | c
    · have hy := (wa.fol x y c).2
      obtain ⟨us, vs, e, r1, r2⟩ := seq_left wa wb ys y hy.2 ⟨h2, h3⟩
      subst e
      exact ⟨y :: us, vs, rfl, ⟨⟨c, r1.1⟩, r1.2⟩, r2⟩
    · rcases List.mem_append.mp c with c | c
      · obtain ⟨c1, c2⟩ := mem_prodL.mp c
        exact ⟨[], y :: ys, rfl, ⟨trivial, c1⟩, c2, seq_right wa wb ys y (wb.fst y c2).1 ⟨h2, h3⟩⟩
      · have := (wb.fol x y c).1; omega
theorem acc_seq {a b : Gl} {o n m : Nat} (wa : Within a o n) (wb : Within b (o + n) m) (ps : List Nat) : Acc (a.seq b) ps ↔ ∃ us vs, ps = us ++ vs ∧ Acc a us ∧ Acc b vs := by
  constructor
  · intro h
    cases ps with
    | nil =>
      have h' : (a.nul && b.nul) = true := h
      rw [Bool.and_eq_true] at h'
      exact ⟨[], [], rfl, h'.1, h'.2⟩
    | cons x xs =>
      obtain ⟨h1, h2⟩ := h
      have h1' : x ∈ a.fst ++ (if a.nul = true then b.fst else []) := h1
      rcases List.mem_append.mp h1' with c | c
      · obtain ⟨us, vs, e, r1, r2⟩ := seq_left wa wb xs x (wa.fst x c).2 h2
        subst e
        exact ⟨x :: us, vs, rfl, ⟨c, r1⟩, r2⟩
      · split at c
        · rename_i hn
          exact ⟨[], x :: xs, rfl, hn, c, seq_right wa wb xs x (wb.fst x c).1 h2⟩
        · cases c
  · rintro ⟨us, vs, rfl, h1, h2⟩
    cases us with
    | nil =>
      have h1' : a.nul = true := h1
      cases vs with
      | nil =>
        have h2' : b.nul = true := h2
        show (a.nul && b.nul) = true
        rw [h1', h2']
        rfl
      | cons y ys =>
        refine ⟨?_, chn_mono (fun x hx => List.mem_append_right _ (List.mem_append_right _ hx)) ys y h2.2.1, List.mem_append_right _ h2.2.2⟩
        show y ∈ a.fst ++ (if a.nul = true then b.fst else [])
        rw [if_pos h1']
        exact List.mem_append_right _ h2.1
    | cons x xs =>
      have ca := chn_mono (G := (a.seq b).fol) (fun z hz => List.mem_append_left _ hz) xs x h1.2.1
      cases vs with
      | nil =>
        have h2' : b.nul = true := h2
        rw [List.append_nil]
        refine ⟨List.mem_append_left _ h1.1, ca, ?_⟩
        show _ ∈ (if b.nul = true then a.lst else []) ++ b.lst
        rw [if_pos h2']
        exact List.mem_append_left _ h1.2.2
      | cons y ys =>
        refine ⟨List.mem_append_left _ h1.1, chn_app xs x y ys ca ?_ (chn_mono (fun z hz => List.mem_append_right _ (List.mem_append_right _ hz)) ys y h2.2.1), ?_⟩
        · exact List.mem_append_right _ (List.mem_append_left _ (mem_prodL.mpr ⟨h1.2.2, h2.1⟩))
        · show lastN x (xs ++ y :: ys) ∈ _
          rw [lastN_app]
          exact List.mem_append_right _ h2.2.2
/-! #### one or the other -/
theorem par_left {a b : Gl} {o n m : Nat} (wa : Within a o n) (wb : Within b (o + n) m) : ∀ (xs : List Nat) (x : Nat), x < o + n → Sfx (a.par b) x xs → Sfx a x xs
  | [], x, hx, h => by
    refine ⟨trivial, ?_⟩
    have h2 : x ∈ a.lst ++ b.lst := h.2
    rcases List.mem_append.mp h2 with h2 | h2
    · exact h2
    · have := wb.lst x h2; omega
  | y :: ys, x, hx, h => by
    obtain ⟨⟨h1, h2⟩, h3⟩ := h
    have h1' : (x, y) ∈ a.fol ++ b.fol := h1
    rcases List.mem_append.mp h1' with c | c
    · have r := par_left wa wb ys y (wa.fol x y c).2.2 ⟨h2, h3⟩
      exact ⟨⟨c, r.1⟩, r.2⟩
    · have := (wb.fol x y c).1; omega
theorem par_right {a b : Gl} {o n m : Nat} (wa : Within a o n) (wb : Within b (o + n) m) : ∀ (xs : List Nat) (x : Nat), o + n ≤ x → Sfx (a.par b) x xs → Sfx b x xs
  | [], x, hx, h => by
    refine ⟨trivial, ?_⟩
    have h2 : x ∈ a.lst ++ b.lst := h.2
    rcases List.mem_append.mp h2 with h2 | h2
    · have := wa.lst x h2; omega
    · exact h2
  | y :: ys, x, hx, h => by
    obtain ⟨⟨h1, h2⟩, h3⟩ := h
    have h1' : (x, y) ∈ a.fol ++ b.fol := h1
    rcases List.mem_append.mp h1' with c | c
    · have := (wa.fol x y c).1; omega
    · have r := par_right wa wb ys y (wb.fol x y c).2.1 ⟨h2, h3⟩
      exact ⟨⟨c, r.1⟩, r.2⟩
theorem acc_par {a b : Gl} {o n m : Nat} (wa : Within a o n) (wb : Within b (o + n) m) (ps : List Nat) : Acc (a.par b) ps ↔ Acc a ps ∨ Acc b ps := by
  cases ps with
  | nil =>
    show (a.nul || b.nul) = true ↔ _
    rw [Bool.or_eq_true]
    exact Iff.rfl
  | cons x xs =>
    constructor
    · rintro ⟨h1, h2⟩
      have h1' : x ∈ a.fst ++ b.fst := h1
      rcases List.mem_append.mp h1' with c | c
      · exact .inl ⟨c, par_left wa wb xs x (wa.fst x c).2 h2⟩
      · exact .inr ⟨c, par_right wa wb xs x (wb.fst x c).1 h2⟩
    · rintro (⟨h1, h2, h3⟩ | ⟨h1, h2, h3⟩)
      · exact ⟨List.mem_append_left _ h1, chn_mono (fun z hz => List.mem_append_left _ hz) xs x h2, List.mem_append_left _ h3⟩
      · exact ⟨List.mem_append_right _ h1, chn_mono (fun z hz => List.mem_append_right _ hz) xs x h2, List.mem_append_right _ h3⟩
/-! #### again and again -/
def Gl.rep (a : Gl) : Gl := ⟨true, a.fst, a.lst, a.fol ++ prodL a.lst a.fst⟩
theorem rep_sfx {a : Gl} : ∀ (xs : List Nat) (x : Nat), Sfx a.rep x xs → ∃ us vs, xs = us ++ vs ∧ Sfx a x us ∧ Star (Acc a) vs
  | [], x, h => ⟨[], [], rfl, ⟨trivial, h.2⟩, .nil⟩
  | y :: ys, x, h => by
    obtain ⟨⟨h1, h2⟩, h3⟩ := h
    obtain ⟨us, vs, e, r1, r2⟩ := rep_sfx ys y ⟨h2, h3⟩
    subst e
    have h1' : (x, y) ∈ a.fol ++ prodL a.lst a.fst := h1
    rcases List.mem_append.mp h1' with c | c
    · exact ⟨y :: us, vs, rfl, ⟨⟨c, r1.1⟩, r1.2⟩, r2⟩
    · obtain ⟨c1, c2⟩ := mem_prodL.mp c
      refine ⟨[], y :: (us ++ vs), rfl, ⟨trivial, c1⟩, ?_⟩
      have : Star (Acc a) ((y :: us) ++ vs) := .cons (u := y :: us) ⟨c2, r1⟩ (by simp) r2
      exact this
theorem rep_star {a : Gl} {ps : List Nat} (h : Star (Acc a) ps) : Acc a.rep ps := by
  induction h with
  | nil => rfl
  | @cons u v hu hn _ ih =>
    cases u with
    | nil => exact absurd rfl hn
    | cons x xs =>
      have ca := chn_mono (G := a.rep.fol) (fun z hz => List.mem_append_left _ hz) xs x hu.2.1
      cases v with
      | nil =>
        rw [List.append_nil]
        exact ⟨hu.1, ca, hu.2.2⟩
      | cons y ys =>
        refine ⟨hu.1, chn_app xs x y ys ca (List.mem_append_right _ (mem_prodL.mpr ⟨hu.2.2, ih.1⟩)) ih.2.1, ?_⟩
        show lastN x (xs ++ y :: ys) ∈ _
        rw [lastN_app]
        exact ih.2.2
theorem acc_rep (a : Gl) (ps : List Nat) : Acc a.rep ps ↔ Star (Acc a) ps := by
  refine ⟨fun h => ?_, rep_star⟩
  cases ps with
  | nil => exact .nil
  | cons x xs =>
    obtain ⟨us, vs, e, r1, r2⟩ := rep_sfx xs x h.2
    subst e
    exact .cons (u := x :: us) ⟨h.1, r1⟩ (by simp) r2
mutual
theorem acc_mp : ∀ (e : E) (o : Nat) (ps : List Nat), Acc (gl e o) ps ↔ MP e o ps
  | .eps, o, ps => by
    rw [gl, MP]
    cases ps with
    | nil => exact ⟨fun _ => rfl, fun _ => rfl⟩
    | cons x xs => exact ⟨fun h => (by cases h.1), fun h => by cases h⟩
  | .sym c, o, ps => by
    rw [gl, MP]
    cases ps with
    | nil => exact ⟨fun h => (by cases h), fun h => by cases h⟩
    | cons x xs =>
      constructor
      · rintro ⟨h1, h2, h3⟩
        have h1' := List.mem_singleton.mp h1
        subst h1'
        cases xs with
        | nil => rfl
        | cons y ys => exact absurd h2.1 (by intro c; cases c)
      · intro h
        cases h
        exact ⟨List.mem_singleton.mpr rfl, trivial, List.mem_singleton.mpr rfl⟩
  | .maybe e, o, ps => by
    have ih := acc_mp e o ps
    rw [gl, MP, ← ih]
    cases ps with
    | nil => exact ⟨fun _ => .inl rfl, fun _ => rfl⟩
    | cons x xs => exact ⟨fun h => .inr h, fun h => h.elim (fun c => by cases c) id⟩
  | .many e, o, ps => by
    have ih := acc_mp e o
    have e1 : Star (MP e o) ps ↔ Star (Acc (gl e o)) ps := ⟨Star.mono fun u h => (ih u).mpr h, Star.mono fun u h => (ih u).mp h⟩
    rw [MP, e1, ← acc_rep]
    exact Iff.rfl
  | .join es, o, ps => by
    rw [gl, MP]
    exact acc_mpJ es o ps
  | .alt es, o, ps => by
    rw [gl, MP]
    exact acc_mpA es o ps
theorem acc_mpJ : ∀ (es : List E) (o : Nat) (ps : List Nat), Acc (gl.glJ es o) ps ↔ MP.mpJ es o ps
  | [], o, ps => by
    rw [MP.mpJ]
    cases ps with
    | nil => exact ⟨fun _ => rfl, fun _ => rfl⟩
    | cons x xs => exact ⟨fun h => (by cases h.1), fun h => by cases h⟩
  | e :: es, o, ps => by
    rw [gl.glJ, MP.mpJ, acc_seq (gl_within e o) (glJ_within es (o + e.places))]
    exact exists_congr fun us => exists_congr fun vs => and_congr Iff.rfl (and_congr (acc_mp e o us) (acc_mpJ es _ vs))
theorem acc_mpA : ∀ (es : List E) (o : Nat) (ps : List Nat), Acc (gl.glA es o) ps ↔ MP.mpA es o ps
  | [], o, ps => by
    rw [MP.mpA]
    cases ps with
    | nil => exact ⟨fun h => (by cases h), fun h => h.elim⟩
    | cons x xs => exact ⟨fun h => (by cases h.1), fun h => h.elim⟩
  | e :: es, o, ps => by
    rw [gl.glA, MP.mpA, acc_par (gl_within e o) (glA_within es (o + e.places))]
    exact or_congr (acc_mp e o ps) (acc_mpA es _ ps)
end
/-! #### from places to letters -/
theorem map_split {α β : Type} {f : α → β} : ∀ {ps : List α} {u v : List β}, ps.map f = u ++ v → ∃ p1 p2, ps = p1 ++ p2 ∧ p1.map f = u ∧ p2.map f = v := by
  intro ps u v h
  exact ⟨ps.take u.length, ps.drop u.length, (List.take_append_drop ..).symm, by rw [List.map_take, h]; simp, by rw [List.map_drop, h]; simp⟩
theorem some_inj {u v : List Nat} (h : u.map some = v.map some) : u = v := by
  have := congrArg (List.map fun (o : Option Nat) => o.getD 0) h
  rw [List.map_map, List.map_map] at this
  have e : ((fun (o : Option Nat) => o.getD 0) ∘ some) = id := rfl
  rw [e, List.map_id, List.map_id] at this
  exact this
mutual
theorem mw_mp : ∀ (e : E) (o : Nat) (f : Nat → Option Nat), (∀ i, i < e.places → f (o + i) = e.letters[i]?) → ∀ w, MW e w ↔ ∃ ps, MP e o ps ∧ ps.map f = w.map some
  | .eps, o, f, hf, w => by
    rw [MW]
    constructor
    · rintro rfl
      exact ⟨[], rfl, rfl⟩
    · rintro ⟨ps, h, e⟩
      have h' : ps = [] := h
      subst h'
      cases w with
      | nil => rfl
      | cons c w => cases e
  | .sym c, o, f, hf, w => by
    have h0 := hf 0 (by rw [E.places]; exact Nat.one_pos)
    rw [Nat.add_zero] at h0
    have h0' : f o = some c := h0
    rw [MW]
    constructor
    · rintro rfl
      exact ⟨[o], rfl, by rw [List.map_singleton, List.map_singleton, h0']⟩
    · rintro ⟨ps, h, e⟩
      have h' : ps = [o] := h
      subst h'
      rw [List.map_singleton, h0'] at e
      exact (some_inj (u := [c]) e).symm
  | .maybe e, o, f, hf, w => by
    have ih := mw_mp e o f hf w
    rw [MW, ih]
    constructor
    · rintro (rfl | ⟨ps, h, e⟩)
      · exact ⟨[], .inl rfl, rfl⟩
      · exact ⟨ps, .inr h, e⟩
    · rintro ⟨ps, h | h, e⟩
      · subst h
        cases w with
        | nil => exact .inl rfl
        | cons c w => cases e
      · exact .inr ⟨ps, h, e⟩
  | .many e, o, f, hf, w => by
    have ih := mw_mp e o f hf
    rw [MW]
    constructor
    · intro h
      induction h with
      | nil => exact ⟨[], .nil, rfl⟩
      | cons h n _ ihv =>
        obtain ⟨p1, h1, e1⟩ := (ih _).mp h
        obtain ⟨p2, h2, e2⟩ := ihv
        refine ⟨p1 ++ p2, .cons h1 (fun c => n ?_) h2, by rw [List.map_append, List.map_append, e1, e2]⟩
        subst c
        exact some_inj e1.symm
    · rintro ⟨ps, h, e⟩
      have h' : Star (MP _ o) ps := h
      clear h
      induction h' generalizing w with
      | nil =>
        cases w with
        | nil => exact .nil
        | cons c w => cases e
      | @cons u v hu hn _ ihv =>
        rw [List.map_append] at e
        obtain ⟨w1, w2, rfl, e1, e2⟩ := map_split e.symm
        refine .cons ((ih _).mpr ⟨u, hu, e1.symm⟩) (fun c => hn ?_) (ihv w2 e2.symm)
        subst c
        cases u with
        | nil => rfl
        | cons x u => cases e1
  | .join es, o, f, hf, w => by
    rw [MW]
    exact mw_mpJ es o f hf w
  | .alt es, o, f, hf, w => by
    rw [MW]
    exact mw_mpA es o f hf w
theorem mw_mpJ : ∀ (es : List E) (o : Nat) (f : Nat → Option Nat), (∀ i, i < E.places.placess es → f (o + i) = (E.letters.letterss es)[i]?) → ∀ w, MW.mwJ es w ↔ ∃ ps, MP.mpJ es o ps ∧ ps.map f = w.map some
  | [], o, f, hf, w => by
    rw [MW.mwJ]
    constructor
    · rintro rfl
      exact ⟨[], rfl, rfl⟩
    · rintro ⟨ps, h, e⟩
      have h' : ps = [] := h
      subst h'
      cases w with
      | nil => rfl
      | cons c w => cases e
  | e :: es, o, f, hf, w => by
    have hl := letters_len e
    have i1 := mw_mp e o f (fun i hi => by
      rw [hf i (by rw [E.places.placess]; omega), E.letters.letterss, List.getElem?_append_left (by omega)])
    have i2 := mw_mpJ es (o + e.places) f (fun i hi => by
      rw [Nat.add_assoc, hf (e.places + i) (by rw [E.places.placess]; omega), E.letters.letterss, List.getElem?_append_right (by omega), hl, Nat.add_sub_cancel_left])
    rw [MW.mwJ]
    constructor
    · rintro ⟨us, vs, rfl, h1, h2⟩
      obtain ⟨p1, g1, e1⟩ := (i1 _).mp h1
      obtain ⟨p2, g2, e2⟩ := (i2 _).mp h2
      exact ⟨p1 ++ p2, ⟨p1, p2, rfl, g1, g2⟩, by rw [List.map_append, List.map_append, e1, e2]⟩
    · rintro ⟨ps, ⟨p1, p2, rfl, g1, g2⟩, ee⟩
      rw [List.map_append] at ee
      obtain ⟨w1, w2, rfl, e1, e2⟩ := map_split ee.symm
      exact ⟨w1, w2, rfl, (i1 _).mpr ⟨p1, g1, e1.symm⟩, (i2 _).mpr ⟨p2, g2, e2.symm⟩⟩
theorem mw_mpA : ∀ (es : List E) (o : Nat) (f : Nat → Option Nat), (∀ i, i < E.places.placess es → f (o + i) = (E.letters.letterss es)[i]?) → ∀ w, MW.mwA es w ↔ ∃ ps, MP.mpA es o ps ∧ ps.map f = w.map some
  | [], o, f, hf, w => by
    rw [MW.mwA]
    exact ⟨fun h => h.elim, fun ⟨_, h, _⟩ => h.elim⟩
  | e :: es, o, f, hf, w => by
    have hl := letters_len e
    have i1 := mw_mp e o f (fun i hi => by
      rw [hf i (by rw [E.places.placess]; omega), E.letters.letterss, List.getElem?_append_left (by omega)]) w
    have i2 := mw_mpA es (o + e.places) f (fun i hi => by
      rw [Nat.add_assoc, hf (e.places + i) (by rw [E.places.placess]; omega), E.letters.letterss, List.getElem?_append_right (by omega), hl, Nat.add_sub_cancel_left]) w
    rw [MW.mwA, i1, i2]
    constructor
    · rintro (⟨ps, h, e⟩ | ⟨ps, h, e⟩)
      · exact ⟨ps, .inl h, e⟩
      · exact ⟨ps, .inr h, e⟩
    · rintro ⟨ps, h | h, e⟩
      · exact .inl ⟨ps, h, e⟩
      · exact .inr ⟨ps, h, e⟩
end
/-- a word is right: some way through the places has its letters -/
theorem mw_acc (e : E) (w : List Nat) : MW e w ↔ ∃ ps, Acc (gl e 0) ps ∧ ps.map (fun p => e.letters[p]?) = w.map some := by
  rw [mw_mp e 0 (fun p => e.letters[p]?) (fun i _ => by rw [Nat.zero_add])]
  exact exists_congr fun ps => and_congr (acc_mp e 0 ps).symm Iff.rfl
end My
namespace My
open PySem PySem.Spec PyProof.Rows L2
def keysD (ms : List Int) : List (Key × V) := ms.map fun x => (Sum.inl x, V.bl true)
theorem putK_keys (ms : List Int) (x : Int) : putK (keysD ms) (Sum.inl x : Key) (V.bl true) = keysD (if x ∈ ms then ms else ms ++ [x]) := by
  unfold putK keysD
  have e1 : ((ms.map fun x => ((Sum.inl x : Key), V.bl true)).any fun kv => decide (kv.1 = Sum.inl x)) = decide (x ∈ ms) := by
    induction ms with
    | nil => simp
    | cons m ms ih =>
      rw [List.map_cons, List.any_cons, ih]
      by_cases c : m = x
      · subst c
        simp
      · have : ¬ ((Sum.inl m : Key) = Sum.inl x) := fun h => c (Sum.inl.inj h)
        rw [decide_eq_false this, Bool.false_or]
        by_cases d : x ∈ ms
        · rw [decide_eq_true d, decide_eq_true (List.mem_cons_of_mem _ d)]
        · rw [decide_eq_false d, decide_eq_false]
          intro h
          rcases List.mem_cons.mp h with h | h
          · exact c h.symm
          · exact d h
  rw [e1]
  by_cases c : x ∈ ms
  · rw [if_pos (decide_eq_true c), if_pos c, List.map_map]
    refine List.map_congr_left fun y _ => ?_
    show (if (Sum.inl y : Key) = Sum.inl x then ((Sum.inl y : Key), V.bl true) else ((Sum.inl y : Key), V.bl true)) = _
    split <;> rfl
  · rw [if_neg (by rw [decide_eq_false c]; exact Bool.false_ne_true), if_neg c, List.map_append]
    rfl
theorem keysD_vals (ms : List Int) : (keysD ms).map (fun kv => kV kv.1) = ms.map V.int := by
  unfold keysD
  rw [List.map_map]
  rfl
theorem keysD_len (ms : List Int) : (keysD ms).length = ms.length := List.length_map _
/-- a new key beside the others, once -/
def addK (ms : List Int) (x : Int) : List Int := if x ∈ ms then ms else ms ++ [x]
theorem mem_addK {ms : List Int} {x y : Int} : y ∈ addK ms x ↔ y ∈ ms ∨ y = x := by
  unfold addK
  split
  · rename_i h
    constructor
    · exact .inl
    · rintro (c | rfl)
      · exact c
      · exact h
  · rw [List.mem_append, List.mem_singleton]
theorem nodup_addK {ms : List Int} {x : Int} (h : ms.Nodup) : (addK ms x).Nodup := by
  unfold addK
  split
  · exact h
  · rename_i c
    rw [List.nodup_append]
    exact ⟨h, by simp, fun a ha b hb e => c (by rw [List.mem_singleton] at hb; rw [← hb, ← e]; exact ha)⟩
theorem len_addK (ms : List Int) (x : Int) : (addK ms x).length ≤ ms.length + 1 := by
  unfold addK
  split
  · omega
  · rw [List.length_append]; exact Nat.le_refl _
theorem nodup_len : ∀ (n : Nat) (l : List Int), l.Nodup → (∀ x ∈ l, 0 ≤ x ∧ x < n) → l.length ≤ n
  | 0, l, _, h => by
    cases l with
    | nil => exact Nat.le_refl _
    | cons x l =>
      have := h x (List.mem_cons_self ..)
      omega
  | n + 1, l, hd, h => by
    by_cases c : (n : Int) ∈ l
    · have h1 := nodup_len n (l.erase (n : Int)) (hd.erase _) fun x hx => by
        have h2 := h x (List.mem_of_mem_erase hx)
        have h3 : x ≠ (n : Int) := fun e => by
          rw [e] at hx
          exact (List.Nodup.not_mem_erase hd) hx
        omega
      have h4 := List.length_erase_of_mem c
      omega
    · have h1 := nodup_len n l hd fun x hx => by
        have h2 := h x hx
        have h3 : x ≠ (n : Int) := fun e => c (e ▸ hx)
        omega
      omega
theorem take_snoc {α : Type} {l : List α} {i : Nat} {x : α} (h : l[i]? = some x) : l.take (i + 1) = l.take i ++ [x] := by
  rw [List.take_add_one, h]
  rfl
end My
namespace My
open PySem PySem.Spec PyProof.Rows L2
/-! ### words, listed -/
theorem str_ext {a b : Str} (h : a.cps.toList = b.cps.toList) : a = b := by
  obtain ⟨⟨x⟩⟩ := a
  obtain ⟨⟨y⟩⟩ := b
  have e : x = y := h
  rw [e]
theorem cps_app (a b : Str) : (a ++ b).cps.toList = a.cps.toList ++ b.cps.toList := by
  show (a.cps ++ b.cps).toList = _
  simp
theorem len_app (a b : Str) : (a ++ b).length = a.length + b.length := by
  show (a.cps ++ b.cps).size = _
  rw [Array.size_append]
  rfl
theorem len_cps (z : Str) : z.length = z.cps.toList.length := Array.length_toList.symm
theorem cps_no : sNo.cps.toList = [] := by decide +kernel
theorem no_of_cps {z : Str} (h : z.cps.toList = []) : z = sNo := str_ext (h.trans cps_no.symm)
theorem len_no : sNo.length = 0 := by decide +kernel
/-- at most so many words, snoc by snoc -/
def Pw (L : List Nat → Prop) : Nat → List Nat → Prop
  | 0, w => w = []
  | n + 1, w => Pw L n w ∨ ∃ u v, w = u ++ v ∧ Pw L n u ∧ L v
theorem Pw.up {L : List Nat → Prop} {n : Nat} {w : List Nat} (h : Pw L n w) : ∀ k, Pw L (n + k) w
  | 0 => h
  | k + 1 => .inl (Pw.up h k)
theorem Pw.le {L : List Nat → Prop} {n m : Nat} {w : List Nat} (h : Pw L n w) (l : n ≤ m) : Pw L m w := by
  have := h.up (m - n)
  rw [show n + (m - n) = m by omega] at this
  exact this
theorem Pw.cons {L : List Nat → Prop} {u : List Nat} (hu : L u) : ∀ (n : Nat) (w : List Nat), Pw L n w → Pw L (n + 1) (u ++ w)
  | 0, w, h => by
    have h' : w = [] := h
    subst h'
    exact .inr ⟨[], u, by simp, rfl, hu⟩
  | n + 1, w, h => by
    rcases h with h | ⟨a, b, rfl, h1, h2⟩
    · exact .inl (Pw.cons hu n w h)
    · exact .inr ⟨u ++ a, b, by simp, Pw.cons hu n a h1, h2⟩
theorem star_snoc {L : List Nat → Prop} {u v : List Nat} (h : Star L u) (hv : L v) : Star L (u ++ v) := by
  induction h with
  | nil =>
    by_cases c : v = []
    · subst c
      exact .nil
    · have : Star L (v ++ []) := .cons hv c .nil
      rw [List.append_nil] at this
      exact this
  | cons h n _ ih =>
    rw [List.append_assoc]
    exact .cons h n ih
theorem star_pw {L : List Nat → Prop} {w : List Nat} (h : Star L w) : Pw L w.length w := by
  induction h with
  | nil => rfl
  | @cons u v h n _ ih =>
    have : 0 < u.length := List.length_pos_iff.mpr n
    refine (Pw.cons h _ v ih).le ?_
    rw [List.length_append]
    omega
theorem pw_star {L : List Nat → Prop} : ∀ (n : Nat) (w : List Nat), Pw L n w → Star L w
  | 0, w, h => by
    have h' : w = [] := h
    subst h'
    exact .nil
  | n + 1, w, h => by
    rcases h with h | ⟨a, b, rfl, h1, h2⟩
    · exact pw_star n w h
    · exact star_snoc (pw_star n a h1) h2
theorem star_iff {L : List Nat → Prop} {w : List Nat} {n : Nat} (h : w.length ≤ n) : Star L w ↔ Pw L n w := ⟨fun s => (star_pw s).le h, pw_star n w⟩
theorem mwJ_snoc (e : E) : ∀ (es : List E) (w : List Nat), MW.mwJ (es ++ [e]) w ↔ ∃ u v, w = u ++ v ∧ MW.mwJ es u ∧ MW e v
  | [], w => by
    show (∃ us vs, w = us ++ vs ∧ MW e us ∧ vs = []) ↔ ∃ u v, w = u ++ v ∧ u = [] ∧ MW e v
    constructor
    · rintro ⟨us, vs, rfl, h, rfl⟩
      exact ⟨[], us, by simp, rfl, h⟩
    · rintro ⟨u, v, rfl, rfl, h⟩
      exact ⟨v, [], by simp, h, rfl⟩
  | k :: es, w => by
    show (∃ us vs, w = us ++ vs ∧ MW k us ∧ MW.mwJ (es ++ [e]) vs) ↔ ∃ u v, w = u ++ v ∧ (∃ us vs, u = us ++ vs ∧ MW k us ∧ MW.mwJ es vs) ∧ MW e v
    constructor
    · rintro ⟨us, vs, rfl, h, g⟩
      obtain ⟨x, y, rfl, h1, h2⟩ := (mwJ_snoc e es vs).mp g
      exact ⟨us ++ x, y, by simp, ⟨us, x, rfl, h, h1⟩, h2⟩
    · rintro ⟨u, v, rfl, ⟨us, vs, rfl, h, g⟩, h2⟩
      exact ⟨us, vs ++ v, by simp, h, (mwJ_snoc e es _).mpr ⟨vs, v, rfl, g, h2⟩⟩
theorem mwA_iff : ∀ (es : List E) (w : List Nat), MW.mwA es w ↔ ∃ e ∈ es, MW e w
  | [], w => ⟨fun h => h.elim, fun ⟨_, h, _⟩ => by cases h⟩
  | k :: es, w => by
    show (MW k w ∨ MW.mwA es w) ↔ _
    rw [mwA_iff es w]
    simp
/-! #### the letters of right words -/
mutual
theorem mw_lets : ∀ (e : E), e.ok = true → ∀ w, MW e w → ∀ c ∈ w, c ∈ e.letters ∧ 97 ≤ c ∧ c ≤ 100
  | .eps, _, w, h, c, hc => by
    rw [MW] at h
    subst h
    cases hc
  | .sym d, ho, w, h, c, hc => by
    rw [MW] at h
    subst h
    rw [List.mem_singleton] at hc
    subst hc
    rw [E.ok] at ho
    simp only [Bool.and_eq_true, decide_eq_true_eq] at ho
    exact ⟨List.mem_singleton.mpr rfl, ho⟩
  | .maybe e, ho, w, h, c, hc => by
    rw [MW] at h
    rcases h with rfl | h
    · cases hc
    · exact mw_lets e (by rw [E.ok] at ho; exact ho) w h c hc
  | .many e, ho, w, h, c, hc => by
    rw [MW] at h
    have ih := mw_lets e (by rw [E.ok] at ho; exact ho)
    induction h with
    | nil => cases hc
    | cons h n _ ih2 =>
      rcases List.mem_append.mp hc with hc | hc
      · exact ih _ h c hc
      · exact ih2 hc
  | .join es, ho, w, h, c, hc => by
    rw [MW] at h
    rw [E.ok, oks_eq] at ho
    simp only [Bool.and_eq_true] at ho
    exact mw_letsJ es ho.1.2 w h c hc
  | .alt es, ho, w, h, c, hc => by
    rw [MW] at h
    rw [E.ok, oks_eq] at ho
    simp only [Bool.and_eq_true] at ho
    exact mw_letsA es ho.1.2 w h c hc
theorem mw_letsJ : ∀ (es : List E), es.all E.ok = true → ∀ w, MW.mwJ es w → ∀ c ∈ w, c ∈ E.letters.letterss es ∧ 97 ≤ c ∧ c ≤ 100
  | [], _, w, h, c, hc => by
    rw [MW.mwJ] at h
    subst h
    cases hc
  | e :: es, ho, w, h, c, hc => by
    rw [List.all_cons, Bool.and_eq_true] at ho
    obtain ⟨u, v, rfl, h1, h2⟩ := h
    rw [E.letters.letterss, List.mem_append]
    rcases List.mem_append.mp hc with hc | hc
    · have := mw_lets e ho.1 u h1 c hc
      exact ⟨.inl this.1, this.2⟩
    · have := mw_letsJ es ho.2 v h2 c hc
      exact ⟨.inr this.1, this.2⟩
theorem mw_letsA : ∀ (es : List E), es.all E.ok = true → ∀ w, MW.mwA es w → ∀ c ∈ w, c ∈ E.letters.letterss es ∧ 97 ≤ c ∧ c ≤ 100
  | [], _, w, h, c, hc => h.elim
  | e :: es, ho, w, h, c, hc => by
    rw [List.all_cons, Bool.and_eq_true] at ho
    rw [E.letters.letterss, List.mem_append]
    rcases h with h | h
    · have := mw_lets e ho.1 w h c hc
      exact ⟨.inl this.1, this.2⟩
    · have := mw_letsA es ho.2 w h c hc
      exact ⟨.inr this.1, this.2⟩
end
/-! #### how many words there are -/
def codeW : List Nat → Nat
  | [] => 0
  | c :: w => (c - 96) + 5 * codeW w
theorem codeW_lt : ∀ (w : List Nat), (∀ c ∈ w, 97 ≤ c ∧ c ≤ 100) → codeW w < 5 ^ w.length
  | [], _ => by show 0 < 1; omega
  | c :: w, h => by
    have := codeW_lt w fun x hx => h x (List.mem_cons_of_mem _ hx)
    have := h c (List.mem_cons_self ..)
    show (c - 96) + 5 * codeW w < 5 ^ (w.length + 1)
    rw [Nat.pow_succ]
    omega
theorem codeW_inj : ∀ (u w : List Nat), (∀ c ∈ u, 97 ≤ c ∧ c ≤ 100) → (∀ c ∈ w, 97 ≤ c ∧ c ≤ 100) → codeW u = codeW w → u = w
  | [], [], _, _, _ => rfl
  | [], c :: w, _, h, e => by
    have := h c (List.mem_cons_self ..)
    have e' : 0 = (c - 96) + 5 * codeW w := e
    omega
  | c :: u, [], h, _, e => by
    have := h c (List.mem_cons_self ..)
    have e' : (c - 96) + 5 * codeW u = 0 := e
    omega
  | c :: u, d :: w, h, g, e => by
    have h1 := h c (List.mem_cons_self ..)
    have g1 := g d (List.mem_cons_self ..)
    have e' : (c - 96) + 5 * codeW u = (d - 96) + 5 * codeW w := e
    have e2 : codeW u = codeW w := by omega
    have e3 : c = d := by omega
    rw [e3, codeW_inj u w (fun x hx => h x (List.mem_cons_of_mem _ hx)) (fun x hx => g x (List.mem_cons_of_mem _ hx)) e2]
def LetW (z : Str) : Prop := ∀ c ∈ z.cps.toList, 97 ≤ c ∧ c ≤ 100
theorem words_len {ms : List Str} (nd : ms.Nodup) (hl : ∀ z ∈ ms, z.length ≤ 5) (hc : ∀ z ∈ ms, LetW z) : ms.length ≤ 3125 := by
  have h := nodup_len 3125 (ms.map fun z => ((codeW z.cps.toList : Nat) : Int)) ?_ ?_
  · rw [List.length_map] at h
    exact h
  · refine (List.pairwise_map.mpr (List.Pairwise.imp_of_mem (fun {a b} ha hb hab e => hab ?_) nd))
    have e' : codeW a.cps.toList = codeW b.cps.toList := by exact_mod_cast e
    exact str_ext (codeW_inj _ _ (hc a ha) (hc b hb) e')
  · intro x hx
    obtain ⟨z, hz, rfl⟩ := List.mem_map.mp hx
    have h1 := codeW_lt _ (hc z hz)
    have h2 := hl z hz
    rw [len_cps] at h2
    have h3 : 5 ^ z.cps.toList.length ≤ 5 ^ 5 := Nat.pow_le_pow_right (by decide) h2
    constructor
    · exact Int.ofNat_nonneg _
    · have : codeW z.cps.toList < 3125 := Nat.lt_of_lt_of_le h1 h3
      exact_mod_cast this
/-- the right words of at most so many letters, each once -/
structure WordsOf (L : List Nat → Prop) (most : Nat) (ms : List Str) : Prop where
  nd : ms.Nodup
  mem : ∀ x, x ∈ ms ↔ x.length ≤ most ∧ L x.cps.toList
theorem WordsOf.len {L : List Nat → Prop} {most : Nat} {ms : List Str} (h : WordsOf L most ms) (hm : most ≤ 5) (hL : ∀ w, L w → ∀ c ∈ w, 97 ≤ c ∧ c ≤ 100) : ms.length ≤ 3125 :=
  words_len h.nd (fun z hz => Nat.le_trans ((h.mem z).mp hz).1 hm) fun z hz => hL _ ((h.mem z).mp hz).2
def addA {α : Type} [DecidableEq α] (ms : List α) (x : α) : List α := if x ∈ ms then ms else ms ++ [x]
theorem mem_addA {α : Type} [DecidableEq α] {ms : List α} {x y : α} : y ∈ addA ms x ↔ y ∈ ms ∨ y = x := by
  unfold addA
  split
  · rename_i h
    constructor
    · exact .inl
    · rintro (c | rfl)
      · exact c
      · exact h
  · rw [List.mem_append, List.mem_singleton]
theorem nodup_addA {α : Type} [DecidableEq α] {ms : List α} {x : α} (h : ms.Nodup) : (addA ms x).Nodup := by
  unfold addA
  split
  · exact h
  · rename_i c
    rw [List.nodup_append]
    exact ⟨h, by simp, fun a ha b hb e => c (by rw [List.mem_singleton] at hb; rw [← hb, ← e]; exact ha)⟩
theorem len_addA {α : Type} [DecidableEq α] (ms : List α) (x : α) : (addA ms x).length ≤ ms.length + 1 := by
  unfold addA
  split
  · omega
  · rw [List.length_append]; exact Nat.le_refl _
def keysS (ms : List Str) : List (Key × V) := ms.map fun x => (Sum.inr x, V.bl true)
theorem putK_keysS (ms : List Str) (x : Str) : putK (keysS ms) (Sum.inr x : Key) (V.bl true) = keysS (addA ms x) := by
  unfold putK keysS addA
  have e1 : ((ms.map fun x => ((Sum.inr x : Key), V.bl true)).any fun kv => decide (kv.1 = Sum.inr x)) = decide (x ∈ ms) := by
    induction ms with
    | nil => simp
    | cons m ms ih =>
      rw [List.map_cons, List.any_cons, ih]
      by_cases c : m = x
      · subst c
        simp
      · have : ¬ ((Sum.inr m : Key) = Sum.inr x) := fun h => c (Sum.inr.inj h)
        rw [decide_eq_false this, Bool.false_or]
        by_cases d : x ∈ ms
        · rw [decide_eq_true d, decide_eq_true (List.mem_cons_of_mem _ d)]
        · rw [decide_eq_false d, decide_eq_false]
          intro h
          rcases List.mem_cons.mp h with h | h
          · exact c h.symm
          · exact d h
  rw [e1]
  by_cases c : x ∈ ms
  · rw [if_pos (decide_eq_true c), if_pos c, List.map_map]
    refine List.map_congr_left fun y _ => ?_
    show (if (Sum.inr y : Key) = Sum.inr x then ((Sum.inr y : Key), V.bl true) else ((Sum.inr y : Key), V.bl true)) = _
    split <;> rfl
  · rw [if_neg (by rw [decide_eq_false c]; exact Bool.false_ne_true), if_neg c, List.map_append]
    rfl
theorem keysS_vals (ms : List Str) : (keysS ms).map (fun kv => kV kv.1) = ms.map V.str := by
  unfold keysS
  rw [List.map_map]
  rfl
theorem keysS_len (ms : List Str) : (keysS ms).length = ms.length := List.length_map _
end My
namespace My
open PySem PySem.Spec PyProof.Rows L2
/-! ### numbers by first occurrence -/
section
variable {α β : Type} [DecidableEq α] [DecidableEq β]
def firstsL (ks : List α) : List α := ks.foldl addA []
theorem firstsL_snoc (ks : List α) (k : α) : firstsL (ks ++ [k]) = addA (firstsL ks) k := by
  unfold firstsL
  rw [List.foldl_append]
  rfl
theorem mem_firstsL : ∀ (ks : List α) (x : α), x ∈ firstsL ks ↔ x ∈ ks := by
  have key : ∀ (ks acc : List α) (x : α), x ∈ ks.foldl addA acc ↔ x ∈ acc ∨ x ∈ ks := by
    intro ks
    induction ks with
    | nil => intro acc x; simp
    | cons k ks ih =>
      intro acc x
      rw [List.foldl_cons, ih, mem_addA, List.mem_cons, or_assoc]
  intro ks x
  rw [firstsL, key]
  simp
theorem nodup_firstsL (ks : List α) : (firstsL ks).Nodup := by
  have key : ∀ (ks acc : List α), acc.Nodup → (ks.foldl addA acc).Nodup := by
    intro ks
    induction ks with
    | nil => exact fun acc h => h
    | cons k ks ih => exact fun acc h => ih _ (nodup_addA h)
  exact key ks [] List.nodup_nil
theorem firstsL_len (ks : List α) : (firstsL ks).length ≤ ks.length := by
  have key : ∀ (ks acc : List α), (ks.foldl addA acc).length ≤ acc.length + ks.length := by
    intro ks
    induction ks with
    | nil => exact fun acc => Nat.le_refl _
    | cons k ks ih =>
      intro acc
      have h1 := ih (addA acc k)
      have h2 := len_addA acc k
      rw [List.foldl_cons, List.length_cons]
      omega
  have := key ks []
  rw [List.length_nil, Nat.zero_add] at this
  exact this
theorem firstsL_pre (ks : List α) : ∀ ls : List α, ∃ r, firstsL (ks ++ ls) = firstsL ks ++ r := by
  have key : ∀ (ls acc : List α), ∃ r, ls.foldl addA acc = acc ++ r := by
    intro ls
    induction ls with
    | nil => exact fun acc => ⟨[], (List.append_nil acc).symm⟩
    | cons l ls ih =>
      intro acc
      obtain ⟨r, hr⟩ := ih (addA acc l)
      rw [List.foldl_cons, hr]
      unfold addA
      split
      · exact ⟨r, rfl⟩
      · exact ⟨[l] ++ r, List.append_assoc ..⟩
  intro ls
  unfold firstsL
  rw [List.foldl_append]
  exact key ls _
theorem idxOf_append_mem {xs r : List α} {x : α} (h : x ∈ xs) : (xs ++ r).idxOf x = xs.idxOf x := by
  rw [List.idxOf_append, if_pos h]
theorem idx_pre {ks ls : List α} {x : α} (h : x ∈ ks) : (firstsL (ks ++ ls)).idxOf x = (firstsL ks).idxOf x := by
  obtain ⟨r, hr⟩ := firstsL_pre ks ls
  rw [hr, idxOf_append_mem ((mem_firstsL ks x).mpr h)]
/-- the number of each of the keys -/
def numL (ks : List α) : List Nat := ks.map fun k => (firstsL ks).idxOf k
theorem numL_len (ks : List α) : (numL ks).length = ks.length := List.length_map _
theorem numL_get {ks : List α} {i : Nat} {k : α} (h : ks[i]? = some k) : (numL ks)[i]? = some ((firstsL ks).idxOf k) := by
  unfold numL
  rw [List.getElem?_map, h]
  rfl
theorem numL_get_of {ks : List α} {i m : Nat} (h : (numL ks)[i]? = some m) : ∃ k, ks[i]? = some k ∧ m = (firstsL ks).idxOf k := by
  unfold numL at h
  rw [List.getElem?_map] at h
  obtain ⟨k, h1, h2⟩ := Option.map_eq_some_iff.mp h
  exact ⟨k, h1, h2.symm⟩
theorem idx_inj {xs : List α} {x y : α} (hx : x ∈ xs) (hy : y ∈ xs) (h : xs.idxOf x = xs.idxOf y) : x = y := by
  have h1 := List.getElem_idxOf (List.idxOf_lt_length_of_mem hx)
  have h2 := List.getElem_idxOf (List.idxOf_lt_length_of_mem hy)
  rw [← h1, ← h2]
  congr 1
theorem numL_iff {ks : List α} {i j : Nat} {k l : α} {m n : Nat} (hi : ks[i]? = some k) (hj : ks[j]? = some l) (hm : (numL ks)[i]? = some m) (hn : (numL ks)[j]? = some n) : m = n ↔ k = l := by
  have e1 := Option.some.inj (hm.symm.trans (numL_get hi))
  have e2 := Option.some.inj (hn.symm.trans (numL_get hj))
  rw [e1, e2]
  exact ⟨fun h => idx_inj ((mem_firstsL _ _).mpr (List.mem_of_getElem? hi)) ((mem_firstsL _ _).mpr (List.mem_of_getElem? hj)) h, fun h => by rw [h]⟩
/-- each number comes behind all that are less -/
def RG (a : List Nat) : Prop := ∀ (i m : Nat), a[i]? = some m → ∀ m' < m, ∃ i' < i, a[i']? = some m'
theorem numL_rg (ks : List α) : RG (numL ks) := by
  have key : ∀ (n i : Nat), i ≤ n → ∀ m, (numL ks)[i]? = some m → ∀ m' < m, ∃ i' < i, (numL ks)[i']? = some m' := by
    intro n
    induction n with
    | zero =>
      intro i hi m hm m' hlt
      obtain ⟨k, hk, e⟩ := numL_get_of hm
      have i0 : i = 0 := by omega
      subst i0
      match ks, hk with
      | x :: r, hk =>
        obtain rfl : x = k := Option.some.inj hk
        obtain ⟨r', hr⟩ := firstsL_pre [x] r
        have hr : firstsL (x :: r) = x :: r' := hr
        rw [hr, List.idxOf_cons_self] at e
        omega
    | succ n ih =>
      intro i hi m hm m' hlt
      by_cases c : i ≤ n
      · exact ih i c m hm m' hlt
      · have ie : i = n + 1 := by omega
        subst ie
        obtain ⟨k, hk, e⟩ := numL_get_of hm
        have hkl := (List.getElem?_eq_some_iff.mp hk).1
        have split : ks = ks.take (n + 1) ++ ks.drop (n + 1) := (List.take_append_drop _ _).symm
        by_cases hin : k ∈ ks.take (n + 1)
        · obtain ⟨j, hj⟩ := List.mem_iff_getElem?.mp hin
          have hjl := (List.getElem?_eq_some_iff.mp hj).1
          rw [List.length_take] at hjl
          rw [List.getElem?_take_of_lt (by omega)] at hj
          obtain ⟨i', h1, h2⟩ := ih j (by omega) m (by rw [numL_get hj, e]) m' hlt
          exact ⟨i', by omega, h2⟩
        · have hd : ks.drop (n + 1) = k :: ks.drop (n + 2) := by
            rw [List.drop_eq_getElem_cons hkl]
            congr 1
            exact (List.getElem?_eq_some_iff.mp hk).2
          have hF : firstsL (ks.take (n + 1) ++ [k]) = firstsL (ks.take (n + 1)) ++ [k] := by
            rw [firstsL_snoc]
            unfold addA
            rw [if_neg fun h => hin ((mem_firstsL _ _).mp h)]
          obtain ⟨r, hr⟩ := firstsL_pre (ks.take (n + 1) ++ [k]) (ks.drop (n + 2))
          have hks : ks.take (n + 1) ++ [k] ++ ks.drop (n + 2) = ks := by
            rw [List.append_assoc, List.singleton_append, ← hd]
            exact List.take_append_drop _ _
          rw [hks, hF] at hr
          have em : m = (firstsL (ks.take (n + 1))).length := by
            rw [e, hr, List.append_assoc, List.idxOf_append, if_neg fun h => hin ((mem_firstsL _ _).mp h), List.singleton_append, List.idxOf_cons_self]
            omega
          have hm'l : m' < (firstsL (ks.take (n + 1))).length := by omega
          have hy : (firstsL (ks.take (n + 1)))[m'] ∈ ks.take (n + 1) := (mem_firstsL _ _).mp (List.getElem_mem hm'l)
          obtain ⟨j, hj⟩ := List.mem_iff_getElem?.mp hy
          have hjl := (List.getElem?_eq_some_iff.mp hj).1
          rw [List.length_take] at hjl
          rw [List.getElem?_take_of_lt (by omega)] at hj
          refine ⟨j, by omega, ?_⟩
          rw [numL_get hj, hr, List.append_assoc, idxOf_append_mem (List.getElem_mem hm'l)]
          congr 1
          exact List.Nodup.idxOf_getElem (nodup_firstsL _) _ hm'l
  exact fun i m hm m' hlt => key i i (Nat.le_refl _) m hm m' hlt
/-- two such lists with the same partition are the same -/
theorem rg_eq {a b : List Nat} (ra : RG a) (rb : RG b) (l : a.length = b.length) (h : ∀ (i j m m' n n' : Nat), a[i]? = some m → a[j]? = some m' → b[i]? = some n → b[j]? = some n' → (m = m' ↔ n = n')) : a = b := by
  have key : ∀ i : Nat, a[i]? = b[i]? := by
    intro i
    induction i using Nat.strongRecOn with
    | ind i ih =>
      by_cases hi : i < a.length
      · have ha : a[i]? = some a[i] := List.getElem?_eq_getElem hi
        have hb : b[i]? = some b[i] := List.getElem?_eq_getElem (by omega)
        generalize a[i] = x at ha
        generalize b[i] = y at hb
        rw [ha, hb]
        congr 1
        rcases Nat.lt_trichotomy x y with c | c | c
        · obtain ⟨j, hj, hbj⟩ := rb i y hb x c
          have haj := (ih j hj).trans hbj
          have := (h i j x x y x ha haj hb hbj).mp rfl
          omega
        · exact c
        · obtain ⟨j, hj, haj⟩ := ra i x ha y c
          have hbj := (ih j hj).symm.trans haj
          have := (h i j x y y y ha haj hb hbj).mpr rfl
          omega
      · rw [List.getElem?_eq_none (by omega), List.getElem?_eq_none (by omega)]
  exact List.ext_getElem? key
/-- how many pairs have the same number -/
def sameP (a : List Nat) : Nat := ((List.range a.length).map fun (i : Nat) => (List.range a.length).countP fun (j : Nat) => decide (a[i]? = a[j]?)).sum
theorem sum_le_map {γ : Type} {f g : γ → Nat} : ∀ {l : List γ}, (∀ x ∈ l, f x ≤ g x) → (l.map f).sum ≤ (l.map g).sum
  | [], _ => Nat.le_refl _
  | x :: l, h => by
    have h1 := h x (List.mem_cons_self ..)
    have h2 := sum_le_map (l := l) fun y hy => h y (List.mem_cons_of_mem _ hy)
    rw [List.map_cons, List.sum_cons, List.map_cons, List.sum_cons]
    omega
theorem sum_lt_map {γ : Type} {f g : γ → Nat} {y : γ} : ∀ {l : List γ}, (∀ x ∈ l, f x ≤ g x) → y ∈ l → f y < g y → (l.map f).sum < (l.map g).sum
  | x :: l, h, hy, hlt => by
    have h1 := h x (List.mem_cons_self ..)
    rw [List.map_cons, List.sum_cons, List.map_cons, List.sum_cons]
    rcases List.mem_cons.mp hy with rfl | hy
    · have h2 := sum_le_map (l := l) fun z hz => h z (List.mem_cons_of_mem _ hz)
      omega
    · have h2 := sum_lt_map (l := l) (fun z hz => h z (List.mem_cons_of_mem _ hz)) hy hlt
      omega
theorem countP_lt {γ : Type} {p q : γ → Bool} {y : γ} : ∀ {l : List γ}, (∀ x ∈ l, p x = true → q x = true) → y ∈ l → p y = false → q y = true → l.countP p < l.countP q
  | x :: l, h, hy, hp, hq => by
    rw [List.countP_cons, List.countP_cons]
    have hx := h x (List.mem_cons_self ..)
    rcases List.mem_cons.mp hy with rfl | hy
    · have h2 := List.countP_mono_left (l := l) (p := p) (q := q) fun z hz => h z (List.mem_cons_of_mem _ hz)
      rw [hp, hq]
      simp
      omega
    · have h2 := countP_lt (l := l) (fun z hz => h z (List.mem_cons_of_mem _ hz)) hy hp hq
      cases hpx : p x
      · cases hqx : q x <;> simp <;> omega
      · rw [hx hpx]
        simp
        omega
theorem sameP_lt {a b : List Nat} (ra : RG a) (rb : RG b) (l : a.length = b.length) (h : ∀ i j : Nat, i < a.length → j < a.length → b[i]? = b[j]? → a[i]? = a[j]?) (ne : b ≠ a) : sameP b < sameP a := by
  have hex : ∃ i j : Nat, i < a.length ∧ j < a.length ∧ a[i]? = a[j]? ∧ ¬ b[i]? = b[j]? := by
    refine Classical.byContradiction fun c => ne ?_
    refine (rg_eq ra rb l fun i j m m' n n' h1 h2 h3 h4 => ?_).symm
    have hi := (List.getElem?_eq_some_iff.mp h1).1
    have hj := (List.getElem?_eq_some_iff.mp h2).1
    constructor
    · intro e
      have e1 : a[i]? = a[j]? := by rw [h1, h2, e]
      have e2 : b[i]? = b[j]? := Classical.byContradiction fun d => c ⟨i, j, hi, hj, e1, d⟩
      rw [h3, h4] at e2
      exact Option.some.inj e2
    · intro e
      have e2 : b[i]? = b[j]? := by rw [h3, h4, e]
      have e1 := h i j hi hj e2
      rw [h1, h2] at e1
      exact Option.some.inj e1
  obtain ⟨i, j, hi, hj, ha, hb⟩ := hex
  unfold sameP
  rw [← l]
  refine sum_lt_map (y := i) (fun x hx => List.countP_mono_left fun y hy c => ?_) (List.mem_range.mpr hi) (countP_lt (y := j) (fun y hy c => ?_) (List.mem_range.mpr hj) (decide_eq_false hb) (decide_eq_true ha))
  · exact decide_eq_true (h x y (List.mem_range.mp hx) (List.mem_range.mp hy) (of_decide_eq_true c))
  · exact decide_eq_true (h i y hi (List.mem_range.mp hy) (of_decide_eq_true c))
end
end My
namespace My
open PySem PySem.Spec PyProof.Rows L2
/-! ### turned and renamed -/
def turnE : E → E
  | .eps => .eps
  | .sym c => .sym c
  | .maybe e => .maybe (turnE e)
  | .many e => .many (turnE e)
  | .join es => .join (turns es)
  | .alt es => .alt (turns es)
where turns : List E → List E
  | [] => []
  | e :: es => turns es ++ [turnE e]
theorem turns_eq (es : List E) : turnE.turns es = (es.map turnE).reverse := by
  induction es with
  | nil => rfl
  | cons e es ih => rw [turnE.turns, ih, List.map_cons, List.reverse_cons]
def renE (f : Nat → Nat) : E → E
  | .eps => .eps
  | .sym c => .sym (f c)
  | .maybe e => .maybe (renE f e)
  | .many e => .many (renE f e)
  | .join es => .join (rens es)
  | .alt es => .alt (rens es)
where rens : List E → List E
  | [] => []
  | e :: es => renE f e :: rens es
theorem rens_eq (f : Nat → Nat) (es : List E) : renE.rens f es = es.map (renE f) := by
  induction es with
  | nil => rfl
  | cons e es ih => rw [renE.rens, ih, List.map_cons]
theorem turn_kids (e : E) : (turnE e).kids = (e.kids.map turnE).reverse := by
  cases e <;> simp [turnE, E.kids, turns_eq]
theorem ren_kids (f : Nat → Nat) (e : E) : (renE f e).kids = e.kids.map (renE f) := by
  cases e <;> simp [renE, E.kids, rens_eq]
/-- induction over an expression and those directly in it -/
theorem E.ind {Pr : E → Prop} (h : ∀ e, (∀ k ∈ e.kids, Pr k) → Pr e) : ∀ e, Pr e := by
  have A : ∀ n (e : E), e.parts ≤ n → Pr e := by
    intro n
    induction n with
    | zero =>
      intro e hn
      have := parts_pos e
      omega
    | succ n ih =>
      intro e hn
      refine h e fun k hk => ih k ?_
      have hp := parts_kids e
      have : k.parts ≤ (e.kids.map E.parts).sum := by
        generalize e.kids = l at hk
        induction l with
        | nil => cases hk
        | cons a l ih =>
          rw [List.map_cons, List.sum_cons]
          rcases List.mem_cons.mp hk with rfl | hk
          · omega
          · have := ih hk
            omega
      omega
  exact fun e => A e.parts e (Nat.le_refl _)
theorem sum_map_eq {α : Type} (f g : α → Nat) (l : List α) (h : ∀ x ∈ l, f x = g x) : (l.map f).sum = (l.map g).sum := by
  rw [List.map_congr_left h]
theorem depths_ge {es : List E} {k : E} (h : k ∈ es) : k.depth ≤ E.depth.depths es := by
  induction es with
  | nil => cases h
  | cons e es ih =>
    rw [E.depth.depths]
    rcases List.mem_cons.mp h with rfl | h
    · exact Nat.le_max_left _ _
    · exact Nat.le_trans (ih h) (Nat.le_max_right _ _)
theorem turn_sizes : ∀ e : E, (turnE e).places = e.places ∧ (turnE e).parts = e.parts ∧ (turnE e).depth = e.depth := by
  refine E.ind fun e ih => ?_
  have h1 := places_kids (turnE e)
  have h2 := parts_kids (turnE e)
  rw [turn_kids, List.map_reverse, List.sum_reverse, List.map_map] at h1 h2
  have p : (e.kids.map (E.places ∘ turnE)).sum = (e.kids.map E.places).sum := sum_map_eq _ _ _ fun k hk => (ih k hk).1
  have q : (e.kids.map (E.parts ∘ turnE)).sum = (e.kids.map E.parts).sum := sum_map_eq _ _ _ fun k hk => (ih k hk).2.1
  rw [p] at h1
  rw [q] at h2
  have o : (turnE e).own = e.own := by cases e <;> rfl
  refine ⟨by rw [h1, o, ← places_kids], by rw [h2, ← parts_kids], ?_⟩
  have d : ∀ es : List E, (∀ k ∈ es, (turnE k).depth = k.depth) → E.depth.depths ((es.map turnE).reverse) = E.depth.depths es := by
    intro es hes
    refine Nat.le_antisymm (depths_le fun k hk => ?_) (depths_le fun k hk => ?_)
    · rw [List.mem_reverse, List.mem_map] at hk
      obtain ⟨x, hx, rfl⟩ := hk
      rw [hes x hx]
      exact depths_ge hx
    · have : turnE k ∈ (es.map turnE).reverse := List.mem_reverse.mpr (List.mem_map.mpr ⟨k, hk, rfl⟩)
      have := depths_ge this
      rw [hes k hk] at this
      exact this
  cases e with
  | eps => rfl
  | sym c => rfl
  | maybe k =>
    have := (ih k (List.mem_singleton.mpr rfl)).2.2
    rw [turnE, E.depth, E.depth, this]
  | many k =>
    have := (ih k (List.mem_singleton.mpr rfl)).2.2
    rw [turnE, E.depth, E.depth, this]
  | join es => rw [turnE, turns_eq, E.depth, E.depth, d es fun k hk => (ih k hk).2.2]
  | alt es => rw [turnE, turns_eq, E.depth, E.depth, d es fun k hk => (ih k hk).2.2]
theorem isJoin_turn (e : E) : isJoin (turnE e) = isJoin e := by cases e <;> rfl
theorem isAlt_turn (e : E) : isAlt (turnE e) = isAlt e := by cases e <;> rfl
theorem any_congr {α : Type} {p q : α → Bool} (l : List α) (h : ∀ x ∈ l, p x = q x) : l.any p = l.any q := by
  induction l with
  | nil => rfl
  | cons a l ih => rw [List.any_cons, List.any_cons, h a (List.mem_cons_self ..), ih fun x hx => h x (List.mem_cons_of_mem _ hx)]
theorem turn_ok : ∀ e : E, e.ok = true → (turnE e).ok = true := by
  refine E.ind fun e ih ho => ?_
  have hk := ok_kids ho
  have row : ∀ (p : E → Bool) (es : List E), (∀ e, p (turnE e) = p e) → (∀ k ∈ es, (turnE k).ok = true) → (decide (2 ≤ es.length) && E.ok.oks es && !(es.any p)) = true → (decide (2 ≤ ((es.map turnE).reverse).length) && E.ok.oks ((es.map turnE).reverse) && !(((es.map turnE).reverse).any p)) = true := by
    intro p es hp hes h
    rw [oks_eq] at h ⊢
    simp only [Bool.and_eq_true, decide_eq_true_eq, List.all_eq_true] at h ⊢
    refine ⟨⟨by rw [List.length_reverse, List.length_map]; exact h.1.1, fun x hx => ?_⟩, ?_⟩
    · rw [List.mem_reverse, List.mem_map] at hx
      obtain ⟨k, hk, rfl⟩ := hx
      exact hes k hk
    · rw [List.any_reverse, List.any_map]
      have : es.any (p ∘ turnE) = es.any p := any_congr es fun x _ => hp x
      rw [this]
      exact h.2
  cases e with
  | eps => rfl
  | sym c => exact ho
  | maybe k =>
    rw [turnE, E.ok]
    exact ih k (List.mem_singleton.mpr rfl) (hk k (List.mem_singleton.mpr rfl))
  | many k =>
    rw [turnE, E.ok]
    exact ih k (List.mem_singleton.mpr rfl) (hk k (List.mem_singleton.mpr rfl))
  | join es =>
    rw [E.ok] at ho
    rw [turnE, turns_eq, E.ok]
    exact row isJoin es isJoin_turn (fun k h => ih k h (hk k h)) ho
  | alt es =>
    rw [E.ok] at ho
    rw [turnE, turns_eq, E.ok]
    exact row isAlt es isAlt_turn (fun k h => ih k h (hk k h)) ho
theorem turn_turn : ∀ e : E, turnE (turnE e) = e := by
  refine E.ind fun e ih => ?_
  have row : ∀ es : List E, (∀ k ∈ es, turnE (turnE k) = k) → (((es.map turnE).reverse).map turnE).reverse = es := by
    intro es h
    rw [List.map_reverse, List.reverse_reverse, List.map_map]
    have : es.map (turnE ∘ turnE) = es.map id := List.map_congr_left h
    rw [this, List.map_id]
  cases e with
  | eps => rfl
  | sym c => rfl
  | maybe k => rw [turnE, turnE, ih k (List.mem_singleton.mpr rfl)]
  | many k => rw [turnE, turnE, ih k (List.mem_singleton.mpr rfl)]
  | join es => rw [turnE, turnE, turns_eq, turns_eq, row es ih]
  | alt es => rw [turnE, turnE, turns_eq, turns_eq, row es ih]
/-- the turned one matches the words read from the end -/
theorem star_rev {L M : List Nat → Prop} (h : ∀ w, L w ↔ M w.reverse) {w : List Nat} (s : Star L w) : Star M w.reverse := by
  induction s with
  | nil => exact .nil
  | cons hu n _ ih =>
    rw [List.reverse_append]
    exact star_snoc ih ((h _).mp hu)
theorem mw_turn : ∀ (e : E) (w : List Nat), MW (turnE e) w ↔ MW e w.reverse := by
  refine E.ind fun e ih => ?_
  cases e with
  | eps =>
    intro w
    show w = [] ↔ w.reverse = []
    rw [List.reverse_eq_nil_iff]
  | sym c =>
    intro w
    rw [turnE, MW]
    constructor
    · rintro rfl
      rfl
    · intro h
      have := congrArg List.reverse h
      rw [List.reverse_reverse] at this
      exact this
  | maybe k =>
    intro w
    rw [turnE, MW, MW, List.reverse_eq_nil_iff, ih k (List.mem_singleton.mpr rfl)]
  | many k =>
    intro w
    have hk := ih k (List.mem_singleton.mpr rfl)
    rw [turnE, MW, MW]
    constructor
    · exact fun s => star_rev hk s
    · intro s
      have := star_rev (L := MW k) (M := MW (turnE k)) (fun u => by rw [hk, List.reverse_reverse]) s
      rw [List.reverse_reverse] at this
      exact this
  | join es =>
    have row : ∀ es : List E, (∀ k ∈ es, ∀ w, MW (turnE k) w ↔ MW k w.reverse) → ∀ w, MW.mwJ ((es.map turnE).reverse) w ↔ MW.mwJ es w.reverse := by
      intro es
      induction es with
      | nil =>
        intro _ w
        show w = [] ↔ w.reverse = []
        rw [List.reverse_eq_nil_iff]
      | cons a es ih2 =>
        intro h w
        rw [List.map_cons, List.reverse_cons, mwJ_snoc]
        have hr := ih2 fun k hk => h k (List.mem_cons_of_mem _ hk)
        have ha := h a (List.mem_cons_self ..)
        constructor
        · rintro ⟨u, v, rfl, h1, h2⟩
          exact ⟨v.reverse, u.reverse, List.reverse_append, (ha v).mp h2, (hr u).mp h1⟩
        · rintro ⟨u, v, e, h1, h2⟩
          refine ⟨v.reverse, u.reverse, ?_, (hr _).mpr (by rw [List.reverse_reverse]; exact h2), (ha _).mpr (by rw [List.reverse_reverse]; exact h1)⟩
          have := congrArg List.reverse e
          rw [List.reverse_reverse, List.reverse_append] at this
          exact this
    intro w
    rw [turnE, turns_eq, MW, MW]
    exact row es ih w
  | alt es =>
    intro w
    rw [turnE, turns_eq, MW, MW, mwA_iff, mwA_iff]
    constructor
    · rintro ⟨x, hx, h⟩
      rw [List.mem_reverse, List.mem_map] at hx
      obtain ⟨k, hk, rfl⟩ := hx
      exact ⟨k, hk, (ih k hk w).mp h⟩
    · rintro ⟨k, hk, h⟩
      exact ⟨turnE k, List.mem_reverse.mpr (List.mem_map.mpr ⟨k, hk, rfl⟩), (ih k hk w).mpr h⟩
/-! #### renamed -/
theorem ren_sizes (f : Nat → Nat) : ∀ e : E, (renE f e).places = e.places ∧ (renE f e).parts = e.parts ∧ (renE f e).depth = e.depth := by
  refine E.ind fun e ih => ?_
  have h1 := places_kids (renE f e)
  have h2 := parts_kids (renE f e)
  rw [ren_kids, List.map_map] at h1 h2
  have p : (e.kids.map (E.places ∘ renE f)).sum = (e.kids.map E.places).sum := sum_map_eq _ _ _ fun k hk => (ih k hk).1
  have q : (e.kids.map (E.parts ∘ renE f)).sum = (e.kids.map E.parts).sum := sum_map_eq _ _ _ fun k hk => (ih k hk).2.1
  rw [p] at h1
  rw [q] at h2
  have o : (renE f e).own = e.own := by cases e <;> rfl
  refine ⟨by rw [h1, o, ← places_kids], by rw [h2, ← parts_kids], ?_⟩
  have d : ∀ es : List E, (∀ k ∈ es, (renE f k).depth = k.depth) → E.depth.depths (es.map (renE f)) = E.depth.depths es := by
    intro es hes
    refine Nat.le_antisymm (depths_le fun k hk => ?_) (depths_le fun k hk => ?_)
    · rw [List.mem_map] at hk
      obtain ⟨x, hx, rfl⟩ := hk
      rw [hes x hx]
      exact depths_ge hx
    · have := depths_ge (List.mem_map.mpr ⟨k, hk, rfl⟩ : renE f k ∈ es.map (renE f))
      rw [hes k hk] at this
      exact this
  cases e with
  | eps => rfl
  | sym c => rfl
  | maybe k =>
    have := (ih k (List.mem_singleton.mpr rfl)).2.2
    rw [renE, E.depth, E.depth, this]
  | many k =>
    have := (ih k (List.mem_singleton.mpr rfl)).2.2
    rw [renE, E.depth, E.depth, this]
  | join es => rw [renE, rens_eq, E.depth, E.depth, d es fun k hk => (ih k hk).2.2]
  | alt es => rw [renE, rens_eq, E.depth, E.depth, d es fun k hk => (ih k hk).2.2]
theorem isJoin_ren (f : Nat → Nat) (e : E) : isJoin (renE f e) = isJoin e := by cases e <;> rfl
theorem isAlt_ren (f : Nat → Nat) (e : E) : isAlt (renE f e) = isAlt e := by cases e <;> rfl
theorem ren_ok (f : Nat → Nat) (hf : ∀ c, 97 ≤ c ∧ c ≤ 100 → 97 ≤ f c ∧ f c ≤ 100) : ∀ e : E, e.ok = true → (renE f e).ok = true := by
  refine E.ind fun e ih ho => ?_
  have hk := ok_kids ho
  have row : ∀ (p : E → Bool) (es : List E), (∀ e, p (renE f e) = p e) → (∀ k ∈ es, (renE f k).ok = true) → (decide (2 ≤ es.length) && E.ok.oks es && !(es.any p)) = true → (decide (2 ≤ (es.map (renE f)).length) && E.ok.oks (es.map (renE f)) && !((es.map (renE f)).any p)) = true := by
    intro p es hp hes h
    rw [oks_eq] at h ⊢
    simp only [Bool.and_eq_true, decide_eq_true_eq, List.all_eq_true] at h ⊢
    refine ⟨⟨by rw [List.length_map]; exact h.1.1, fun x hx => ?_⟩, ?_⟩
    · rw [List.mem_map] at hx
      obtain ⟨k, hk, rfl⟩ := hx
      exact hes k hk
    · rw [List.any_map]
      have : es.any (p ∘ renE f) = es.any p := any_congr es fun x _ => hp x
      rw [this]
      exact h.2
  cases e with
  | eps => rfl
  | sym c =>
    rw [E.ok] at ho
    simp only [Bool.and_eq_true, decide_eq_true_eq] at ho
    rw [renE, E.ok]
    simp only [Bool.and_eq_true, decide_eq_true_eq]
    exact hf c ho
  | maybe k =>
    rw [renE, E.ok]
    exact ih k (List.mem_singleton.mpr rfl) (hk k (List.mem_singleton.mpr rfl))
  | many k =>
    rw [renE, E.ok]
    exact ih k (List.mem_singleton.mpr rfl) (hk k (List.mem_singleton.mpr rfl))
  | join es =>
    rw [E.ok] at ho
    rw [renE, rens_eq, E.ok]
    exact row isJoin es (isJoin_ren f) (fun k h => ih k h (hk k h)) ho
  | alt es =>
    rw [E.ok] at ho
    rw [renE, rens_eq, E.ok]
    exact row isAlt es (isAlt_ren f) (fun k h => ih k h (hk k h)) ho
theorem mw_ren (f : Nat → Nat) : ∀ (e : E) (w : List Nat), MW e w → MW (renE f e) (w.map f) := by
  refine E.ind fun e ih => ?_
  cases e with
  | eps =>
    intro w h
    rw [MW] at h
    subst h
    rfl
  | sym c =>
    intro w h
    rw [MW] at h
    subst h
    rfl
  | maybe k =>
    intro w h
    rw [renE, MW]
    rw [MW] at h
    rcases h with rfl | h
    · exact .inl rfl
    · exact .inr (ih k (List.mem_singleton.mpr rfl) w h)
  | many k =>
    intro w h
    rw [renE, MW]
    rw [MW] at h
    induction h with
    | nil => exact .nil
    | cons hu n _ ih2 =>
      rw [List.map_append]
      refine .cons (ih k (List.mem_singleton.mpr rfl) _ hu) (fun c => n ?_) ih2
      exact List.map_eq_nil_iff.mp c
  | join es =>
    have row : ∀ es : List E, (∀ k ∈ es, ∀ w, MW k w → MW (renE f k) (w.map f)) → ∀ w, MW.mwJ es w → MW.mwJ (es.map (renE f)) (w.map f) := by
      intro es
      induction es with
      | nil =>
        intro _ w h
        have h' : w = [] := h
        subst h'
        rfl
      | cons a es ih2 =>
        rintro h w ⟨u, v, rfl, h1, h2⟩
        exact ⟨u.map f, v.map f, List.map_append, h a (List.mem_cons_self ..) u h1, ih2 (fun k hk => h k (List.mem_cons_of_mem _ hk)) v h2⟩
    intro w h
    rw [renE, rens_eq, MW]
    rw [MW] at h
    exact row es ih w h
  | alt es =>
    intro w h
    rw [renE, rens_eq, MW, mwA_iff]
    rw [MW, mwA_iff] at h
    obtain ⟨k, hk, h⟩ := h
    exact ⟨renE f k, List.mem_map.mpr ⟨k, hk, rfl⟩, ih k hk w h⟩
theorem ren_ren (f g : Nat → Nat) (hg : ∀ c, 97 ≤ c ∧ c ≤ 100 → g (f c) = c) : ∀ e : E, e.ok = true → renE g (renE f e) = e := by
  refine E.ind fun e ih ho => ?_
  have hk := ok_kids ho
  have row : ∀ es : List E, (∀ k ∈ es, renE g (renE f k) = k) → (es.map (renE f)).map (renE g) = es := by
    intro es h
    rw [List.map_map]
    have : es.map (renE g ∘ renE f) = es.map id := List.map_congr_left h
    rw [this, List.map_id]
  cases e with
  | eps => rfl
  | sym c =>
    rw [E.ok] at ho
    simp only [Bool.and_eq_true, decide_eq_true_eq] at ho
    rw [renE, renE, hg c ho]
  | maybe k => rw [renE, renE, ih k (List.mem_singleton.mpr rfl) (hk k (List.mem_singleton.mpr rfl))]
  | many k => rw [renE, renE, ih k (List.mem_singleton.mpr rfl) (hk k (List.mem_singleton.mpr rfl))]
  | join es => rw [renE, renE, rens_eq, rens_eq, row es fun k h => ih k h (hk k h)]
  | alt es => rw [renE, renE, rens_eq, rens_eq, row es fun k h => ih k h (hk k h)]
theorem mw_ren_iff (f g : Nat → Nat) (hg : ∀ c, 97 ≤ c ∧ c ≤ 100 → g (f c) = c) {e : E} (ho : e.ok = true) {w : List Nat} (hw : ∀ c ∈ w, 97 ≤ c ∧ c ≤ 100) : MW (renE f e) (w.map f) ↔ MW e w := by
  refine ⟨fun h => ?_, mw_ren f e w⟩
  have := mw_ren g _ _ h
  rw [ren_ren f g hg e ho, List.map_map] at this
  have e1 : w.map (g ∘ f) = w.map id := List.map_congr_left fun c hc => hg c (hw c hc)
  rw [e1, List.map_id] at this
  exact this
end My
namespace My
open PySem PySem.Spec PyProof.Rows L2
/-! ### the places of a turned expression -/
structure Mir (g g' : Gl) (s : Nat) : Prop where
  nul : g'.nul = g.nul
  fst : ∀ p, p ∈ g'.fst ↔ ∃ q ∈ g.lst, p + q + 1 = s
  lst : ∀ p, p ∈ g'.lst ↔ ∃ q ∈ g.fst, p + q + 1 = s
  fol : ∀ p q, (p, q) ∈ g'.fol ↔ ∃ p' q', (q', p') ∈ g.fol ∧ p + p' + 1 = s ∧ q + q' + 1 = s
theorem Mir.eqv {g g' h : Gl} {s : Nat} (m : Mir g g' s) (e : Eqv h g') : Mir g h s where
  nul := e.nul.trans m.nul
  fst p := by rw [e.fst]; exact m.fst p
  lst p := by rw [e.lst]; exact m.lst p
  fol p q := by rw [e.fol]; exact m.fol p q
theorem Mir.seq {a a' b b' : Gl} {s : Nat} (x : Mir a a' s) (y : Mir b b' s) : Mir (a.seq b) (b'.seq a') s where
  nul := by
    show (b'.nul && a'.nul) = (a.nul && b.nul)
    rw [x.nul, y.nul, Bool.and_comm]
  fst p := by
    show p ∈ b'.fst ++ (if b'.nul = true then a'.fst else []) ↔ ∃ q ∈ (if b.nul = true then a.lst else []) ++ b.lst, p + q + 1 = s
    rw [List.mem_append, y.fst, y.nul]
    constructor
    · rintro (⟨q, h, e⟩ | h)
      · exact ⟨q, List.mem_append_right _ h, e⟩
      · split at h
        · rename_i c
          obtain ⟨q, h, e⟩ := (x.fst p).mp h
          exact ⟨q, List.mem_append_left _ (by rw [if_pos c]; exact h), e⟩
        · cases h
    · rintro ⟨q, h, e⟩
      rcases List.mem_append.mp h with h | h
      · split at h
        · rename_i c
          refine .inr ?_
          rw [if_pos c]
          exact (x.fst p).mpr ⟨q, h, e⟩
        · cases h
      · exact .inl ⟨q, h, e⟩
  lst p := by
    show p ∈ (if a'.nul = true then b'.lst else []) ++ a'.lst ↔ ∃ q ∈ a.fst ++ (if a.nul = true then b.fst else []), p + q + 1 = s
    rw [List.mem_append, x.lst, x.nul]
    constructor
    · rintro (h | ⟨q, h, e⟩)
      · split at h
        · rename_i c
          obtain ⟨q, h, e⟩ := (y.lst p).mp h
          exact ⟨q, List.mem_append_right _ (by rw [if_pos c]; exact h), e⟩
        · cases h
      · exact ⟨q, List.mem_append_left _ h, e⟩
    · rintro ⟨q, h, e⟩
      rcases List.mem_append.mp h with h | h
      · exact .inr ⟨q, h, e⟩
      · split at h
        · rename_i c
          refine .inl ?_
          rw [if_pos c]
          exact (y.lst p).mpr ⟨q, h, e⟩
        · cases h
  fol p q := by
    show (p, q) ∈ b'.fol ++ (prodL b'.lst a'.fst ++ a'.fol) ↔ ∃ p' q', (q', p') ∈ a.fol ++ (prodL a.lst b.fst ++ b.fol) ∧ p + p' + 1 = s ∧ q + q' + 1 = s
    rw [List.mem_append, List.mem_append, mem_prodL, y.fol, x.fol, y.lst, x.fst]
    constructor
    · rintro (⟨p', q', h, e1, e2⟩ | ⟨⟨p', h1, e1⟩, q', h2, e2⟩ | ⟨p', q', h, e1, e2⟩)
      · exact ⟨p', q', List.mem_append_right _ (List.mem_append_right _ h), e1, e2⟩
      · exact ⟨p', q', List.mem_append_right _ (List.mem_append_left _ (mem_prodL.mpr ⟨h2, h1⟩)), e1, e2⟩
      · exact ⟨p', q', List.mem_append_left _ h, e1, e2⟩
    · rintro ⟨p', q', h, e1, e2⟩
      rcases List.mem_append.mp h with h | h
      · exact .inr (.inr ⟨p', q', h, e1, e2⟩)
      · rcases List.mem_append.mp h with h | h
        · obtain ⟨h1, h2⟩ := mem_prodL.mp h
          exact .inr (.inl ⟨⟨p', h2, e1⟩, q', h1, e2⟩)
        · exact .inl ⟨p', q', h, e1, e2⟩
theorem Mir.par {a a' b b' : Gl} {s : Nat} (x : Mir a a' s) (y : Mir b b' s) : Mir (a.par b) (b'.par a') s where
  nul := by
    show (b'.nul || a'.nul) = (a.nul || b.nul)
    rw [x.nul, y.nul, Bool.or_comm]
  fst p := by
    show p ∈ b'.fst ++ a'.fst ↔ ∃ q ∈ a.lst ++ b.lst, p + q + 1 = s
    rw [List.mem_append, y.fst, x.fst]
    constructor
    · rintro (⟨q, h, e⟩ | ⟨q, h, e⟩)
      · exact ⟨q, List.mem_append_right _ h, e⟩
      · exact ⟨q, List.mem_append_left _ h, e⟩
    · rintro ⟨q, h, e⟩
      rcases List.mem_append.mp h with h | h
      · exact .inr ⟨q, h, e⟩
      · exact .inl ⟨q, h, e⟩
  lst p := by
    show p ∈ b'.lst ++ a'.lst ↔ ∃ q ∈ a.fst ++ b.fst, p + q + 1 = s
    rw [List.mem_append, y.lst, x.lst]
    constructor
    · rintro (⟨q, h, e⟩ | ⟨q, h, e⟩)
      · exact ⟨q, List.mem_append_right _ h, e⟩
      · exact ⟨q, List.mem_append_left _ h, e⟩
    · rintro ⟨q, h, e⟩
      rcases List.mem_append.mp h with h | h
      · exact .inr ⟨q, h, e⟩
      · exact .inl ⟨q, h, e⟩
  fol p q := by
    show (p, q) ∈ b'.fol ++ a'.fol ↔ ∃ p' q', (q', p') ∈ a.fol ++ b.fol ∧ p + p' + 1 = s ∧ q + q' + 1 = s
    rw [List.mem_append, y.fol, x.fol]
    constructor
    · rintro (⟨p', q', h, e1, e2⟩ | ⟨p', q', h, e1, e2⟩)
      · exact ⟨p', q', List.mem_append_right _ h, e1, e2⟩
      · exact ⟨p', q', List.mem_append_left _ h, e1, e2⟩
    · rintro ⟨p', q', h, e1, e2⟩
      rcases List.mem_append.mp h with h | h
      · exact .inr ⟨p', q', h, e1, e2⟩
      · exact .inl ⟨p', q', h, e1, e2⟩
theorem turns_places (es : List E) : E.places.placess (turnE.turns es) = E.places.placess es := by
  have h := (turn_sizes (.join es)).1
  rw [turnE, E.places, E.places] at h
  exact h
mutual
theorem gl_turn : ∀ (e : E) (o o' : Nat), Mir (gl e o) (gl (turnE e) o') (o + o' + e.places)
  | .eps, o, o' => by
    rw [turnE]
    exact ⟨rfl, fun p => ⟨(fun h => by cases h), fun ⟨q, h, _⟩ => by cases h⟩, fun p => ⟨(fun h => by cases h), fun ⟨q, h, _⟩ => by cases h⟩, fun p q => ⟨(fun h => by cases h), fun ⟨p', q', h, _⟩ => by cases h⟩⟩
  | .sym c, o, o' => by
    rw [turnE, E.places]
    refine ⟨rfl, fun p => ?_, fun p => ?_, fun p q => ⟨(fun h => by cases h), fun ⟨p', q', h, _⟩ => by cases h⟩⟩ <;>
    · show p ∈ [o'] ↔ ∃ q ∈ [o], p + q + 1 = o + o' + 1
      rw [List.mem_singleton]
      constructor
      · rintro rfl
        exact ⟨o, List.mem_singleton.mpr rfl, by omega⟩
      · rintro ⟨q, h, e⟩
        rw [List.mem_singleton] at h
        omega
  | .maybe e, o, o' => by
    have h := gl_turn e o o'
    rw [turnE, E.places]
    exact ⟨rfl, h.fst, h.lst, h.fol⟩
  | .many e, o, o' => by
    have h := gl_turn e o o'
    rw [turnE, E.places]
    refine ⟨rfl, h.fst, h.lst, fun p q => ?_⟩
    show (p, q) ∈ (gl (turnE e) o').fol ++ prodL (gl (turnE e) o').lst (gl (turnE e) o').fst ↔ ∃ p' q', (q', p') ∈ (gl e o).fol ++ prodL (gl e o).lst (gl e o).fst ∧ p + p' + 1 = _ ∧ q + q' + 1 = _
    rw [List.mem_append, mem_prodL, h.fol, h.lst, h.fst]
    constructor
    · rintro (⟨p', q', hm, e1, e2⟩ | ⟨⟨p', h1, e1⟩, q', h2, e2⟩)
      · exact ⟨p', q', List.mem_append_left _ hm, e1, e2⟩
      · exact ⟨p', q', List.mem_append_right _ (mem_prodL.mpr ⟨h2, h1⟩), e1, e2⟩
    · rintro ⟨p', q', hm, e1, e2⟩
      rcases List.mem_append.mp hm with hm | hm
      · exact .inl ⟨p', q', hm, e1, e2⟩
      · obtain ⟨h1, h2⟩ := mem_prodL.mp hm
        exact .inr ⟨⟨p', h2, e1⟩, q', h1, e2⟩
  | .join es, o, o' => by
    rw [turnE, E.places]
    exact gl_turnJ es o o'
  | .alt es, o, o' => by
    rw [turnE, E.places]
    exact gl_turnA es o o'
theorem gl_turnJ : ∀ (es : List E) (o o' : Nat), Mir (gl.glJ es o) (gl.glJ (turnE.turns es) o') (o + o' + E.places.placess es)
  | [], o, o' => ⟨rfl, fun p => ⟨(fun h => by cases h), fun ⟨q, h, _⟩ => by cases h⟩, fun p => ⟨(fun h => by cases h), fun ⟨q, h, _⟩ => by cases h⟩, fun p q => ⟨(fun h => by cases h), fun ⟨p', q', h, _⟩ => by cases h⟩⟩
  | e :: es, o, o' => by
    have h1 := gl_turn e o (o' + ((turnE.turns es).map E.places).sum)
    have h2 := gl_turnJ es (o + e.places) o'
    have hq := turns_places es
    rw [placess_eq] at hq
    rw [turnE.turns, gl.glJ, E.places.placess]
    have e1 : o + (o' + ((turnE.turns es).map E.places).sum) + e.places = o + o' + (e.places + E.places.placess es) := by omega
    have e2 : o + e.places + o' + E.places.placess es = o + o' + (e.places + E.places.placess es) := by omega
    rw [e1] at h1
    rw [e2] at h2
    exact (h1.seq h2).eqv (glJ_snoc _ _ _)
theorem gl_turnA : ∀ (es : List E) (o o' : Nat), Mir (gl.glA es o) (gl.glA (turnE.turns es) o') (o + o' + E.places.placess es)
  | [], o, o' => ⟨rfl, fun p => ⟨(fun h => by cases h), fun ⟨q, h, _⟩ => by cases h⟩, fun p => ⟨(fun h => by cases h), fun ⟨q, h, _⟩ => by cases h⟩, fun p q => ⟨(fun h => by cases h), fun ⟨p', q', h, _⟩ => by cases h⟩⟩
  | e :: es, o, o' => by
    have h1 := gl_turn e o (o' + ((turnE.turns es).map E.places).sum)
    have h2 := gl_turnA es (o + e.places) o'
    have hq := turns_places es
    rw [placess_eq] at hq
    rw [turnE.turns, gl.glA, E.places.placess, glA_snoc]
    have e1 : o + (o' + ((turnE.turns es).map E.places).sum) + e.places = o + o' + (e.places + E.places.placess es) := by omega
    have e2 : o + e.places + o' + E.places.placess es = o + o' + (e.places + E.places.placess es) := by omega
    rw [e1] at h1
    rw [e2] at h2
    exact h1.par h2
end
/-! #### each place is reached -/
inductive RchE (F : List (Nat × Nat)) (S : List Nat) : Nat → Prop where
  | base {p : Nat} (h : p ∈ S) : RchE F S p
  | step {p q : Nat} (h : RchE F S p) (k : (p, q) ∈ F) : RchE F S q
theorem RchE.mono {F F' : List (Nat × Nat)} {S S' : List Nat} {p : Nat} (h : RchE F S p) (hF : ∀ x ∈ F, x ∈ F') (hS : ∀ q ∈ S, RchE F' S' q) : RchE F' S' p := by
  induction h with
  | base h => exact hS _ h
  | step _ k ih => exact .step ih (hF _ k)
/-- some word: none, or some first and last place -/
def Live (g : Gl) : Prop := g.nul = true ∨ (g.fst ≠ [] ∧ g.lst ≠ [])
theorem Live.seq {a b : Gl} (x : Live a) (y : Live b) : Live (a.seq b) := by
  unfold Live Gl.seq
  rcases x with x | ⟨x1, x2⟩ <;> rcases y with y | ⟨y1, y2⟩
  · exact .inl (by show (a.nul && b.nul) = true; rw [x, y]; rfl)
  · refine .inr ⟨?_, ?_⟩
    · show a.fst ++ (if a.nul = true then b.fst else []) ≠ []
      rw [if_pos x]
      simp [y1]
    · show (if b.nul = true then a.lst else []) ++ b.lst ≠ []
      simp [y2]
  · refine .inr ⟨?_, ?_⟩
    · show a.fst ++ _ ≠ []
      simp [x1]
    · show (if b.nul = true then a.lst else []) ++ b.lst ≠ []
      rw [if_pos y]
      simp [x2]
  · refine .inr ⟨?_, ?_⟩
    · show a.fst ++ _ ≠ []
      simp [x1]
    · show _ ++ b.lst ≠ []
      simp [y2]
theorem Live.par {a b : Gl} (x : Live a) : Live (a.par b) := by
  rcases x with x | ⟨x1, x2⟩
  · exact .inl (by show (a.nul || b.nul) = true; rw [x]; rfl)
  · refine .inr ⟨?_, ?_⟩
    · show a.fst ++ b.fst ≠ []
      simp [x1]
    · show a.lst ++ b.lst ≠ []
      simp [x2]
mutual
theorem gl_live : ∀ (e : E) (o : Nat), e.ok = true → Live (gl e o)
  | .eps, o, _ => .inl rfl
  | .sym c, o, _ => .inr ⟨by show [o] ≠ []; simp, by show [o] ≠ []; simp⟩
  | .maybe e, o, _ => .inl rfl
  | .many e, o, _ => .inl rfl
  | .join es, o, ho => by
    rw [E.ok, oks_eq] at ho
    simp only [Bool.and_eq_true] at ho
    rw [gl]
    exact glJ_live es o ho.1.2
  | .alt es, o, ho => by
    rw [E.ok, oks_eq] at ho
    simp only [Bool.and_eq_true, decide_eq_true_eq] at ho
    rw [gl]
    cases es with
    | nil => exact absurd ho.1.1 (by decide)
    | cons e es =>
      have h := ho.1.2
      rw [List.all_cons, Bool.and_eq_true] at h
      rw [gl.glA]
      exact (gl_live e o h.1).par
theorem glJ_live : ∀ (es : List E) (o : Nat), es.all E.ok = true → Live (gl.glJ es o)
  | [], o, _ => .inl rfl
  | e :: es, o, ho => by
    rw [List.all_cons, Bool.and_eq_true] at ho
    rw [gl.glJ]
    exact (gl_live e o ho.1).seq (glJ_live es _ ho.2)
end
theorem rch_seq {a b : Gl} (la : Live a) {p : Nat} (ra : ∀ l ∈ a.lst, RchE a.fol a.fst l) (h : RchE b.fol b.fst p) : RchE (a.seq b).fol (a.seq b).fst p := by
  refine h.mono (fun x hx => List.mem_append_right _ (List.mem_append_right _ hx)) fun q hq => ?_
  by_cases c : a.nul = true
  · refine .base ?_
    show q ∈ a.fst ++ (if a.nul = true then b.fst else [])
    rw [if_pos c]
    exact List.mem_append_right _ hq
  · rcases la with la | ⟨_, l2⟩
    · exact absurd la c
    · obtain ⟨l, hl⟩ := List.exists_mem_of_ne_nil _ l2
      refine .step (p := l) ((ra l hl).mono (fun x hx => List.mem_append_left _ hx) fun r hr => .base (List.mem_append_left _ hr)) ?_
      exact List.mem_append_right _ (List.mem_append_left _ (mem_prodL.mpr ⟨hl, hq⟩))
mutual
theorem gl_rch : ∀ (e : E) (o : Nat), e.ok = true → ∀ p, o ≤ p → p < o + e.places → RchE (gl e o).fol (gl e o).fst p
  | .eps, o, _, p, h1, h2 => by
    rw [E.places] at h2
    omega
  | .sym c, o, _, p, h1, h2 => by
    rw [E.places] at h2
    have : p = o := by omega
    subst this
    exact .base (List.mem_singleton.mpr rfl)
  | .maybe e, o, ho, p, h1, h2 => by
    rw [E.ok] at ho
    rw [E.places] at h2
    exact gl_rch e o ho p h1 h2
  | .many e, o, ho, p, h1, h2 => by
    rw [E.ok] at ho
    rw [E.places] at h2
    exact (gl_rch e o ho p h1 h2).mono (fun x hx => List.mem_append_left _ hx) fun q hq => .base hq
  | .join es, o, ho, p, h1, h2 => by
    rw [E.ok, oks_eq] at ho
    simp only [Bool.and_eq_true] at ho
    rw [E.places] at h2
    rw [gl]
    exact glJ_rch es o ho.1.2 p h1 h2
  | .alt es, o, ho, p, h1, h2 => by
    rw [E.ok, oks_eq] at ho
    simp only [Bool.and_eq_true] at ho
    rw [E.places] at h2
    rw [gl]
    exact glA_rch es o ho.1.2 p h1 h2
theorem glJ_rch : ∀ (es : List E) (o : Nat), es.all E.ok = true → ∀ p, o ≤ p → p < o + E.places.placess es → RchE (gl.glJ es o).fol (gl.glJ es o).fst p
  | [], o, _, p, h1, h2 => by
    rw [E.places.placess] at h2
    omega
  | e :: es, o, ho, p, h1, h2 => by
    rw [List.all_cons, Bool.and_eq_true] at ho
    rw [E.places.placess] at h2
    rw [gl.glJ]
    by_cases c : p < o + e.places
    · exact (gl_rch e o ho.1 p h1 c).mono (fun x hx => List.mem_append_left _ hx) fun q hq => .base (List.mem_append_left _ hq)
    · refine rch_seq (gl_live e o ho.1) (fun l hl => ?_) (glJ_rch es (o + e.places) ho.2 p (by omega) (by omega))
      have := (gl_within e o).lst l hl
      exact gl_rch e o ho.1 l this.1 this.2
theorem glA_rch : ∀ (es : List E) (o : Nat), es.all E.ok = true → ∀ p, o ≤ p → p < o + E.places.placess es → RchE (gl.glA es o).fol (gl.glA es o).fst p
  | [], o, _, p, h1, h2 => by
    rw [E.places.placess] at h2
    omega
  | e :: es, o, ho, p, h1, h2 => by
    rw [List.all_cons, Bool.and_eq_true] at ho
    rw [E.places.placess] at h2
    rw [gl.glA]
    by_cases c : p < o + e.places
    · exact (gl_rch e o ho.1 p h1 c).mono (fun x hx => List.mem_append_left _ hx) fun q hq => .base (List.mem_append_left _ hq)
    · exact (glA_rch es (o + e.places) ho.2 p (by omega) (by omega)).mono (fun x hx => List.mem_append_right _ hx) fun q hq => .base (List.mem_append_right _ hq)
end
/-- each place leads to a last one -/
theorem gl_lead {e : E} (ho : e.ok = true) {p : Nat} (hp : p < e.places) : RchE ((gl e 0).fol.map fun x => (x.2, x.1)) (gl e 0).lst p := by
  have m := gl_turn e 0 0
  rw [Nat.zero_add] at m
  have hs := (turn_sizes e).1
  have h := gl_rch (turnE e) 0 (turn_ok e ho) (e.places - 1 - p) (Nat.zero_le _) (by omega)
  have key : ∀ q, RchE (gl (turnE e) 0).fol (gl (turnE e) 0).fst q → ∀ p, q + p + 1 = e.places → RchE ((gl e 0).fol.map fun x => (x.2, x.1)) (gl e 0).lst p := by
    intro q hq
    induction hq with
    | base hb =>
      intro p e1
      obtain ⟨r, hr, e2⟩ := (m.fst _).mp hb
      have : r = p := by omega
      subst this
      exact .base hr
    | @step a b _ k ih =>
      intro p e1
      obtain ⟨a', b', hm, e2, e3⟩ := (m.fol _ _).mp k
      have : b' = p := by omega
      subst this
      exact .step (ih a' e2) (List.mem_map.mpr ⟨(b', a'), hm, rfl⟩)
  exact key _ h p (by omega)
end My
namespace My
open PySem PySem.Spec PyProof.Rows L2
/-! ### the automaton over sets of places -/
def nrS (e : E) (S : List Nat) : List Nat := if S = [] then (gl e 0).fst else (List.range e.places).filter fun y => S.any fun x => decide ((x, y) ∈ (gl e 0).fol)
def stS (e : E) (S : List Nat) (c : Nat) : List Nat := (nrS e S).filter fun i => decide (e.letters[i]? = some c)
def endS (e : E) (S : List Nat) : Bool := if S = [] then (gl e 0).nul else S.any fun i => decide (i ∈ (gl e 0).lst)
def runS (e : E) : List Nat → List Nat → Option (List Nat)
  | S, [] => some S
  | S, c :: w => if stS e S c = [] then none else runS e (stS e S c) w
def accS (e : E) (S w : List Nat) : Prop := ∃ T, runS e S w = some T ∧ endS e T = true
theorem mem_stS {e : E} {S : List Nat} {c y : Nat} : y ∈ stS e S c ↔ e.letters[y]? = some c ∧ ((S = [] ∧ y ∈ (gl e 0).fst) ∨ (S ≠ [] ∧ ∃ x ∈ S, (x, y) ∈ (gl e 0).fol)) := by
  unfold stS nrS
  rw [List.mem_filter, decide_eq_true_eq]
  by_cases h : S = []
  · rw [if_pos h]
    exact ⟨fun k => ⟨k.2, .inl ⟨h, k.1⟩⟩, fun k => ⟨k.2.elim (fun q => q.2) fun q => absurd h q.1, k.1⟩⟩
  · rw [if_neg h, List.mem_filter, List.mem_range, List.any_eq_true]
    constructor
    · rintro ⟨⟨_, x, hx, hf⟩, k⟩
      exact ⟨k, .inr ⟨h, x, hx, of_decide_eq_true hf⟩⟩
    · rintro ⟨k, q | ⟨_, x, hx, hf⟩⟩
      · exact absurd q.1 h
      · exact ⟨⟨by have := ((gl_within e 0).fol x y hf).2; omega, x, hx, decide_eq_true hf⟩, k⟩
theorem stS_lt {e : E} {S : List Nat} {c y : Nat} (h : y ∈ stS e S c) : y < e.places := by
  have := (List.getElem?_eq_some_iff.mp (mem_stS.mp h).1).1
  rw [letters_len] at this
  exact this
theorem accS_cons {e : E} {S w : List Nat} {c : Nat} : accS e S (c :: w) ↔ stS e S c ≠ [] ∧ accS e (stS e S c) w := by
  unfold accS
  rw [runS]
  by_cases h : stS e S c = []
  · rw [if_pos h]
    exact ⟨fun ⟨T, k, _⟩ => (by cases k), fun k => absurd h k.1⟩
  · rw [if_neg h]
    exact ⟨fun k => ⟨h, k⟩, fun k => k.2⟩
theorem accS_place {e : E} : ∀ (w : List Nat) {S : List Nat}, S ≠ [] → (accS e S w ↔ ∃ p ∈ S, ∃ ps, Sfx (gl e 0) p ps ∧ ps.map (fun p => e.letters[p]?) = w.map some)
  | [], S, hS => by
    constructor
    · rintro ⟨T, h1, h2⟩
      obtain rfl : S = T := Option.some.inj h1
      unfold endS at h2
      rw [if_neg hS, List.any_eq_true] at h2
      obtain ⟨p, hp, hl⟩ := h2
      exact ⟨p, hp, [], ⟨trivial, of_decide_eq_true hl⟩, rfl⟩
    · rintro ⟨p, hp, ps, h1, h2⟩
      match ps, h1, h2 with
      | [], h1, _ =>
        refine ⟨S, rfl, ?_⟩
        unfold endS
        rw [if_neg hS, List.any_eq_true]
        exact ⟨p, hp, decide_eq_true h1.2⟩
  | c :: w, S, hS => by
    rw [accS_cons]
    constructor
    · rintro ⟨h1, h2⟩
      obtain ⟨y, hy, ys, h3, h4⟩ := (accS_place w h1).mp h2
      obtain ⟨k1, k2⟩ := mem_stS.mp hy
      obtain ⟨x, hx, hf⟩ := (k2.resolve_left fun q => hS q.1).2
      exact ⟨x, hx, y :: ys, ⟨⟨hf, h3.1⟩, h3.2⟩, by rw [List.map_cons, List.map_cons, h4, k1]⟩
    · rintro ⟨x, hx, ps, h3, h4⟩
      match ps, h3, h4 with
      | y :: ys, h3, h4 =>
        rw [List.map_cons, List.map_cons] at h4
        injection h4 with k1 k2
        have hy : y ∈ stS e S c := mem_stS.mpr ⟨k1, .inr ⟨hS, x, hx, h3.1.1⟩⟩
        have hne : stS e S c ≠ [] := fun q => by rw [q] at hy; cases hy
        exact ⟨hne, (accS_place w hne).mpr ⟨y, hy, ys, ⟨h3.1.2, h3.2⟩, k2⟩⟩
theorem mw_accS {e : E} {w : List Nat} : MW e w ↔ accS e [] w := by
  rw [mw_acc]
  cases w with
  | nil =>
    constructor
    · rintro ⟨ps, h1, h2⟩
      match ps, h1, h2 with
      | [], h1, _ => exact ⟨[], rfl, by unfold endS; rw [if_pos rfl]; exact h1⟩
    · rintro ⟨T, h1, h2⟩
      obtain rfl : ([] : List Nat) = T := Option.some.inj h1
      unfold endS at h2
      rw [if_pos rfl] at h2
      exact ⟨[], h2, rfl⟩
  | cons c w =>
    rw [accS_cons]
    constructor
    · rintro ⟨ps, h1, h2⟩
      match ps, h1, h2 with
      | y :: ys, h1, h2 =>
        rw [List.map_cons, List.map_cons] at h2
        injection h2 with k1 k2
        have hy : y ∈ stS e [] c := mem_stS.mpr ⟨k1, .inl ⟨rfl, h1.1⟩⟩
        have hne : stS e [] c ≠ [] := fun q => by rw [q] at hy; cases hy
        exact ⟨hne, (accS_place w hne).mpr ⟨y, hy, ys, h1.2, k2⟩⟩
    · rintro ⟨h1, h2⟩
      obtain ⟨y, hy, ys, h3, h4⟩ := (accS_place w h1).mp h2
      obtain ⟨k1, k2⟩ := mem_stS.mp hy
      exact ⟨y :: ys, ⟨(k2.resolve_right fun q => q.1 rfl).2, h3⟩, by rw [List.map_cons, List.map_cons, h4, k1]⟩
theorem sfx_of {e : E} {p : Nat} (h : RchE ((gl e 0).fol.map fun x => (x.2, x.1)) (gl e 0).lst p) : ∃ ps, Sfx (gl e 0) p ps := by
  induction h with
  | base h => exact ⟨[], trivial, h⟩
  | @step p q _ k ih =>
    obtain ⟨ps, h1, h2⟩ := ih
    obtain ⟨x, hx, e1⟩ := List.mem_map.mp k
    injection e1 with e1 e2
    refine ⟨p :: ps, ⟨?_, h1⟩, h2⟩
    rw [← e1, ← e2]
    exact hx
theorem chn_bd {e : E} : ∀ (ps : List Nat) (p : Nat), chn (gl e 0).fol p ps → ∀ q ∈ ps, q < e.places
  | y :: ys, p, h, q, hq => by
    rcases List.mem_cons.mp hq with rfl | hq
    · have := ((gl_within e 0).fol p q h.1).2
      omega
    · exact chn_bd ys y h.2 q hq
theorem word_of {e : E} : ∀ {ps : List Nat}, (∀ q ∈ ps, q < e.places) → ∃ u : List Nat, ps.map (fun p => e.letters[p]?) = u.map some
  | [], _ => ⟨[], rfl⟩
  | q :: ps, h => by
    obtain ⟨u, hu⟩ := word_of fun r hr => h r (List.mem_cons_of_mem _ hr)
    have hq := h q (List.mem_cons_self ..)
    exact ⟨e.letters[q]'(by rw [letters_len]; exact hq) :: u, by rw [List.map_cons, List.map_cons, hu, List.getElem?_eq_getElem]⟩
/-- each set that is not empty is live -/
theorem accS_live {e : E} (ho : e.ok = true) {S : List Nat} (hS : S ≠ []) (hb : ∀ x ∈ S, x < e.places) : ∃ u, accS e S u := by
  obtain ⟨p, hp⟩ := List.exists_mem_of_ne_nil S hS
  obtain ⟨ps, h⟩ := sfx_of (gl_lead ho (hb p hp))
  obtain ⟨u, hu⟩ := word_of (chn_bd ps p h.1)
  exact ⟨u, (accS_place u hS).mpr ⟨p, hp, ps, h, hu⟩⟩
theorem accS_live0 {e : E} (ho : e.ok = true) : ∃ u, accS e [] u := by
  rcases gl_live e 0 ho with h | ⟨h, _⟩
  · exact ⟨[], [], rfl, by unfold endS; rw [if_pos rfl]; exact h⟩
  · obtain ⟨x, hx⟩ := List.exists_mem_of_ne_nil _ h
    have hxp : x < e.places := by have := (gl_within e 0).fst x hx; omega
    have hc : e.letters[x]? = some (e.letters[x]'(by rw [letters_len]; exact hxp)) := List.getElem?_eq_getElem _
    generalize e.letters[x]'(by rw [letters_len]; exact hxp) = c at hc
    have hy : x ∈ stS e [] c := mem_stS.mpr ⟨hc, .inl ⟨rfl, hx⟩⟩
    have hne : stS e [] c ≠ [] := fun q => by rw [q] at hy; cases hy
    obtain ⟨u, hu⟩ := accS_live ho hne fun y hy => stS_lt hy
    exact ⟨c :: u, accS_cons.mpr ⟨hne, hu⟩⟩
/-! ### automata as tables -/
abbrev Mv := Nat → Nat → Option Nat
def runM (mv : Mv) : Nat → List Nat → Option Nat
  | q, [] => some q
  | q, c :: w => (mv q c).bind fun t => runM mv t w
def accM (mv : Mv) (acc : Nat → Bool) (q : Nat) (w : List Nat) : Prop := ∃ t, runM mv q w = some t ∧ acc t = true
def tgt (mv : Mv) (m : Nat) : Option Nat := mv (m / 4) (97 + m % 4)
/-- the states are numbered as they are found -/
def Numb (n : Nat) (mv : Mv) : Prop := ∀ t, 0 < t → t < n → ∃ m, m < 4 * t ∧ tgt mv m = some t ∧ ∀ m' ≤ m, ∀ t', tgt mv m' = some t' → t' ≤ t
structure IsPre (L : List Nat → Prop) (n : Nat) (acc : Nat → Bool) (mv : Mv) : Prop where
  pos : 0 < n
  bd : ∀ q c t, mv q c = some t → q < n ∧ t < n ∧ 97 ≤ c ∧ c ≤ 100
  lang : ∀ w, L w ↔ accM mv acc 0 w
  live : ∀ q, q < n → ∃ u, accM mv acc q u
  num : Numb n mv
structure IsAut (L : List Nat → Prop) (n : Nat) (acc : Nat → Bool) (mv : Mv) : Prop extends IsPre L n acc mv where
  apart : ∀ q q', q < n → q' < n → (∀ u, accM mv acc q u ↔ accM mv acc q' u) → q = q'
theorem accM_cons {mv : Mv} {acc : Nat → Bool} {q c : Nat} {w : List Nat} : accM mv acc q (c :: w) ↔ ∃ t, mv q c = some t ∧ accM mv acc t w := by
  unfold accM
  rw [runM]
  constructor
  · rintro ⟨t, h1, h2⟩
    obtain ⟨s, h3, h4⟩ := Option.bind_eq_some_iff.mp h1
    exact ⟨s, h3, t, h4, h2⟩
  · rintro ⟨s, h3, t, h4, h2⟩
    exact ⟨t, Option.bind_eq_some_iff.mpr ⟨s, h3, h4⟩, h2⟩
theorem runM_app (mv : Mv) : ∀ (u v : List Nat) (q : Nat), runM mv q (u ++ v) = (runM mv q u).bind fun t => runM mv t v
  | [], _, _ => rfl
  | c :: u, v, q => by
    show (mv q c).bind (fun t => runM mv t (u ++ v)) = ((mv q c).bind fun t => runM mv t u).bind _
    cases mv q c with
    | none => rfl
    | some t => exact runM_app mv u v t
theorem runM_bd {L : List Nat → Prop} {n : Nat} {acc : Nat → Bool} {mv : Mv} (A : IsPre L n acc mv) : ∀ (u : List Nat) {q t : Nat}, q < n → runM mv q u = some t → t < n
  | [], q, t, hq, h => by
    obtain rfl : q = t := Option.some.inj h
    exact hq
  | c :: u, q, t, hq, h => by
    obtain ⟨s, h1, h2⟩ := Option.bind_eq_some_iff.mp (show (mv q c).bind (fun t => runM mv t u) = some t from h)
    exact runM_bd A u (A.bd q c s h1).2.1 h2
/-- equivalent states of two automata: their moves go along -/
theorem eqv_step {L L' : List Nat → Prop} {n n' : Nat} {acc acc' : Nat → Bool} {mv mv' : Mv} (A : IsPre L n acc mv) (A' : IsPre L' n' acc' mv') {q q' : Nat} (h : ∀ u, accM mv acc q u ↔ accM mv' acc' q' u) (c : Nat) :
    (mv q c = none ∧ mv' q' c = none) ∨ ∃ t t', mv q c = some t ∧ mv' q' c = some t' ∧ ∀ u, accM mv acc t u ↔ accM mv' acc' t' u := by
  cases h1 : mv q c with
  | none =>
    cases h2 : mv' q' c with
    | none => exact .inl ⟨rfl, rfl⟩
    | some t' =>
      obtain ⟨u, hu⟩ := A'.live t' (A'.bd _ _ _ h2).2.1
      obtain ⟨t, ht, _⟩ := accM_cons.mp ((h (c :: u)).mpr (accM_cons.mpr ⟨t', h2, hu⟩))
      rw [h1] at ht
      cases ht
  | some t =>
    cases h2 : mv' q' c with
    | none =>
      obtain ⟨u, hu⟩ := A.live t (A.bd _ _ _ h1).2.1
      obtain ⟨t', ht, _⟩ := accM_cons.mp ((h (c :: u)).mp (accM_cons.mpr ⟨t, h1, hu⟩))
      rw [h2] at ht
      cases ht
    | some t' =>
      refine .inr ⟨t, t', rfl, rfl, fun u => ?_⟩
      have := h (c :: u)
      rw [accM_cons, accM_cons, h1, h2] at this
      constructor
      · intro k
        obtain ⟨s, hs, hu⟩ := this.mp ⟨t, rfl, k⟩
        cases hs
        exact hu
      · intro k
        obtain ⟨s, hs, hu⟩ := this.mpr ⟨t', rfl, k⟩
        cases hs
        exact hu
theorem tgt_of {mv : Mv} {q c t : Nat} (h1 : 97 ≤ c) (h2 : c ≤ 100) (h : mv q c = some t) : tgt mv (4 * q + (c - 97)) = some t := by
  unfold tgt
  rw [show (4 * q + (c - 97)) / 4 = q by omega, show 97 + (4 * q + (c - 97)) % 4 = c by omega]
  exact h
/-- two least automata of the same words are the same -/
theorem IsAut.rel {L : List Nat → Prop} {n n' : Nat} {acc acc' : Nat → Bool} {mv mv' : Mv} (A : IsAut L n acc mv) (A' : IsAut L n' acc' mv') : ∀ k, k < n → k < n' ∧ ∀ u, accM mv acc k u ↔ accM mv' acc' k u := by
  intro k
  induction k using Nat.strongRecOn with
  | ind k ih =>
    intro hk
    rcases Nat.eq_zero_or_pos k with rfl | hp
    · exact ⟨A'.pos, fun u => (A.lang u).symm.trans (A'.lang u)⟩
    · obtain ⟨m, hm, ht, hle⟩ := A.num k hp hk
      have hs : m / 4 < k := by omega
      obtain ⟨hs', R⟩ := ih _ hs (by omega)
      rcases eqv_step A.toIsPre A'.toIsPre R (97 + m % 4) with ⟨h1, _⟩ | ⟨t, k', h1, h2, R'⟩
      · exact absurd (h1.symm.trans ht) (by intro c; cases c)
      · obtain rfl : t = k := Option.some.inj (h1.symm.trans ht)
        have hk' := (A'.bd _ _ _ h2).2.1
        rcases Nat.lt_trichotomy k' t with c | c | c
        · obtain ⟨_, R2⟩ := ih k' c (by omega)
          have := A.apart t k' hk (by omega) fun u => (R' u).trans (R2 u).symm
          omega
        · subst c
          exact ⟨hk', R'⟩
        · obtain ⟨m2, hm2, ht2, hle2⟩ := A'.num t hp (by omega)
          have hmm : m2 < m := by
            refine Nat.lt_of_not_le fun q => ?_
            have := hle2 m q k' h2
            omega
          obtain ⟨_, R3⟩ := ih (m2 / 4) (by omega) (by omega)
          rcases eqv_step A.toIsPre A'.toIsPre R3 (97 + m2 % 4) with ⟨_, h4⟩ | ⟨j, t2, h3, h4, R4⟩
          · exact absurd (h4.symm.trans ht2) (by intro c; cases c)
          · obtain rfl : t2 = t := Option.some.inj (h4.symm.trans ht2)
            have hj : j ≤ t2 := hle m2 (by omega) j h3
            rcases Nat.lt_or_eq_of_le hj with c2 | c2
            · obtain ⟨c3, R5⟩ := ih j c2 (by omega)
              have := A'.apart t2 j (by omega) c3 fun u => (R4 u).symm.trans (R5 u)
              omega
            · subst c2
              have := A'.apart j k' (by omega) hk' fun u => (R4 u).symm.trans (R' u)
              omega
theorem IsAut.uniq {L : List Nat → Prop} {n n' : Nat} {acc acc' : Nat → Bool} {mv mv' : Mv} (A : IsAut L n acc mv) (A' : IsAut L n' acc' mv') : n = n' ∧ (∀ q, q < n → acc q = acc' q) ∧ ∀ q c, mv q c = mv' q c := by
  have r1 := A.rel A'
  have r2 := A'.rel A
  have en : n = n' := by
    rcases Nat.lt_trichotomy n n' with c | c | c
    · have := (r2 n c).1
      omega
    · exact c
    · have := (r1 n' c).1
      omega
  subst en
  refine ⟨rfl, fun q hq => ?_, fun q c => ?_⟩
  · have h := (r1 q hq).2 []
    have e1 : accM mv acc q [] ↔ acc q = true := ⟨fun ⟨t, h1, h2⟩ => by obtain rfl : q = t := Option.some.inj h1; exact h2, fun h => ⟨q, rfl, h⟩⟩
    have e2 : accM mv' acc' q [] ↔ acc' q = true := ⟨fun ⟨t, h1, h2⟩ => by obtain rfl : q = t := Option.some.inj h1; exact h2, fun h => ⟨q, rfl, h⟩⟩
    rw [e1, e2] at h
    exact Bool.eq_iff_iff.mpr h
  · by_cases hq : q < n
    · rcases eqv_step A.toIsPre A'.toIsPre (r1 q hq).2 c with ⟨h1, h2⟩ | ⟨t, t', h1, h2, R⟩
      · rw [h1, h2]
      · rw [h1, h2]
        congr 1
        have ht := (A.bd _ _ _ h1).2.1
        exact A'.apart t t' ht (A'.bd _ _ _ h2).2.1 fun u => ((r1 t ht).2 u).symm.trans (R u)
    · cases h1 : mv q c with
      | some t => exact absurd (A.bd _ _ _ h1).1 hq
      | none =>
        cases h2 : mv' q c with
        | some t => exact absurd (A'.bd _ _ _ h2).1 hq
        | none => rfl
/-! ### classes -/
structure ClsA (N : Nat) (acc : Nat → Bool) (mv : Mv) (cl : Nat → Nat) (n : Nat) (sg : Nat → Nat) : Prop where
  rg : ∀ i, i < N → ∀ t, t < cl i → ∃ i' < i, cl i' = t
  eqv : ∀ i j, i < N → j < N → (cl i = cl j ↔ ∀ u, accM mv acc i u ↔ accM mv acc j u)
  bd : ∀ i, i < N → cl i < n
  sg : ∀ t, t < n → sg t < N ∧ cl (sg t) = t ∧ ∀ i < sg t, cl i ≠ t
def mvC (mv : Mv) (cl sg : Nat → Nat) (n : Nat) : Mv := fun t c => if t < n then (mv (sg t) c).map cl else none
theorem ClsA.aut {L : List Nat → Prop} {N n : Nat} {acc : Nat → Bool} {mv : Mv} {cl sg : Nat → Nat} (A : IsPre L N acc mv) (C : ClsA N acc mv cl n sg) : IsAut L n (fun t => acc (sg t)) (mvC mv cl sg n) := by
  have cl0 : cl 0 = 0 := by
    rcases Nat.eq_zero_or_pos (cl 0) with h | h
    · exact h
    · obtain ⟨i, hi, _⟩ := C.rg 0 A.pos 0 h
      exact absurd hi (Nat.not_lt_zero _)
  have hn : 0 < n := by
    have := C.bd 0 A.pos
    omega
  have key : ∀ i, i < N → ∀ c, mvC mv cl sg n (cl i) c = (mv i c).map cl := fun i hi c => by
    have hb := C.bd i hi
    obtain ⟨s1, s2, _⟩ := C.sg (cl i) hb
    unfold mvC
    rw [if_pos hb]
    rcases eqv_step A A ((C.eqv (sg (cl i)) i s1 hi).mp s2) c with ⟨h1, h2⟩ | ⟨t, t', h1, h2, R⟩
    · rw [h1, h2]
    · rw [h1, h2]
      exact congrArg some ((C.eqv t t' (A.bd _ _ _ h1).2.1 (A.bd _ _ _ h2).2.1).mpr R)
  have acce : ∀ i, i < N → acc (sg (cl i)) = acc i := fun i hi => by
    obtain ⟨s1, s2, _⟩ := C.sg (cl i) (C.bd i hi)
    have h := (C.eqv (sg (cl i)) i s1 hi).mp s2 []
    have e : ∀ q, accM mv acc q [] ↔ acc q = true := fun q => ⟨fun ⟨t, h1, h2⟩ => by obtain rfl : q = t := Option.some.inj h1; exact h2, fun h => ⟨q, rfl, h⟩⟩
    rw [e, e] at h
    exact Bool.eq_iff_iff.mpr h
  have accq : ∀ (u : List Nat) (i : Nat), i < N → (accM (mvC mv cl sg n) (fun t => acc (sg t)) (cl i) u ↔ accM mv acc i u) := by
    intro u
    induction u with
    | nil =>
      intro i hi
      constructor
      · rintro ⟨t, h1, h2⟩
        obtain rfl : cl i = t := Option.some.inj h1
        exact ⟨i, rfl, (acce i hi).symm.trans h2⟩
      · rintro ⟨t, h1, h2⟩
        obtain rfl : i = t := Option.some.inj h1
        exact ⟨cl i, rfl, (acce i hi).trans h2⟩
    | cons c u ih =>
      intro i hi
      rw [accM_cons, accM_cons, key i hi]
      constructor
      · rintro ⟨t, h1, h2⟩
        obtain ⟨s, h3, rfl⟩ := Option.map_eq_some_iff.mp h1
        exact ⟨s, h3, (ih s (A.bd _ _ _ h3).2.1).mp h2⟩
      · rintro ⟨s, h3, h2⟩
        exact ⟨cl s, by rw [h3]; rfl, (ih s (A.bd _ _ _ h3).2.1).mpr h2⟩
  have sgm : ∀ t t', t < t' → t' < n → sg t < sg t' := fun t t' h h' => by
    obtain ⟨a1, a2, _⟩ := C.sg t' h'
    obtain ⟨i, hi, he⟩ := C.rg (sg t') a1 t (by rw [a2]; exact h)
    obtain ⟨_, _, b3⟩ := C.sg t (by omega)
    refine Nat.lt_of_le_of_lt (Nat.le_of_not_lt fun q => b3 i q he) hi
  have lt_of : ∀ j t, t < n → j < sg t → cl j < t := fun j t ht hj => by
    obtain ⟨a1, a2, a3⟩ := C.sg t ht
    rcases Nat.lt_trichotomy (cl j) t with c | c | c
    · exact c
    · exact absurd c (a3 j hj)
    · obtain ⟨i, hi, he⟩ := C.rg j (by omega) t c
      exact absurd he (a3 i (by omega))
  refine ⟨⟨hn, fun q c t h => ?_, fun w => ?_, fun q hq => ?_, ?_⟩, fun q q' hq hq' h => ?_⟩
  · unfold mvC at h
    split at h
    · rename_i hq
      obtain ⟨s, h1, rfl⟩ := Option.map_eq_some_iff.mp h
      obtain ⟨_, b2, b3⟩ := A.bd _ _ _ h1
      exact ⟨hq, C.bd s b2, b3⟩
    · cases h
  · have := accq w 0 A.pos
    rw [cl0] at this
    exact (A.lang w).trans this.symm
  · obtain ⟨s1, s2, _⟩ := C.sg q hq
    obtain ⟨u, hu⟩ := A.live _ s1
    refine ⟨u, ?_⟩
    have := (accq u (sg q) s1).mpr hu
    rw [s2] at this
    exact this
  · intro t ht htn
    obtain ⟨s1, s2, s3⟩ := C.sg t htn
    have hj0 : 0 < sg t := by
      rcases Nat.eq_zero_or_pos (sg t) with h | h
      · rw [h, cl0] at s2
        omega
      · exact h
    obtain ⟨m1, hm1, ht1, hle1⟩ := A.num (sg t) hj0 s1
    have hex : ∃ m, tgt mv m = some (sg t) := ⟨m1, ht1⟩
    obtain ⟨m, hm, hmin⟩ : ∃ m, tgt mv m = some (sg t) ∧ ∀ m' < m, tgt mv m' ≠ some (sg t) := by
      have : ∀ k, ∀ m, m ≤ k → tgt mv m = some (sg t) → ∃ m, tgt mv m = some (sg t) ∧ ∀ m' < m, tgt mv m' ≠ some (sg t) := by
        intro k
        induction k with
        | zero => exact fun m hm h => ⟨m, h, fun m' h' => by omega⟩
        | succ k ih =>
          intro m hm h
          by_cases c : ∃ m' < m, tgt mv m' = some (sg t)
          · obtain ⟨m', h1, h2⟩ := c
            exact ih m' (by omega) h2
          · exact ⟨m, h, fun m' h1 h2 => c ⟨m', h1, h2⟩⟩
      exact this m1 m1 (Nat.le_refl _) ht1
    have hmm : m ≤ m1 := Nat.le_of_not_lt fun q => hmin m1 q ht1
    have hi : m / 4 < sg t := by omega
    have hiN : m / 4 < N := by omega
    have hmv : mv (m / 4) (97 + m % 4) = some (sg t) := hm
    -- the state is the first of its class
    have hfirst : sg (cl (m / 4)) = m / 4 := by
      have hb := C.bd _ hiN
      obtain ⟨a1, a2, a3⟩ := C.sg _ hb
      rcases Nat.lt_trichotomy (sg (cl (m / 4))) (m / 4) with c | c | c
      · exfalso
        have k1 := key (sg (cl (m / 4))) a1 (97 + m % 4)
        rw [a2, key _ hiN, hmv] at k1
        obtain ⟨j', h1, h2⟩ := Option.map_eq_some_iff.mp k1.symm
        rw [s2] at h2
        have h3 : tgt mv (4 * sg (cl (m / 4)) + m % 4) = some j' := by
          unfold tgt
          rw [show (4 * sg (cl (m / 4)) + m % 4) / 4 = sg (cl (m / 4)) by omega, show (4 * sg (cl (m / 4)) + m % 4) % 4 = m % 4 by omega]
          exact h1
        have h4 := hle1 _ (by omega) j' h3
        have h5 : ¬ j' < sg t := fun q => s3 j' q h2
        have h6 : j' = sg t := by omega
        rw [h6] at h3
        exact hmin _ (by omega) h3
      · exact c
      · exact absurd rfl (a3 _ c)
    have hst : cl (m / 4) < t := lt_of _ t htn hi
    refine ⟨4 * cl (m / 4) + m % 4, by omega, ?_, fun m' hm' t' ht' => ?_⟩
    · unfold tgt
      rw [show (4 * cl (m / 4) + m % 4) / 4 = cl (m / 4) by omega, show (4 * cl (m / 4) + m % 4) % 4 = m % 4 by omega, key _ hiN, hmv]
      exact congrArg some s2
    · have ht'' : mvC mv cl sg n (m' / 4) (97 + m' % 4) = some t' := ht'
      unfold mvC at ht''
      split at ht''
      · rename_i hq
        obtain ⟨j2, h1, rfl⟩ := Option.map_eq_some_iff.mp ht''
        have hpos : 4 * sg (m' / 4) + m' % 4 ≤ m := by
          by_cases c : m' / 4 < cl (m / 4)
          · have := sgm _ _ c (by omega)
            rw [hfirst] at this
            omega
          · have e1 : m' / 4 = cl (m / 4) := by omega
            rw [e1, hfirst]
            omega
        have h3 : tgt mv (4 * sg (m' / 4) + m' % 4) = some j2 := by
          unfold tgt
          rw [show (4 * sg (m' / 4) + m' % 4) / 4 = sg (m' / 4) by omega, show (4 * sg (m' / 4) + m' % 4) % 4 = m' % 4 by omega]
          exact h1
        have h4 := hle1 _ (by omega) j2 h3
        rcases Nat.lt_or_eq_of_le h4 with c | c
        · exact Nat.le_of_lt (lt_of j2 t htn c)
        · rw [c, s2]
          exact Nat.le_refl _
      · cases ht''
  · obtain ⟨a1, a2, _⟩ := C.sg q hq
    obtain ⟨b1, b2, _⟩ := C.sg q' hq'
    have := (C.eqv (sg q) (sg q') a1 b1).mpr fun u => by
      have h1 := accq u (sg q) a1
      have h2 := accq u (sg q') b1
      rw [a2] at h1
      rw [b2] at h2
      exact h1.symm.trans ((h u).trans h2)
    rw [a2, b2] at this
    exact this
end My
namespace My
open PySem PySem.Spec PyProof.Rows L2
/-! ### sets of places as they are found -/
structure Bfs (e : E) (S : List (List Nat)) (mv : Mv) (i k : Nat) : Prop where
  h0 : S[0]? = some []
  nd : S.Nodup
  bd : ∀ s ∈ S, ∀ x ∈ s, x < e.places
  le : i ≤ S.length
  mv1 : ∀ q c t, mv q c = some t → 4 * q + (c - 97) < 4 * i + k ∧ 97 ≤ c ∧ c ≤ 100 ∧ ∃ s, S[q]? = some s ∧ S[t]? = some (stS e s c) ∧ stS e s c ≠ []
  mv0 : ∀ q c s, 97 ≤ c → c ≤ 100 → 4 * q + (c - 97) < 4 * i + k → S[q]? = some s → mv q c = none → stS e s c = []
  num : ∀ t, 0 < t → t < S.length → ∃ m, m < 4 * t ∧ tgt mv m = some t ∧ ∀ m' ≤ m, ∀ t', tgt mv m' = some t' → t' ≤ t
def setMv (mv : Mv) (i c t : Nat) : Mv := fun q d => if q = i ∧ d = c then some t else mv q d
theorem setMv_same (mv : Mv) (i c t : Nat) : setMv mv i c t i c = some t := if_pos ⟨rfl, rfl⟩
theorem setMv_ne {mv : Mv} {i c t q d : Nat} (h : ¬ (q = i ∧ d = c)) : setMv mv i c t q d = mv q d := if_neg h
theorem tgt_set {mv : Mv} {i c t m : Nat} (h1 : 97 ≤ c) (h2 : c ≤ 100) (h : m ≠ 4 * i + (c - 97)) : tgt (setMv mv i c t) m = tgt mv m := by
  unfold tgt
  refine setMv_ne fun ⟨a, b⟩ => h ?_
  omega
theorem Bfs.start (e : E) : Bfs e [[]] (fun _ _ => none) 0 0 where
  h0 := rfl
  nd := by simp
  bd s hs x hx := by
    rw [List.mem_singleton.mp hs] at hx
    cases hx
  le := Nat.zero_le _
  mv1 q c t h := by cases h
  mv0 q c s _ _ h := absurd h (Nat.not_lt_zero _)
  num t h1 h2 := by
    have : t < 1 := h2
    omega
theorem Bfs.skip {e : E} {S : List (List Nat)} {mv : Mv} {i k : Nat} {s : List Nat} (B : Bfs e S mv i k) (hk : k < 4) (hs : S[i]? = some s) (h : stS e s (97 + k) = []) : Bfs e S mv i (k + 1) where
  h0 := B.h0
  nd := B.nd
  bd := B.bd
  le := B.le
  mv1 q c t h := by
    obtain ⟨a, b⟩ := B.mv1 q c t h
    exact ⟨by omega, b⟩
  mv0 q c s' h1 h2 h3 h4 h5 := by
    by_cases c1 : 4 * q + (c - 97) < 4 * i + k
    · exact B.mv0 q c s' h1 h2 c1 h4 h5
    · have e1 : q = i := by omega
      have e2 : c = 97 + k := by omega
      subst e1 e2
      obtain rfl : s = s' := Option.some.inj (hs.symm.trans h4)
      exact h
  num := B.num
theorem mv_free {e : E} {S : List (List Nat)} {mv : Mv} {i k q c : Nat} (B : Bfs e S mv i k) (h : 4 * i + k ≤ 4 * q + (c - 97)) : mv q c = none := by
  cases h1 : mv q c with
  | none => rfl
  | some t =>
    have := (B.mv1 q c t h1).1
    omega
theorem Bfs.old {e : E} {S : List (List Nat)} {mv : Mv} {i k t : Nat} {s : List Nat} (B : Bfs e S mv i k) (hk : k < 4) (hs : S[i]? = some s) (hne : stS e s (97 + k) ≠ []) (ht : S[t]? = some (stS e s (97 + k))) : Bfs e S (setMv mv i (97 + k) t) i (k + 1) where
  h0 := B.h0
  nd := B.nd
  bd := B.bd
  le := B.le
  mv1 q c t' h := by
    by_cases c1 : q = i ∧ c = 97 + k
    · obtain ⟨rfl, rfl⟩ := c1
      rw [setMv_same] at h
      cases h
      exact ⟨by omega, by omega, by omega, s, hs, ht, hne⟩
    · rw [setMv_ne c1] at h
      obtain ⟨a, b⟩ := B.mv1 q c t' h
      exact ⟨by omega, b⟩
  mv0 q c s' h1 h2 h3 h4 h5 := by
    by_cases c1 : q = i ∧ c = 97 + k
    · obtain ⟨rfl, rfl⟩ := c1
      rw [setMv_same] at h5
      cases h5
    · rw [setMv_ne c1] at h5
      refine B.mv0 q c s' h1 h2 ?_ h4 h5
      refine Classical.byContradiction fun d => c1 ⟨by omega, by omega⟩
  num t0 h1 h2 := by
    obtain ⟨m, hm, ht0, hle⟩ := B.num t0 h1 h2
    have hlt := (B.mv1 _ _ _ (show mv (m / 4) (97 + m % 4) = some t0 from ht0)).1
    have tg : ∀ m' ≤ m, tgt (setMv mv i (97 + k) t) m' = tgt mv m' := fun m' hm' => tgt_set (by omega) (by omega) (by omega)
    exact ⟨m, hm, by rw [tg m (Nat.le_refl _)]; exact ht0, fun m' hm' t' ht' => hle m' hm' t' (by rw [← tg m' hm']; exact ht')⟩
theorem Bfs.new {e : E} {S : List (List Nat)} {mv : Mv} {i k : Nat} {s : List Nat} (B : Bfs e S mv i k) (hk : k < 4) (hs : S[i]? = some s) (hne : stS e s (97 + k) ≠ []) (hno : stS e s (97 + k) ∉ S) : Bfs e (S ++ [stS e s (97 + k)]) (setMv mv i (97 + k) S.length) i (k + 1) where
  h0 := by
    rw [List.getElem?_append_left]
    · exact B.h0
    · exact (List.getElem?_eq_some_iff.mp B.h0).1
  nd := by
    rw [List.nodup_append]
    exact ⟨B.nd, by simp, fun a ha b hb => by rw [List.mem_singleton.mp hb]; rintro rfl; exact hno ha⟩
  bd s' hs' x hx := by
    rcases List.mem_append.mp hs' with h | h
    · exact B.bd s' h x hx
    · rw [List.mem_singleton.mp h] at hx
      exact stS_lt hx
  le := by
    rw [List.length_append]
    exact Nat.le_add_right_of_le B.le
  mv1 q c t' h := by
    have up : ∀ {j : Nat} {z : List Nat}, S[j]? = some z → (S ++ [stS e s (97 + k)])[j]? = some z := fun {j z} hz => by
      rw [List.getElem?_append_left (List.getElem?_eq_some_iff.mp hz).1]
      exact hz
    by_cases c1 : q = i ∧ c = 97 + k
    · obtain ⟨rfl, rfl⟩ := c1
      rw [setMv_same] at h
      cases h
      refine ⟨by omega, by omega, by omega, s, up hs, ?_, hne⟩
      rw [List.getElem?_append_right (Nat.le_refl _), Nat.sub_self]
      rfl
    · rw [setMv_ne c1] at h
      obtain ⟨a, b1, b2, s', b3, b4, b5⟩ := B.mv1 q c t' h
      exact ⟨by omega, b1, b2, s', up b3, up b4, b5⟩
  mv0 q c s' h1 h2 h3 h4 h5 := by
    by_cases c1 : q = i ∧ c = 97 + k
    · obtain ⟨rfl, rfl⟩ := c1
      rw [setMv_same] at h5
      cases h5
    · rw [setMv_ne c1] at h5
      have hi := (List.getElem?_eq_some_iff.mp hs).1
      have hq : q ≤ i := by omega
      rw [List.getElem?_append_left (by omega)] at h4
      refine B.mv0 q c s' h1 h2 ?_ h4 h5
      refine Classical.byContradiction fun d => c1 ⟨by omega, by omega⟩
  num t0 h1 h2 := by
    have hi := (List.getElem?_eq_some_iff.mp hs).1
    rw [List.length_append, List.length_singleton] at h2
    by_cases c0 : t0 < S.length
    · obtain ⟨m, hm, ht0, hle⟩ := B.num t0 h1 c0
      have hlt := (B.mv1 _ _ _ (show mv (m / 4) (97 + m % 4) = some t0 from ht0)).1
      have tg : ∀ m' ≤ m, tgt (setMv mv i (97 + k) S.length) m' = tgt mv m' := fun m' hm' => tgt_set (by omega) (by omega) (by omega)
      exact ⟨m, hm, by rw [tg m (Nat.le_refl _)]; exact ht0, fun m' hm' t' ht' => hle m' hm' t' (by rw [← tg m' hm']; exact ht')⟩
    · have e0 : t0 = S.length := by omega
      subst e0
      refine ⟨4 * i + k, by omega, ?_, fun m' hm' t' ht' => ?_⟩
      · unfold tgt
        rw [show (4 * i + k) / 4 = i by omega, show (4 * i + k) % 4 = k by omega]
        exact setMv_same ..
      · by_cases c1 : m' = 4 * i + k
        · subst c1
          unfold tgt at ht'
          rw [show (4 * i + k) / 4 = i by omega, show (4 * i + k) % 4 = k by omega, setMv_same] at ht'
          cases ht'
          exact Nat.le_refl _
        · rw [tgt_set (by omega) (by omega) (by omega)] at ht'
          obtain ⟨_, _, _, s', _, h4, _⟩ := B.mv1 _ _ _ (show mv (m' / 4) (97 + m' % 4) = some t' from ht')
          exact Nat.le_of_lt (List.getElem?_eq_some_iff.mp h4).1
theorem Bfs.row {e : E} {S : List (List Nat)} {mv : Mv} {i : Nat} (B : Bfs e S mv i 4) (h : i < S.length) : Bfs e S mv (i + 1) 0 where
  h0 := B.h0
  nd := B.nd
  bd := B.bd
  le := h
  mv1 q c t h := by
    obtain ⟨a, b⟩ := B.mv1 q c t h
    exact ⟨by omega, b⟩
  mv0 q c s h1 h2 h3 h4 h5 := B.mv0 q c s h1 h2 (by omega) h4 h5
  num := B.num
def endsOf (e : E) (S : List (List Nat)) (j : Nat) : Bool := endS e (S.getD j [])
mutual
theorem lts_all : ∀ e : E, e.ok = true → ∀ c ∈ e.letters, 97 ≤ c ∧ c ≤ 100
  | .eps, _, c, h => by cases h
  | .sym d, ho, c, h => by
    rw [E.letters, List.mem_singleton] at h
    rw [E.ok] at ho
    simp only [Bool.and_eq_true, decide_eq_true_eq] at ho
    rw [h]
    exact ho
  | .maybe e, ho, c, h => lts_all e (by rw [E.ok] at ho; exact ho) c (by rw [E.letters] at h; exact h)
  | .many e, ho, c, h => lts_all e (by rw [E.ok] at ho; exact ho) c (by rw [E.letters] at h; exact h)
  | .join es, ho, c, h => by
    rw [E.ok, oks_eq] at ho
    simp only [Bool.and_eq_true] at ho
    exact lts_alls es ho.1.2 c (by rw [E.letters] at h; exact h)
  | .alt es, ho, c, h => by
    rw [E.ok, oks_eq] at ho
    simp only [Bool.and_eq_true] at ho
    exact lts_alls es ho.1.2 c (by rw [E.letters] at h; exact h)
theorem lts_alls : ∀ es : List E, es.all E.ok = true → ∀ c ∈ E.letters.letterss es, 97 ≤ c ∧ c ≤ 100
  | [], _, c, h => by cases h
  | e :: es, ho, c, h => by
    rw [List.all_cons, Bool.and_eq_true] at ho
    rw [E.letters.letterss] at h
    rcases List.mem_append.mp h with h | h
    · exact lts_all e ho.1 c h
    · exact lts_alls es ho.2 c h
end
theorem stS_let {e : E} (ho : e.ok = true) {S : List Nat} {c : Nat} (h : stS e S c ≠ []) : 97 ≤ c ∧ c ≤ 100 := by
  obtain ⟨y, hy⟩ := List.exists_mem_of_ne_nil _ h
  exact lts_all e ho c (List.mem_of_getElem? (mem_stS.mp hy).1)
theorem idxOf_le_get {t : Nat} : ∀ (a : List Nat) (i : Nat), a[i]? = some t → a.idxOf t ≤ i
  | x :: a, 0, h => by
    obtain rfl : x = t := Option.some.inj h
    rw [List.idxOf_cons_self]
    exact Nat.le_refl _
  | x :: a, i + 1, h => by
    have ih := idxOf_le_get a i h
    rw [List.idxOf_cons]
    cases x == t
    · exact Nat.succ_le_succ ih
    · exact Nat.zero_le _
theorem getD_of {S : List (List Nat)} {j : Nat} {s : List Nat} (h : S[j]? = some s) : S.getD j [] = s := by
  rw [List.getD_eq_getElem?_getD, h]
  rfl
theorem Bfs.acc {e : E} {S : List (List Nat)} {mv : Mv} (ho : e.ok = true) (B : Bfs e S mv S.length 0) : ∀ (w : List Nat) (q : Nat) (s : List Nat), S[q]? = some s → (accM mv (endsOf e S) q w ↔ accS e s w)
  | [], q, s, hq => by
    have hE : endsOf e S q = endS e s := by unfold endsOf; rw [getD_of hq]
    constructor
    · rintro ⟨t, h1, h2⟩
      obtain rfl : q = t := Option.some.inj h1
      exact ⟨s, rfl, hE.symm.trans h2⟩
    · rintro ⟨t, h1, h2⟩
      obtain rfl : s = t := Option.some.inj h1
      exact ⟨q, rfl, hE.trans h2⟩
  | c :: w, q, s, hq => by
    rw [accM_cons, accS_cons]
    have hql := (List.getElem?_eq_some_iff.mp hq).1
    constructor
    · rintro ⟨t, h1, h2⟩
      obtain ⟨_, _, _, s', h3, h4, h5⟩ := B.mv1 q c t h1
      obtain rfl : s = s' := Option.some.inj (hq.symm.trans h3)
      exact ⟨h5, (B.acc ho w t _ h4).mp h2⟩
    · rintro ⟨h1, h2⟩
      obtain ⟨l1, l2⟩ := stS_let ho h1
      cases hm : mv q c with
      | none => exact absurd (B.mv0 q c s l1 l2 (by omega) hq hm) h1
      | some t =>
        obtain ⟨_, _, _, s', h3, h4, h5⟩ := B.mv1 q c t hm
        obtain rfl : s = s' := Option.some.inj (hq.symm.trans h3)
        exact ⟨t, rfl, (B.acc ho w t _ h4).mpr h2⟩
theorem Bfs.pre {e : E} {S : List (List Nat)} {mv : Mv} (ho : e.ok = true) (B : Bfs e S mv S.length 0) : IsPre (MW e) S.length (endsOf e S) mv where
  pos := (List.getElem?_eq_some_iff.mp B.h0).1
  bd q c t h := by
    obtain ⟨_, h1, h2, s, h3, h4, _⟩ := B.mv1 q c t h
    exact ⟨(List.getElem?_eq_some_iff.mp h3).1, (List.getElem?_eq_some_iff.mp h4).1, h1, h2⟩
  lang w := mw_accS.trans (B.acc ho w 0 [] B.h0).symm
  live q hq := by
    have hs : S[q]? = some S[q] := List.getElem?_eq_getElem hq
    have : ∃ u, accS e S[q] u := by
      by_cases h : S[q] = []
      · rw [h]
        exact accS_live0 ho
      · exact accS_live ho h (B.bd _ (List.getElem_mem hq))
    obtain ⟨u, hu⟩ := this
    exact ⟨u, (B.acc ho u q _ hs).mpr hu⟩
  num := B.num
/-! ### finer and finer classes -/
def wayN (a : List Nat) (o : Option Nat) : NestedKey := match o with
  | some t => .num ((a.getD t 0 : Nat) : Int)
  | none => .num (-1)
def lets4 : List Nat := [97, 98, 99, 100]
def signN (mv : Mv) (a : List Nat) (i : Nat) : NestedKey := .tup [.num ((a.getD i 0 : Nat) : Int), .tup (lets4.map fun c => wayN a (mv i c))]
def finer (mv : Mv) (a : List Nat) : List Nat := numL ((List.range a.length).map fun i => signN mv a i)
theorem finer_len (mv : Mv) (a : List Nat) : (finer mv a).length = a.length := by
  unfold finer
  rw [numL_len, List.length_map, List.length_range]
structure Refn (N : Nat) (acc : Nat → Bool) (mv : Mv) (a : List Nat) : Prop where
  len : a.length = N
  rg : RG a
  coarse : ∀ i j : Nat, i < N → j < N → (∀ u, accM mv acc i u ↔ accM mv acc j u) → a[i]? = a[j]?
  fine : ∀ i j : Nat, i < N → j < N → a[i]? = a[j]? → acc i = acc j
theorem wayN_inj {a : List Nat} {o p : Option Nat} (h : wayN a o = wayN a p) : (o = none ∧ p = none) ∨ ∃ t u, o = some t ∧ p = some u ∧ a.getD t 0 = a.getD u 0 := by
  cases o with
  | none =>
    cases p with
    | none => exact .inl ⟨rfl, rfl⟩
    | some u =>
      unfold wayN at h
      injection h with h
      omega
  | some t =>
    cases p with
    | none =>
      unfold wayN at h
      injection h with h
      omega
    | some u =>
      unfold wayN at h
      injection h with h
      exact .inr ⟨t, u, rfl, rfl, by omega⟩
theorem getDN {a : List Nat} {i : Nat} (h : i < a.length) : a[i]? = some (a.getD i 0) := by
  rw [List.getD_eq_getElem?_getD, List.getElem?_eq_getElem h]
  rfl
theorem finer_iff {mv : Mv} {a : List Nat} {i j : Nat} (hi : i < a.length) (hj : j < a.length) : (finer mv a)[i]? = (finer mv a)[j]? ↔ signN mv a i = signN mv a j := by
  have g : ∀ {k : Nat}, k < a.length → ((List.range a.length).map fun i => signN mv a i)[k]? = some (signN mv a k) := fun {k} hk => by
    rw [List.getElem?_map, List.getElem?_range hk]
    rfl
  have h1 := numL_get (g hi)
  have h2 := numL_get (g hj)
  unfold finer
  rw [h1, h2]
  exact ⟨fun h => (numL_iff (g hi) (g hj) h1 h2).mp (Option.some.inj h), fun h => congrArg some ((numL_iff (g hi) (g hj) h1 h2).mpr h)⟩
theorem sign_parts {mv : Mv} {a : List Nat} {i j : Nat} (h : signN mv a i = signN mv a j) : a.getD i 0 = a.getD j 0 ∧ ∀ c ∈ lets4, wayN a (mv i c) = wayN a (mv j c) := by
  unfold signN at h
  injection h with h
  injection h with h1 h2
  injection h1 with h1
  injection h2 with h2 _
  injection h2 with h2
  refine ⟨by omega, fun c hc => ?_⟩
  obtain ⟨k, hk⟩ := List.mem_iff_getElem?.mp hc
  have h3 := congrArg (fun l => l[k]?) h2
  simp only [List.getElem?_map, hk, Option.map_some] at h3
  exact Option.some.inj h3
theorem Refn.step {L : List Nat → Prop} {N : Nat} {acc : Nat → Bool} {mv : Mv} {a : List Nat} (A : IsPre L N acc mv) (R : Refn N acc mv a) : Refn N acc mv (finer mv a) ∧ ∀ i j : Nat, i < a.length → j < a.length → (finer mv a)[i]? = (finer mv a)[j]? → a[i]? = a[j]? := by
  have len := R.len
  have ref : ∀ i j : Nat, i < a.length → j < a.length → (finer mv a)[i]? = (finer mv a)[j]? → a[i]? = a[j]? := fun i j hi hj h => by
    rw [getDN hi, getDN hj, (sign_parts ((finer_iff hi hj).mp h)).1]
  refine ⟨⟨(finer_len mv a).trans len, numL_rg _, fun i j hi hj h => ?_, fun i j hi hj h => R.fine i j hi hj (ref i j (by omega) (by omega) h)⟩, ref⟩
  rw [finer_iff (by omega) (by omega)]
  have e1 := R.coarse i j hi hj h
  rw [getDN (by omega), getDN (by omega)] at e1
  have e1 := Option.some.inj e1
  unfold signN
  rw [e1]
  congr 2
  congr 1
  congr 1
  refine List.map_congr_left fun c _ => ?_
  rcases eqv_step A A h c with ⟨h1, h2⟩ | ⟨t, t', h1, h2, R'⟩
  · rw [h1, h2]
  · rw [h1, h2]
    have ht := (A.bd _ _ _ h1).2.1
    have ht' := (A.bd _ _ _ h2).2.1
    have e2 := R.coarse t t' ht ht' R'
    rw [getDN (by omega), getDN (by omega)] at e2
    show NestedKey.num _ = NestedKey.num _
    rw [Option.some.inj e2]
/-- how many classes there are, as they come -/
def cntR (a : List Nat) : Nat := a.foldl (fun n x => if x = n then n + 1 else n) 0
theorem cntR_snoc (a : List Nat) (x : Nat) : cntR (a ++ [x]) = if x = cntR a then cntR a + 1 else cntR a := by
  unfold cntR
  rw [List.foldl_append]
  rfl
theorem RG.take {a : List Nat} (h : RG a) (k : Nat) : RG (a.take k) := fun i m hm m' hlt => by
  have hi := (List.getElem?_eq_some_iff.mp hm).1
  rw [List.length_take] at hi
  rw [List.getElem?_take_of_lt (by omega)] at hm
  obtain ⟨i', h1, h2⟩ := h i m hm m' hlt
  exact ⟨i', h1, by rw [List.getElem?_take_of_lt (by omega)]; exact h2⟩
theorem cntR_mem {a : List Nat} (h : RG a) : ∀ t, t < cntR a ↔ t ∈ a := by
  have key : ∀ k, k ≤ a.length → ∀ t, t < cntR (a.take k) ↔ t ∈ a.take k := by
    intro k
    induction k with
    | zero => intro _ t; simp [cntR]
    | succ k ih =>
      intro hk t
      have hx : a[k]? = some a[k] := List.getElem?_eq_getElem (by omega)
      generalize a[k] = x at hx
      have ih := ih (by omega)
      rw [take_snoc hx, cntR_snoc, List.mem_append, List.mem_singleton, ← ih]
      have hxle : x ≤ cntR (a.take k) := by
        refine Nat.le_of_not_lt fun q => ?_
        obtain ⟨i', h1, h2⟩ := h k x hx _ q
        have : cntR (a.take k) ∈ a.take k := List.mem_of_getElem? (i := i') (by rw [List.getElem?_take_of_lt h1]; exact h2)
        have := (ih _).mpr this
        omega
      split
      · omega
      · omega
  intro t
  have := key a.length (Nat.le_refl _) t
  rw [List.take_length] at this
  exact this
theorem Refn.cls {L : List Nat → Prop} {N : Nat} {acc : Nat → Bool} {mv : Mv} {a : List Nat} (A : IsPre L N acc mv) (R : Refn N acc mv a) (h : finer mv a = a) : ClsA N acc mv (fun i => a.getD i 0) (cntR a) (fun t => a.idxOf t) where
  rg i hi t ht := by
    have len := R.len
    obtain ⟨i', h1, h2⟩ := R.rg i _ (getDN (by omega)) t ht
    refine ⟨i', h1, ?_⟩
    rw [getDN (by omega)] at h2
    exact Option.some.inj h2
  eqv i j hi hj := by
    have len := R.len
    constructor
    · intro e0 u
      have key : ∀ (u : List Nat) (i j : Nat), i < N → j < N → a.getD i 0 = a.getD j 0 → accM mv acc i u → accM mv acc j u := by
        intro u
        induction u with
        | nil =>
          rintro i j hi hj e1 ⟨t, h1, h2⟩
          obtain rfl : i = t := Option.some.inj h1
          have := R.fine i j hi hj (by rw [getDN (by omega), getDN (by omega), e1])
          exact ⟨j, rfl, this.symm.trans h2⟩
        | cons c u ih =>
          intro i j hi hj e1 h1
          obtain ⟨t, h2, h3⟩ := accM_cons.mp h1
          obtain ⟨_, b2, b3, b4⟩ := A.bd _ _ _ h2
          have e2 : signN mv a i = signN mv a j := by
            rw [← finer_iff (by omega) (by omega), h, getDN (by omega), getDN (by omega), e1]
          have hc : c ∈ lets4 := by
            have : c = 97 ∨ c = 98 ∨ c = 99 ∨ c = 100 := by omega
            rcases this with rfl | rfl | rfl | rfl <;> decide
          rcases wayN_inj ((sign_parts e2).2 c hc) with ⟨k1, _⟩ | ⟨t1, t2, k1, k2, k3⟩
          · rw [h2] at k1
            cases k1
          · rw [h2] at k1
            cases k1
            exact accM_cons.mpr ⟨t2, k2, ih t t2 b2 (A.bd _ _ _ k2).2.1 k3 h3⟩
      exact ⟨key u i j hi hj e0, key u j i hj hi e0.symm⟩
    · intro h
      have := R.coarse i j hi hj h
      rw [getDN (by omega), getDN (by omega)] at this
      exact Option.some.inj this
  bd i hi := by
    have len := R.len
    exact (cntR_mem R.rg _).mpr (List.mem_of_getElem? (getDN (by omega)))
  sg t ht := by
    have len := R.len
    have hm := (cntR_mem R.rg t).mp ht
    have hl := List.idxOf_lt_length_of_mem hm
    refine ⟨by omega, ?_, fun i hi e0 => ?_⟩
    · have e1 := getDN hl
      rw [List.getElem?_eq_getElem hl, List.getElem_idxOf hl] at e1
      exact (Option.some.inj e1).symm
    · have hil : i < a.length := by omega
      exact absurd hi (Nat.not_lt_of_le (idxOf_le_get a i (by rw [getDN hil, e0])))
def boolK (b : Bool) : Leaf := .num (if b = true then 1 else 0)
theorem boolK_inj {a b : Bool} (h : boolK a = boolK b) : a = b := by
  unfold boolK at h
  injection h with h
  cases a <;> cases b <;> first | rfl | (simp at h)
theorem Refn.start {L : List Nat → Prop} {N : Nat} {acc : Nat → Bool} {mv : Mv} (A : IsPre L N acc mv) : Refn N acc mv (numL ((List.range N).map fun i => boolK (acc i))) := by
  have g : ∀ {k : Nat}, k < N → ((List.range N).map fun i => boolK (acc i))[k]? = some (boolK (acc k)) := fun {k} hk => by
    rw [List.getElem?_map, List.getElem?_range hk]
    rfl
  have iff_ : ∀ i j : Nat, i < N → j < N → ((numL ((List.range N).map fun i => boolK (acc i)))[i]? = (numL ((List.range N).map fun i => boolK (acc i)))[j]? ↔ acc i = acc j) := fun i j hi hj => by
    have h1 := numL_get (g hi)
    have h2 := numL_get (g hj)
    rw [h1, h2]
    exact ⟨fun h => boolK_inj ((numL_iff (g hi) (g hj) h1 h2).mp (Option.some.inj h)), fun h => by rw [h]⟩
  refine ⟨by rw [numL_len, List.length_map, List.length_range], numL_rg _, fun i j hi hj h => ?_, fun i j hi hj h => (iff_ i j hi hj).mp h⟩
  rw [iff_ i j hi hj]
  have e : ∀ q, accM mv acc q [] ↔ acc q = true := fun q => ⟨fun ⟨t, h1, h2⟩ => by obtain rfl : q = t := Option.some.inj h1; exact h2, fun h => ⟨q, rfl, h⟩⟩
  have := h []
  rw [e, e] at this
  exact Bool.eq_iff_iff.mpr this
/-- the least automaton of an expression, from the last classes -/
theorem aut_of {e : E} {S : List (List Nat)} {mv : Mv} {a : List Nat} (ho : e.ok = true) (B : Bfs e S mv S.length 0) (R : Refn S.length (endsOf e S) mv a) (h : finer mv a = a) : IsAut (MW e) (cntR a) (fun t => endsOf e S (a.idxOf t)) (mvC mv (fun i => a.getD i 0) (fun t => a.idxOf t) (cntR a)) := (R.cls (B.pre ho) h).aut (B.pre ho)
end My
namespace My
open PySem PySem.Spec PyProof.Rows L2
/-! ### a display of one pair whose key is a tuple -/
def tDisp1T (tk tv : TE) : TE := fun σ H Q => ∀ p, H p = none → tk σ (upd H p (.dT [])) fun x H1 => tv σ H1 fun y H2 => H2 p = some (.dT []) ∧ ∃ (k : List L2.Key) (b : Addr), x = .ref b ∧ H2 b = some (.tup (k.map kV)) ∧ Q (.ref p) (upd H2 p (.dT [(k, y)]))
theorem pe_disp1T {X : Cx} {pos : Pos} {ke ve : Expr} {tk tv : TE} (hu : X.A.units + 1 < cLine) (hk : PE X ke tk) (hv : PE X ve tv) : PE X (.Dict [some ke] [ve] pos) (tDisp1T tk tv) := by
  refine ⟨fun pins s σ H Q I q => ?_⟩
  have hn := I.hok.fresh (Nat.le_refl s.heap.objs.size)
  have I1 := I.laid (a := s.heap.objs.size) (o := .dT []) (h' := s.heap.push { cls := .type "dict", data := .dict #[] }) (t' := s.toks) (fun _ _ q => Heap.get?_push_of_some _ q) (Nat.le_refl _) (dt_empty s.heap I.big)
  rw [arm_eval_Dict, zip_pairTrees [some ke] [ve] X.env pos rfl rfl, dictDisplay_pairs (pairTrees [some ke] [ve] X.env pos) (by intro c; cases c) (by show 1 < 17; decide)]
  refine wpAny_bind (wpAny_standAt (wpAny_bind (wpAny_subDictH (knd := tupleKind (mixKind X.prog X.w)) (by show X.A.units < cLine; omega) (by show 1 ≤ 15; decide) ?_)))
  refine pairTrees_cons_walk (thn (hk.run pins _ σ _ _ I1 (q _ hn)) fun u s1 ⟨x, H1, I2, rx, q1⟩ => thn (hv.run pins s1 σ H1 _ I2 q1) fun w2 s2 ⟨y, H2, I3, ry, e, k, b, ex, eb, q2⟩ => pairTrees_nil_walk ?_)
  subst ex
  obtain rfl : u = Value.ref b := rx
  obtain ⟨z, hd, xs0, r0, dd⟩ := dt_of I3.hok e
  cases r0
  refine ⟨[(k, b, w2)], ⟨rfl, rfl, key_of I3.hok eb, trivial⟩, dd, fun h' tk' dd' hs => wpAny_pure ⟨.ref s.heap.objs.size, _, ?_, rfl, q2⟩⟩
  have he : ∃ q, h'.get? s.heap.objs.size = some q := let ⟨q, _, _, hq, _⟩ := dd'; ⟨q, hq⟩
  refine d_write (t' := tk') I3 (by rw [e]; exact True.intro) hs he ?_
  obtain ⟨o, es, ep, h1, h2, h3, h4, _, h5⟩ := dd'
  have nb : b ≠ s.heap.objs.size := ne_of eb e (by intro c; cases c)
  exact ⟨by show 1 ≤ sizeLine; decide, hd, [(k, b, w2)], .cons ⟨rfl, by rw [upd_ne nb]; exact eb, ry⟩ .nil, o, es, ep, h1, h2, h3, h4, h5⟩
end My
namespace My
open PySem PySem.Spec PyProof.Rows L2
/-! ### dicts whose keys are nested tuples -/
inductive NK (H : Hp) : NestedKey → V → Prop
  | non : NK H .none .non
  | bl (b : Bool) : NK H (.num (if b = true then 1 else 0)) (.bl b)
  | int (i : Int) : NK H (.num i) (.int i)
  | str (z : Str) : NK H (.text z) (.str z)
  | tup {p : Addr} {xs : List V} {ks : List NestedKey} (h : H p = some (.tup xs)) (l : xs.length = ks.length) (k : ∀ (i : Nat) (x : V) (d : NestedKey), xs[i]? = some x → ks[i]? = some d → NK H d x) : NK H (.tup ks) (.ref p)
theorem NK.tup2 {H : Hp} {p : Addr} {xs : List V} {ks : List NestedKey} (h : H p = some (.tup xs)) (t : Two (fun x d => NK H d x) xs ks) : NK H (.tup ks) (.ref p) := .tup h t.len fun _ _ _ h1 h2 => t.get2 h1 h2
theorem NK.tk {H H' : Hp} (t : ∀ b xs, H b = some (.tup xs) → H' b = some (.tup xs)) {k : NestedKey} {v : V} (h : NK H k v) : NK H' k v := by
  induction h with
  | non => exact .non
  | bl b => exact .bl b
  | int i => exact .int i
  | str z => exact .str z
  | tup h l _ ih => exact .tup (t _ _ h) l ih
theorem NK.pers {H H' : Hp} (s : Pers H H') {k : NestedKey} {v : V} (h : NK H k v) : NK H' k v := h.tk s.tup
theorem nestedAll_of {h : Heap} : ∀ {vs : List Value} {ks : List NestedKey}, vs.length = ks.length → (∀ (i : Nat) (v : Value) (k : NestedKey), vs[i]? = some v → ks[i]? = some k → NestedIs h k v) → NestedAll h ks vs
  | [], [], _, _ => .nil
  | [], _ :: _, l, _ => by cases l
  | _ :: _, [], l, _ => by cases l
  | v :: vs, k :: ks, l, f => .cons (f 0 v k rfl rfl) (nestedAll_of (Nat.succ.inj l) fun i v' k' h1 h2 => f (i + 1) v' k' h1 h2)
theorem nk_is {P : Program} {w : World} {H : Hp} {h : Heap} (ok : HOk P w H h) {k : NestedKey} {v : V} (n : NK H k v) : ∀ {u : Value}, RelV v u → NestedIs h k u := by
  induction n with
  | non => intro u r; obtain rfl : u = .none := r; exact .none
  | bl b => intro u r; obtain rfl : u = .bool b := r; exact .bool rfl
  | int i => intro u r; obtain ⟨t, rfl⟩ := r; exact .int i t
  | str z => intro u r; obtain ⟨t, rfl⟩ := r; exact .text z t
  | @tup p xs ks hp l _ ih =>
    intro u r
    obtain rfl : u = .ref p := r
    obtain ⟨_, its, rv, o, h1, h2, n, h3⟩ := (show ObjOk P w H h p (.tup xs) from ok p _ hp)
    refine .tup h1 h2 h3 ?_
    have e : its.toArray.toList = its := by simp
    rw [e]
    have rl := rv.length
    refine nestedAll_of (by omega) fun i y d hy hd => ?_
    have hil : i < xs.length := by
      have := (List.getElem?_eq_some_iff.mp hy).1
      omega
    have hx : xs[i]? = some xs[i] := List.getElem?_eq_getElem hil
    obtain ⟨y', h4, h5⟩ := rv.get hx
    rw [hy] at h4
    cases h4
    exact ih i _ d hx hd h5
abbrev NKr : List (NestedKey × V) → List (NestedKey × Addr × Value) → Prop := Paired fun p q => p.1 = q.1 ∧ RelV p.2 q.2.2
theorem NKr.val {kvs : List (NestedKey × V)} {xs : List (NestedKey × Addr × Value)} (r : NKr kvs xs) (k : NestedKey) : RelO (valV kvs k) ((atKey xs k).map (·.2)) := by
  induction r with
  | nil => exact True.intro
  | @cons p q ps qs h _ ih =>
    by_cases e : p.1 = k
    · have b : atKey (q :: qs) k = some q.2 := by simp [atKey, List.find?_cons, h.1.symm.trans e]
      rw [valV_pos e, b]
      exact h.2
    · have e' : ¬ q.1 = k := fun z => e (h.1.trans z)
      have b : atKey (q :: qs) k = atKey qs k := by simp [atKey, List.find?_cons, e']
      rw [valV_neg e, b]
      exact ih
theorem NKr.snoc {kvs : List (NestedKey × V)} {xs : List (NestedKey × Addr × Value)} {p : NestedKey × V} {q : NestedKey × Addr × Value} (r : NKr kvs xs) (h : p.1 = q.1 ∧ RelV p.2 q.2.2) : NKr (kvs ++ [p]) (xs ++ [q]) := by
  induction r with
  | nil => exact .cons h .nil
  | cons h' _ ih => exact .cons h' ih
theorem NKr.repl {kvs : List (NestedKey × V)} {xs : List (NestedKey × Addr × Value)} (r : NKr kvs xs) (k : NestedKey) {y : V} {u : Value} (ry : RelV y u) : NKr (kvs.map fun kv => if kv.1 = k then (kv.1, y) else kv) (xs.map (putAt k u)) := by
  induction r with
  | nil => exact .nil
  | @cons p q ps qs h _ ih =>
    refine .cons ?_ ih
    show (if p.1 = k then (p.1, y) else p).1 = (putAt k u q).1 ∧ RelV (if p.1 = k then (p.1, y) else p).2 (putAt k u q).2.2
    unfold putAt
    by_cases e : p.1 = k
    · rw [if_pos e, if_pos (h.1.symm.trans e)]
      exact ⟨h.1, ry⟩
    · rw [if_neg e, if_neg fun z => e (h.1.trans z)]
      exact h
theorem NKr.put {kvs : List (NestedKey × V)} {xs : List (NestedKey × Addr × Value)} (r : NKr kvs xs) (k : NestedKey) {b : Addr} {y : V} {u : Value} (ry : RelV y u) : NKr (putK kvs k y) (storedH xs k b u) := by
  have e : (kvs.any fun kv => decide (kv.1 = k)) = (atKey xs k).isSome := by rw [valV_any, (r.val k).isSome_eq, Option.isSome_map]
  unfold putK storedH
  rw [e]
  by_cases q : (atKey xs k).isSome = true
  · rw [if_pos q, if_pos q]
    exact r.repl k ry
  · rw [if_neg q, if_neg q]
    exact r.snoc ⟨rfl, ry⟩
/-- the dict's own object, its keys' tuples at `as` -/
def NDict (P : Program) (w : World) (d : Addr) (kvs : List (NestedKey × V)) (as : List Addr) : HO := .ext fun h => (d == sysModules) = false ∧ kvs.length ≤ sizeLine ∧ ∃ xs : List (NestedKey × Addr × Value), NKr kvs xs ∧ xs.map (fun x => x.2.1) = as ∧
  ∃ o es ep, h.get? d = some o ∧ o.ExactDict ∧ o.data = .dict es ep ∧ es.toList = xs.map (entryOfKey (nestedKind P w)) ∧ (xs.map (·.1)).Nodup
def KeysTk (H : Hp) (ks : List NestedKey) (as : List Addr) : Prop := Two (fun k a => NK H k (.ref a) ∧ k.depth ≤ 8) ks as
/-- at d stands a dict of nested keys -/
def NDAt (P : Program) (w : World) (H : Hp) (d : Addr) (kvs : List (NestedKey × V)) : Prop := ∃ as, H d = some (NDict P w d kvs as) ∧ KeysTk H (kvs.map (·.1)) as
theorem NDAt.tk {P : Program} {w : World} {H H' : Hp} {d : Addr} {kvs : List (NestedKey × V)} (h : NDAt P w H d kvs) (e : H' d = H d) (t : ∀ b xs, H b = some (.tup xs) → H' b = some (.tup xs)) : NDAt P w H' d kvs := by
  obtain ⟨as, h1, h2⟩ := h
  exact ⟨as, e.trans h1, h2.mono fun k a q => ⟨q.1.tk t, q.2⟩⟩
theorem NDAt.same {P : Program} {w : World} {H H' : Hp} {d : Addr} {kvs : List (NestedKey × V)} (h : NDAt P w H d kvs) (s : Same H H') : NDAt P w H' d kvs := by
  have ⟨as, h1, _⟩ := h
  exact h.tk ((s _ _ h1).trans h1.symm) fun b xs q => s _ _ q
theorem ndict_ok {P : Program} {w : World} {H : Hp} {h : Heap} {d : Addr} {kvs : List (NestedKey × V)} {as : List Addr} {xs : List (NestedKey × Addr × Value)} (hd : (d == sysModules) = false) (hl : kvs.length ≤ sizeLine) (r : NKr kvs xs) (e : xs.map (fun x => x.2.1) = as) (m : h.DictOfH (nestedKind P w) d xs) : ObjOk P w H h d (NDict P w d kvs as) := by
  obtain ⟨o, es, ep, h1, h2, h3, h4, _, h5⟩ := m
  refine ⟨⟨hd, hl, xs, r, e, o, es, ep, h1, h2, h3, h4, h5⟩, ⟨o, h1⟩, fun g1 g2 p k => ?_⟩
  obtain ⟨a1, a2, ys, a3, a4, o', es', ep', b1, b2⟩ := p
  exact ⟨a1, a2, ys, a3, a4, o', es', ep', k _ b1, b2⟩
section
variable {X : Cx} {pins : List (Addr × Obj)} {σ : L2.St} {H : Hp} {s : Shared} {d b : Addr} {k : NestedKey} {A : Around} {E : Value → Shared → Prop}
theorem nd_get {kvs : List (NestedKey × V)} (I : Inv X pins σ H s) (h : NDAt X.prog X.w H d kvs) : (d == sysModules) = false ∧ kvs.length ≤ sizeLine ∧ ∃ as xs, H d = some (NDict X.prog X.w d kvs as) ∧ KeysTk H (kvs.map (·.1)) as ∧ NKr kvs xs ∧ xs.map (fun x => x.2.1) = as ∧ s.heap.DictOfH (nestedKind X.prog X.w) d xs := by
  obtain ⟨as, h1, h2⟩ := h
  obtain ⟨⟨hd, hl, xs, r, e, o, es, ep, q1, q2, q3, q4, q5⟩, _, _⟩ := (show ObjOk X.prog X.w H s.heap d (NDict X.prog X.w d kvs as) from I.hok d _ h1)
  refine ⟨hd, hl, as, xs, h1, h2, r, e, o, es, ep, q1, q2, q3, q4, fun x hx => ?_, q5⟩
  have all : ∀ {l : List (NestedKey × V)} {m : List (NestedKey × Addr × Value)}, NKr l m → ∀ as, m.map (fun x => x.2.1) = as → KeysTk H (l.map (·.1)) as → ∀ x ∈ m, (nestedKind X.prog X.w).is s.heap x.1 x.2.1 := by
    intro l m q
    induction q with
    | nil => intro as _ _ x hx; cases hx
    | @cons p q ps qs hq t ih =>
      intro as e2 kk x hx
      subst e2
      cases kk with
      | cons k1 k2 =>
        rcases List.mem_cons.mp hx with e3 | hx
        · subst e3
          refine ⟨nk_is I.hok (v := .ref x.2.1) (by rw [← hq.1]; exact k1.1) rfl, by rw [← hq.1]; exact k1.2⟩
        · exact ih _ rfl k2 x hx
  exact all r as e h2 x hx
theorem nd_type {kvs : List (NestedKey × V)} (I : Inv X pins σ H s) (h : NDAt X.prog X.w H d kvs) : s.TypeIs (.ref d) "dict" ∧ (∀ b, Value.ref d = .ref b → ∃ ob, s.heap.get? b = some ob ∧ ob.dict = none) := by
  obtain ⟨_, _, _, _, _, _, _, _, m⟩ := nd_get I h
  refine ⟨m.typeIs, fun b q => ?_⟩
  cases q
  obtain ⟨ob, _, _, h1, h2, _⟩ := m
  exact ⟨ob, h1, h2.2.1⟩
/-- what a store leaves -/
structure NDPut (P : Program) (w : World) (H H' : Hp) (d : Addr) (kvs : List (NestedKey × V)) : Prop where
  at_ : NDAt P w H' d kvs
  keep : ∀ b, b ≠ d → H' b = H b
theorem nd_write {kvs : List (NestedKey × V)} {as : List Addr} {xs : List (NestedKey × Addr × Value)} {v : V} {u : Value} {t' : Nat} {h' : Heap} (I : Inv X pins σ H s) (hd : (d == sysModules) = false) (e1 : H d = some (NDict X.prog X.w d kvs as)) (ka : KeysTk H (kvs.map (·.1)) as) (r : NKr kvs xs) (e : xs.map (fun x => x.2.1) = as) (kk : NK H k (.ref b)) (kd : k.depth ≤ 8) (rv : RelV v u) (hl : kvs.length < sizeLine)
    (m : h'.DictOfH (nestedKind X.prog X.w) d (storedH xs k b u)) (hs : Heap.SameBut d s.heap h') : ∃ H', NDPut X.prog X.w H H' d (putK kvs k v) ∧ Inv X pins σ H' { s with heap := h', toks := t' } := by
  have he : ∃ q, h'.get? d = some q := let ⟨q, _, _, hq, _⟩ := m; ⟨q, hq⟩
  have hl2 : (putK kvs k v).length ≤ sizeLine := by have := length_putK kvs k v; omega
  refine ⟨upd H d (NDict X.prog X.w d (putK kvs k v) ((storedH xs k b u).map fun x => x.2.1)), ⟨⟨_, upd_same, ?_⟩, fun b hb => upd_ne hb⟩, d_write (t' := t') I (by rw [e1]; exact True.intro) hs he (ndict_ok hd hl2 (r.put k rv) rfl m)⟩
  have tk : ∀ c ys, H c = some (.tup ys) → (upd H d (NDict X.prog X.w d (putK kvs k v) ((storedH xs k b u).map fun x => x.2.1))) c = some (.tup ys) := fun c ys q => by
    rw [upd_ne fun z => by rw [z, e1] at q; cases q]
    exact q
  have ka' : KeysTk (upd H d (NDict X.prog X.w d (putK kvs k v) ((storedH xs k b u).map fun x => x.2.1))) (kvs.map (·.1)) as := ka.mono fun k a q => ⟨q.1.tk tk, q.2⟩
  have ee : (kvs.any fun kv => decide (kv.1 = k)) = (atKey xs k).isSome := by rw [valV_any, (r.val k).isSome_eq, Option.isSome_map]
  have pk : putK kvs k v = if (kvs.any fun kv => decide (kv.1 = k)) = true then kvs.map (fun kv => if kv.1 = k then (kv.1, v) else kv) else kvs ++ [(k, v)] := rfl
  have sh : storedH xs k b u = if (atKey xs k).isSome = true then xs.map (putAt k u) else xs ++ [(k, b, u)] := rfl
  by_cases q : (atKey xs k).isSome = true
  · have e2 : (putK kvs k v).map (·.1) = kvs.map (·.1) := by
      rw [pk, if_pos (ee.trans q), List.map_map]
      refine List.map_congr_left fun x _ => ?_
      show (if x.1 = k then (x.1, v) else x).1 = x.1
      split <;> rfl
    have e3 : (storedH xs k b u).map (fun x => x.2.1) = as := by
      rw [sh, if_pos q, List.map_map, ← e]
      refine List.map_congr_left fun x _ => ?_
      show (putAt k u x).2.1 = x.2.1
      unfold putAt
      split <;> rfl
    rw [e2]
    rw [e3] at ka' ⊢
    exact ka'
  · have e2 : (putK kvs k v).map (·.1) = kvs.map (·.1) ++ [k] := by
      rw [pk, if_neg (by rw [ee]; exact q), List.map_append]
      rfl
    have e3 : (storedH xs k b u).map (fun x => x.2.1) = as ++ [b] := by
      rw [sh, if_neg q, List.map_append, e]
      rfl
    rw [e2]
    rw [e3] at ka' tk ⊢
    exact ka'.app (.cons ⟨kk.tk tk, kd⟩ .nil)
end
/-- {} for nested keys -/
def tDNewN (P : Program) (w : World) : TE := fun _ H Q => ∀ p H', H p = none → NDPut P w H H' p [] → Q (.ref p) H'
theorem pe_dnewN {X : Cx} {pos : Pos} : PE X (.Dict [] [] pos) (tDNewN X.prog X.w) := ⟨fun pins s σ H Q I h => by
  have hb : sysModules < s.heap.objs.size := Inv.big I
  have hd : (s.heap.objs.size == sysModules) = false := by
    rw [beq_eq_false_iff_ne]
    exact Nat.ne_of_gt hb
  have new : ObjOk X.prog X.w (upd H s.heap.objs.size (NDict X.prog X.w s.heap.objs.size [] [])) (s.heap.push { cls := .type "dict", data := .dict #[] }) s.heap.objs.size (NDict X.prog X.w s.heap.objs.size [] []) := ndict_ok (xs := []) hd (Nat.zero_le _) .nil rfl (Heap.DictOfH.new s.heap)
  refine wpAny_Dict_empty ⟨.ref s.heap.objs.size, _, I.laid (a := s.heap.objs.size) (t' := s.toks) (fun _ _ q => Heap.get?_push_of_some _ q) (Nat.le_refl _) new, rfl, h _ _ (I.hok.fresh (Nat.le_refl _)) ⟨⟨[], upd_same, .nil⟩, fun b hb => upd_ne hb⟩⟩⟩
theorem room8 {A : Around} {k : Nat} (r : Room k A) : A.in1.units + 8 < cLine := by
  have := r.un
  show A.units + 1 + 8 < cLine
  omega
/-- d.setdefault(y, z), y a nested key -/
def tNSetd (P : Program) (w : World) (td ty tx : TE) : TE := fun σ H Q => td σ H fun x H1 => ∃ a kvs0, x = .ref a ∧ NDAt P w H1 a kvs0 ∧ ty σ H1 fun y H2 => tx σ H2 fun z H3 => ∃ (kvs : List (NestedKey × V)) (k : NestedKey) (b : Addr), NDAt P w H3 a kvs ∧ y = .ref b ∧ NK H3 k (.ref b) ∧ k.depth ≤ 8 ∧ kvs.length < sizeLine ∧
  (∀ v, valV kvs k = some v → Q v H3) ∧ (valV kvs k = none → ∀ H4, NDPut P w H3 H4 a (kvs ++ [(k, z)]) → Q z H4)
section
variable {X : Cx} {o e f i value : Expr} {td ty tx tv : TE} {apos cpos pos pos' : Pos}
theorem pe_nsetd (hu : X.A.in1.units + 8 < cLine) (ho : PE X o td) (he : PE X e ty) (hf : PE X f tx) (m : M2 X o "setdefault" apos e f cpos) : PE X (.Call (.Attribute o "setdefault" apos) [e, f] [] cpos) (tNSetd X.prog X.w td ty tx) := by
  refine ⟨fun pins s σ H Q I h => ?_⟩
  refine wpAny_Call_method m.base m.few m.line PySem.F.plainAttrs_dict PySem.F.slot_dict_setdefault PySem.F.type_dict_setdefault (thn (ho.run pins s σ H _ I h) fun u s1 ⟨x, H1, I1, rx, a, kvs0, ex, d, q1⟩ => ?_)
  subst ex
  obtain rfl : u = Value.ref a := rx
  obtain ⟨t1, t2⟩ := nd_type I1 d
  refine ⟨t1, t2, ?_⟩
  rw [m.trees]
  refine Calls.callWith_builtin rfl (Calls.evalArgs_plain (Calls.spliced_cons (thn (he.run pins s1 σ H1 _ I1 q1) fun iv s2 ⟨y, H2, I2, ry, q2⟩ =>
    Calls.spliced_cons (thn (hf.run pins s2 σ H2 _ I2 q2) fun fv s3 ⟨z, H3, I3, rz, kvs, k, b, nd, ey, hk, hdp, hl, q3, q4⟩ => Calls.spliced_nil ?_))))
  subst ey
  obtain rfl : iv = Value.ref b := ry
  obtain ⟨hd, _, as, xs, e1, ka, r, e2, mm⟩ := nd_get I3 nd
  have hz : xs.length ≤ sizeLine := by
    have := Paired.length r
    omega
  refine call_setdefault_heap (knd := nestedKind X.prog X.w) (k := k) hu ⟨nk_is I3.hok hk rfl, hdp⟩ hd mm (fun p hp => ?_) (fun hn h' m' hs => ?_) hz
  · have q := r.val k
    rw [hp] at q
    cases q0 : valV kvs k with
    | none => rw [q0] at q; exact (show False from q).elim
    | some v0 =>
      rw [q0] at q
      exact ⟨v0, H3, I3.tok _, q, q3 v0 q0⟩
  · have q := r.val k
    rw [hn] at q
    cases q0 : valV kvs k with
    | some v0 => rw [q0] at q; exact (show False from q).elim
    | none =>
      obtain ⟨H4, put, I4⟩ := nd_write (t' := s3.toks + (nestedKind X.prog X.w).draws k) I3 hd e1 ka r e2 hk hdp rz hl m' hs
      rw [putK_new z q0] at put
      exact ⟨z, H4, I4, rz, q4 q0 H4 put⟩
/-- d[y], there -/
def tNGet (P : Program) (w : World) (td ty : TE) : TE := fun σ H Q => td σ H fun x H1 => ty σ H1 fun y H2 => ∃ (a : Addr) (kvs : List (NestedKey × V)) (k : NestedKey) (b : Addr) (v : V), x = .ref a ∧ y = .ref b ∧ NDAt P w H2 a kvs ∧ NK H2 k (.ref b) ∧ k.depth ≤ 8 ∧ valV kvs k = some v ∧ Q v H2
theorem pe_nget (hu : X.A.in1.units + 8 < cLine) (ho : PE X o td) (hi : PE X i ty) (hs : NoSl i) : PE X (.Subscript o i pos) (tNGet X.prog X.w td ty) := by
  refine ⟨fun pins s σ H Q I h => ?_⟩
  refine subD_of PySem.F.slot_dict_getitem.lookup hs (thn (ho.run pins s σ H _ I h) fun u s1 ⟨x, H1, I1, rx, q1⟩ => thn (hi.run pins s1 σ H1 _ I1 q1) fun iv s2 ⟨y, H2, I2, ry, a, kvs, k, b, v, ex, ey, nd, hk, hdp, hv, q2⟩ => ?_)
  subst ex ey
  obtain rfl : u = Value.ref a := rx
  obtain rfl : iv = Value.ref b := ry
  obtain ⟨hd, _, as, xs, e1, ka, r, e2, mm⟩ := nd_get I2 nd
  have q := r.val k
  rw [hv] at q
  cases q0 : (atKey xs k).map (·.2) with
  | none => rw [q0] at q; exact (show False from q).elim
  | some u0 =>
    rw [q0] at q
    obtain ⟨p, hp, rfl⟩ := Option.map_eq_some_iff.mp q0
    exact ⟨mm.typeIs, wpAny_getItem_heap (knd := nestedKind X.prog X.w) hu ⟨nk_is I2.hok hk rfl, hdp⟩ mm hp ⟨v, H2, I2.tok _, q, q2⟩⟩
/-- d[y] = v -/
def sNPut (P : Program) (w : World) (td ty tv : TE) : TS := fun D σ H => tv σ H fun v H1 => td σ H1 fun x H2 => ty σ H2 fun y H3 => ∃ (a : Addr) (kvs : List (NestedKey × V)) (k : NestedKey) (b : Addr), x = .ref a ∧ y = .ref b ∧ NDAt P w H3 a kvs ∧ NK H3 k (.ref b) ∧ k.depth ≤ 8 ∧ kvs.length < sizeLine ∧ ∀ H4, NDPut P w H3 H4 a (putK kvs k v) → D.nx σ H4
theorem ps_nput (hu : X.A.in1.units + 8 < cLine) (ho : PE X o td) (hi : PE X i ty) (hv : PE X value tv) (hs : swapsWith value (some (.Subscript o i pos')) pos.line X.env = pure false) : PS X (.Assign [.Subscript o i pos'] value pos) (sNPut X.prog X.w td ty tv) := by
  refine ⟨fun pins s σ H D I h => ?_⟩
  refine wpAny_Assign_Subscript (thn (hv.run pins s σ H _ I h) fun r s1 ⟨v, H1, I1, rv, q1⟩ => thn (ho.run pins s1 σ H1 _ I1 q1) fun u s2 ⟨x, H2, I2, rx, q2⟩ => thn (hi.run pins s2 σ H2 _ I2 q2) fun iv s3 ⟨y, H3, I3, ry, a, kvs, k, b, ex, ey, nd, hk, hdp, hl, q3⟩ => ?_) hs
  subst ex ey
  obtain rfl : u = Value.ref a := rx
  obtain rfl : iv = Value.ref b := ry
  obtain ⟨hd, _, as, xs, e1, ka, rr, e2, mm⟩ := nd_get I3 nd
  have hz : xs.length ≤ sizeLine := by
    have := Paired.length rr
    omega
  refine wpAny_setItem_heap (knd := nestedKind X.prog X.w) (k := k) hu ⟨nk_is I3.hok hk rfl, hdp⟩ mm (fun h' m' hs' => ?_) hz
  obtain ⟨H4, put, I4⟩ := nd_write (t' := s3.toks + (nestedKind X.prog X.w).draws k) I3 hd e1 ka rr e2 hk hdp rv hl m' hs'
  exact ⟨σ, H4, I4, q3 H4 put⟩
end
/-- len(d) -/
def rLenN (P : Program) (w : World) : List V → Hp → VK → Prop := fun xs H Q => ∃ a kvs, xs = [V.ref a] ∧ NDAt P w H a kvs ∧ Q (.int (kvs.length : Nat)) H
theorem call_lenN {X : Cx} : CallR X (.builtin "len") (rLenN X.prog X.w) := by
  intro pins s σ H xs us Q I r h
  obtain ⟨a, kvs, rfl, nd, q⟩ := h
  obtain ⟨u, rfl, ru⟩ := vals1 r
  obtain rfl : u = .ref a := ru
  obtain ⟨hd, hl, as, xs, e1, ka, rr, e2, mm⟩ := nd_get I nd
  have el : kvs.length = xs.length := Paired.length rr
  refine call_len_dictH (knd := nestedKind X.prog X.w) hd mm (by rw [sizeLine_eq] at hl; omega) ?_
  exact ⟨.int (kvs.length : Nat), H, I.tok _, ⟨_, by rw [el]⟩, q⟩
/-! ### dicts whose keys are True and False (or other plain values) -/
def LK : Leaf → V → Prop
  | .num i, .int j => i = j
  | .num i, .bl b => i = if b = true then 1 else 0
  | .text x, .str z => x = z
  | .none, .non => True
  | _, _ => False
theorem lk_is {k : Leaf} {v : V} {u : Value} (h : LK k v) (r : RelV v u) : Leaf.isOf k u = true := by
  cases k with
  | none =>
    cases v with
    | non => obtain rfl : u = .none := r; rfl
    | _ => exact h.elim
  | num i =>
    cases v with
    | int j =>
      obtain ⟨t, rfl⟩ := r
      obtain rfl : i = j := h
      exact decide_eq_true rfl
    | bl b =>
      obtain rfl : u = .bool b := r
      exact decide_eq_true (Eq.symm h)
    | _ => exact h.elim
  | text x =>
    cases v with
    | str z =>
      obtain ⟨t, rfl⟩ := r
      obtain rfl : x = z := h
      show (x == x) = true
      exact beq_self_eq_true x
    | _ => exact h.elim
def LDict (P : Program) (w : World) (d : Addr) (kvs : List (Leaf × V)) : HO := .ext fun h => (d == sysModules) = false ∧ kvs.length ≤ sizeLine ∧ ∃ vs, KV kvs vs ∧ h.DictOf (leafKind P w) d vs
theorem ldict_ok {P : Program} {w : World} {H : Hp} {h : Heap} {d : Addr} {kvs : List (Leaf × V)} {vs : List (Leaf × Value)} (hd : (d == sysModules) = false) (hl : kvs.length ≤ sizeLine) (r : KV kvs vs) (m : h.DictOf (leafKind P w) d vs) : ObjOk P w H h d (LDict P w d kvs) := by
  have ⟨o, es, ep, h1, _⟩ := m
  refine ⟨⟨hd, hl, vs, r, m⟩, ⟨o, h1⟩, fun g1 g2 p k => ?_⟩
  obtain ⟨a1, a2, us, a3, o', es', ep', b1, b2⟩ := p
  exact ⟨a1, a2, us, a3, o', es', ep', k _ b1, b2⟩
section
variable {X : Cx} {pins : List (Addr × Obj)} {σ : L2.St} {H : Hp} {s : Shared} {d : Addr}
theorem ld_get {kvs : List (Leaf × V)} (I : Inv X pins σ H s) (h : H d = some (LDict X.prog X.w d kvs)) : (d == sysModules) = false ∧ kvs.length ≤ sizeLine ∧ ∃ vs, KV kvs vs ∧ s.heap.DictOf (leafKind X.prog X.w) d vs := by
  obtain ⟨⟨hd, hl, vs, r, m⟩, _, _⟩ := (show ObjOk X.prog X.w H s.heap d (LDict X.prog X.w d kvs) from I.hok d _ h)
  exact ⟨hd, hl, vs, r, m⟩
theorem ld_type {kvs : List (Leaf × V)} (I : Inv X pins σ H s) (h : H d = some (LDict X.prog X.w d kvs)) : s.TypeIs (.ref d) "dict" ∧ (∀ b, Value.ref d = .ref b → ∃ ob, s.heap.get? b = some ob ∧ ob.dict = none) := by
  obtain ⟨_, _, _, _, m⟩ := ld_get I h
  refine ⟨m.typeIs, fun b q => ?_⟩
  cases q
  obtain ⟨ob, _, _, h1, h2, _⟩ := m
  exact ⟨ob, h1, h2.2.1⟩
end
def tDNewL (P : Program) (w : World) : TE := fun _ H Q => ∀ p, H p = none → Q (.ref p) (upd H p (LDict P w p []))
theorem pe_dnewL {X : Cx} {pos : Pos} : PE X (.Dict [] [] pos) (tDNewL X.prog X.w) := ⟨fun pins s σ H Q I h => by
  have hb : sysModules < s.heap.objs.size := Inv.big I
  have hd : (s.heap.objs.size == sysModules) = false := by
    rw [beq_eq_false_iff_ne]
    exact Nat.ne_of_gt hb
  have new : ObjOk X.prog X.w (upd H s.heap.objs.size (LDict X.prog X.w s.heap.objs.size [])) (s.heap.push { cls := .type "dict", data := .dict #[] }) s.heap.objs.size (LDict X.prog X.w s.heap.objs.size []) := ldict_ok (vs := []) hd (Nat.zero_le _) .nil (Heap.DictOf.new s.heap)
  refine wpAny_Dict_empty ⟨.ref s.heap.objs.size, _, I.laid (a := s.heap.objs.size) (t' := s.toks) (fun _ _ q => Heap.get?_push_of_some _ q) (Nat.le_refl _) new, rfl, h _ (I.hok.fresh (Nat.le_refl _))⟩⟩
/-- d.setdefault(y, z), y a plain value -/
def tLSetd (P : Program) (w : World) (td ty tx : TE) : TE := fun σ H Q => td σ H fun x H1 => ∃ a kvs0, x = .ref a ∧ H1 a = some (LDict P w a kvs0) ∧ ty σ H1 fun y H2 => tx σ H2 fun z H3 => ∃ (kvs : List (Leaf × V)) (k : Leaf), H3 a = some (LDict P w a kvs) ∧ LK k y ∧ kvs.length < sizeLine ∧
  (∀ v, valV kvs k = some v → Q v H3) ∧ (valV kvs k = none → Q z (upd H3 a (LDict P w a (kvs ++ [(k, z)]))))
section
variable {X : Cx} {o e f i value : Expr} {td ty tx tv : TE} {apos cpos pos pos' : Pos}
theorem pe_lsetd (ho : PE X o td) (he : PE X e ty) (hf : PE X f tx) (m : M2 X o "setdefault" apos e f cpos) : PE X (.Call (.Attribute o "setdefault" apos) [e, f] [] cpos) (tLSetd X.prog X.w td ty tx) := by
  refine ⟨fun pins s σ H Q I h => ?_⟩
  refine wpAny_Call_method m.base m.few m.line PySem.F.plainAttrs_dict PySem.F.slot_dict_setdefault PySem.F.type_dict_setdefault (thn (ho.run pins s σ H _ I h) fun u s1 ⟨x, H1, I1, rx, a, kvs0, ex, d, q1⟩ => ?_)
  subst ex
  obtain rfl : u = Value.ref a := rx
  obtain ⟨t1, t2⟩ := ld_type I1 d
  refine ⟨t1, t2, ?_⟩
  rw [m.trees]
  refine Calls.callWith_builtin rfl (Calls.evalArgs_plain (Calls.spliced_cons (thn (he.run pins s1 σ H1 _ I1 q1) fun iv s2 ⟨y, H2, I2, ry, q2⟩ =>
    Calls.spliced_cons (thn (hf.run pins s2 σ H2 _ I2 q2) fun fv s3 ⟨z, H3, I3, rz, kvs, k, ha, hk, hl, q3, q4⟩ => Calls.spliced_nil ?_))))
  obtain ⟨hd, _, vs, rel, dd⟩ := ld_get I3 ha
  have hz : vs.length ≤ sizeLine := by
    have := Paired.length rel
    omega
  refine call_meetsIn PySem.F.slot_dict_setdefault dd.typeIs PySem.F.entry_dict_setdefault (PySem.F.args_dict_setdefault_3 _ _ _) (kt_meets_setdefault (leafKind X.prog X.w) (k := k) a (lk_is hk ry) hd fv) ⟨vs, dd, hz, fun v hv => ?_, fun hn h' dd' hs => ?_⟩
  · have q := rel.val k
    rw [hv] at q
    cases q0 : valV kvs k with
    | none => rw [q0] at q; exact (show False from q).elim
    | some v0 => rw [q0] at q; exact ⟨v0, H3, I3.tok _, q, q3 v0 q0⟩
  · have q := rel.val k
    rw [hn] at q
    cases q0 : valV kvs k with
    | some v0 => rw [q0] at q; exact (show False from q).elim
    | none =>
      have hl2 : (putK kvs k z).length ≤ sizeLine := by
        have := length_putK kvs k z
        omega
      have hex : ∃ q, h'.get? a = some q := let ⟨q, _, _, hq, _⟩ := dd'; ⟨q, hq⟩
      have I4 := d_write (t' := s3.toks + 1) I3 (by rw [ha]; exact True.intro) hs hex (ldict_ok hd hl2 (rel.put k rz) dd')
      rw [putK_new z q0] at I4
      exact ⟨z, _, I4, rz, q4 q0⟩
/-- d[y], there -/
def tLGet (P : Program) (w : World) (td ty : TE) : TE := fun σ H Q => td σ H fun x H1 => ty σ H1 fun y H2 => ∃ (a : Addr) (kvs : List (Leaf × V)) (k : Leaf) (v : V), x = .ref a ∧ H2 a = some (LDict P w a kvs) ∧ LK k y ∧ valV kvs k = some v ∧ Q v H2
theorem pe_lget (ho : PE X o td) (hi : PE X i ty) (hs : NoSl i) : PE X (.Subscript o i pos) (tLGet X.prog X.w td ty) := by
  refine ⟨fun pins s σ H Q I h => ?_⟩
  refine subD_of PySem.F.slot_dict_getitem.lookup hs (thn (ho.run pins s σ H _ I h) fun u s1 ⟨x, H1, I1, rx, q1⟩ => thn (hi.run pins s1 σ H1 _ I1 q1) fun iv s2 ⟨y, H2, I2, ry, a, kvs, k, v, ex, ha, hk, hv, q2⟩ => ?_)
  subst ex
  obtain rfl : u = Value.ref a := rx
  obtain ⟨hd, _, vs, rel, dd⟩ := ld_get I2 ha
  have q := rel.val k
  rw [hv] at q
  cases q0 : valueAt vs k with
  | none => rw [q0] at q; exact (show False from q).elim
  | some u0 =>
    rw [q0] at q
    exact ⟨dd.typeIs, wpAny_getItem_of (lk_is hk ry) dd.mapOf q0 ⟨v, H2, I2.tok _, q, q2⟩⟩
end
def rLenL (P : Program) (w : World) : List V → Hp → VK → Prop := fun xs H Q => ∃ a kvs, xs = [V.ref a] ∧ H a = some (LDict P w a kvs) ∧ Q (.int (kvs.length : Nat)) H
theorem call_lenL {X : Cx} : CallR X (.builtin "len") (rLenL X.prog X.w) := by
  intro pins s σ H xs us Q I r h
  obtain ⟨a, kvs, rfl, ha, q⟩ := h
  obtain ⟨u, rfl, ru⟩ := vals1 r
  obtain rfl : u = .ref a := ru
  obtain ⟨hd, hl, vs, rel, dd⟩ := ld_get I ha
  have el : kvs.length = vs.length := Paired.length rel
  refine call_len_dict hd dd (by rw [sizeLine_eq] at hl; omega) ?_
  exact ⟨.int (kvs.length : Nat), H, I.tok _, ⟨_, by rw [el]⟩, q⟩
end My
namespace My
open PySem PySem.Spec PyProof.Rows L2
/-! ### automata in the heap -/
def keyS (s : List Nat) : List L2.Key := s.map fun (n : Nat) => Sum.inl (n : Int)
theorem keyS_inj {a b : List Nat} (h : keyS a = keyS b) : a = b := by
  unfold keyS at h
  refine List.map_inj_right (f := fun (n : Nat) => (Sum.inl (n : Int) : L2.Key)) (fun x y e => ?_) |>.mp h
  have := Sum.inl.inj e
  omega
theorem keyS_kV (s : List Nat) : (keyS s).map kV = natsV s := by
  unfold keyS natsV
  rw [List.map_map]
  rfl
/-- the numbers of the sets -/
def numKo : List (List Nat) → Nat → List (List L2.Key × V)
  | [], _ => []
  | s :: S, o => (keyS s, V.int ((o : Nat) : Int)) :: numKo S (o + 1)
theorem numKo_len : ∀ (S : List (List Nat)) (o : Nat), (numKo S o).length = S.length
  | [], _ => rfl
  | s :: S, o => by rw [numKo, List.length_cons, List.length_cons, numKo_len S]
theorem numKo_snoc : ∀ (S : List (List Nat)) (o : Nat) (s : List Nat), numKo (S ++ [s]) o = numKo S o ++ [(keyS s, V.int ((o + S.length : Nat) : Int))]
  | [], o, s => rfl
  | t :: S, o, s => by
    show _ :: numKo (S ++ [s]) (o + 1) = _ :: (numKo S (o + 1) ++ _)
    rw [numKo_snoc S, List.length_cons, show o + 1 + S.length = o + (S.length + 1) by omega]
theorem numKo_none : ∀ (S : List (List Nat)) (o : Nat) (s : List Nat), s ∉ S → valV (numKo S o) (keyS s) = none
  | [], _, _, _ => rfl
  | t :: S, o, s, h => by
    rw [numKo, valV_neg fun e => h (by rw [keyS_inj e]; exact List.mem_cons_self ..)]
    exact numKo_none S _ s fun k => h (List.mem_cons_of_mem _ k)
theorem numKo_get : ∀ (S : List (List Nat)) (o : Nat) (s : List Nat) (j : Nat), S.Nodup → S[j]? = some s → valV (numKo S o) (keyS s) = some (.int ((o + j : Nat) : Int))
  | t :: S, o, s, 0, _, h => by
    obtain rfl : t = s := Option.some.inj h
    rw [numKo, valV_pos rfl]
    rfl
  | t :: S, o, s, j + 1, nd, h => by
    rw [List.nodup_cons] at nd
    rw [numKo, valV_neg fun e => nd.1 (by rw [keyS_inj e]; exact List.mem_of_getElem? h), numKo_get S (o + 1) s j nd.2 h, show o + 1 + j = o + (j + 1) by omega]
def symK (c : Nat) : L2.Key := Sum.inr ⟨#[c]⟩
theorem symK_inj {c d : Nat} (h : symK c = symK d) : c = d := by
  have e1 : (⟨#[c]⟩ : Str) = ⟨#[d]⟩ := Sum.inr.inj h
  have e2 := congrArg (fun s : Str => s.cps.toList) e1
  exact (List.cons.inj e2).1
/-- the dict of a row of moves -/
def rowK (f : Nat → Option Nat) (cs : List Nat) : List (L2.Key × V) := cs.filterMap fun c => (f c).map fun t => (symK c, V.int ((t : Nat) : Int))
theorem rowK_snoc (f : Nat → Option Nat) (cs : List Nat) (c : Nat) : rowK f (cs ++ [c]) = rowK f cs ++ (match f c with | some t => [(symK c, V.int ((t : Nat) : Int))] | none => []) := by
  unfold rowK
  rw [List.filterMap_append]
  congr 1
  cases h : f c with
  | none => simp [List.filterMap_cons, h]
  | some t => simp [List.filterMap_cons, h]
theorem rowK_congr {f g : Nat → Option Nat} {cs : List Nat} (h : ∀ c ∈ cs, f c = g c) : rowK f cs = rowK g cs := by
  unfold rowK
  induction cs with
  | nil => rfl
  | cons c cs ih =>
    rw [List.filterMap_cons, List.filterMap_cons, h c (List.mem_cons_self ..), ih fun d hd => h d (List.mem_cons_of_mem _ hd)]
theorem rowK_get (f : Nat → Option Nat) : ∀ (cs : List Nat) (c : Nat), valV (rowK f cs) (symK c) = if c ∈ cs then (f c).map fun (t : Nat) => V.int ((t : Nat) : Int) else none
  | [], c => by rw [if_neg (by simp)]; rfl
  | d :: cs, c => by
    have ih := rowK_get f cs c
    unfold rowK at ih ⊢
    rw [List.filterMap_cons]
    by_cases e : c = d
    · subst e
      rw [if_pos (List.mem_cons_self ..)]
      cases h : f c with
      | none =>
        show valV (List.filterMap _ cs) (symK c) = none
        rw [ih]
        split
        · rw [h]; rfl
        · rfl
      | some t => exact valV_pos (p := (symK c, V.int ((t : Nat) : Int))) rfl
    · have mm : (c ∈ d :: cs) ↔ c ∈ cs := by rw [List.mem_cons]; exact ⟨fun h => h.resolve_left e, .inr⟩
      have goal : valV (List.filterMap (fun c => (f c).map fun t => (symK c, V.int ((t : Nat) : Int))) cs) (symK c) = if c ∈ d :: cs then (f c).map fun (t : Nat) => V.int ((t : Nat) : Int) else none := by
        rw [ih]
        by_cases hc : c ∈ cs
        · rw [if_pos hc, if_pos (mm.mpr hc)]
        · rw [if_neg hc, if_neg fun k => hc (mm.mp k)]
      cases h : f d with
      | none => exact goal
      | some t =>
        show valV ((symK d, V.int ((t : Nat) : Int)) :: List.filterMap _ cs) (symK c) = _
        rw [valV_neg (p := (symK d, V.int ((t : Nat) : Int))) fun k => e (symK_inj k).symm]
        exact goal
theorem rowK_len (f : Nat → Option Nat) (cs : List Nat) : (rowK f cs).length ≤ cs.length := by
  unfold rowK
  exact List.length_filterMap_le _ _
/-- a row of moves stands at a value -/
def RowD (H : Hp) (v : V) (f : Nat → Option Nat) : Prop := ∃ d, v = .ref d ∧ H d = some (.dK (rowK f lets4))
theorem RowD.same {H H' : Hp} {v : V} {f : Nat → Option Nat} (s : Same H H') (h : RowD H v f) : RowD H' v f := by
  obtain ⟨d, h1, h2⟩ := h
  exact ⟨d, h1, s _ _ h2⟩
def TpS (H : Hp) (v : V) (s : List Nat) : Prop := ∃ a, v = .ref a ∧ H a = some (.tup (natsV s))
theorem TpS.same {H H' : Hp} {v : V} {l : List Nat} (s : Same H H') (h : TpS H v l) : TpS H' v l := by
  obtain ⟨d, h1, h2⟩ := h
  exact ⟨d, h1, s _ _ h2⟩
/-- all but what stands at some places -/
def KeepX (X : List Addr) (H H' : Hp) : Prop := ∀ b o, H b = some o → b ∉ X → H' b = some o
theorem KeepX.same {X : List Addr} {H H' : Hp} (s : Same H H') : KeepX X H H' := fun b o h _ => s b o h
theorem KeepX.trans {X : List Addr} {H H1 H2 : Hp} (x : KeepX X H H1) (y : KeepX X H1 H2) : KeepX X H H2 := fun b o h n => y b o (x b o h n) n
theorem KeepX.upd {X : List Addr} {H : Hp} {a : Addr} {o : HO} (h : a ∈ X) : KeepX X H (upd H a o) := fun b u q n => by
  rw [upd_ne fun e => n (by rw [e]; exact h)]
  exact q
theorem KeepX.up {X Y : List Addr} {H H' : Hp} (h : KeepX X H H') (s : ∀ a ∈ X, a ∈ Y) : KeepX Y H H' := fun b o q n => h b o q fun k => n (s b k)
theorem stS_rise {e : E} {S : List Nat} {c : Nat} (hr : (gl e 0).fst.Pairwise (· < ·)) : (stS e S c).Pairwise (· < ·) := by
  unfold stS nrS
  refine List.Pairwise.filter _ ?_
  split
  · exact hr
  · exact List.Pairwise.filter _ List.pairwise_lt_range
/-! ### first and last places rise -/
theorem rise_app {xs ys : List Nat} {m : Nat} (h1 : xs.Pairwise (· < ·)) (h2 : ys.Pairwise (· < ·)) (h3 : ∀ x ∈ xs, x < m) (h4 : ∀ y ∈ ys, m ≤ y) : (xs ++ ys).Pairwise (· < ·) := by
  rw [List.pairwise_append]
  exact ⟨h1, h2, fun a ha b hb => Nat.lt_of_lt_of_le (h3 a ha) (h4 b hb)⟩
structure Rise (g : Gl) : Prop where
  fst : g.fst.Pairwise (· < ·)
  lst : g.lst.Pairwise (· < ·)
theorem Rise.seq {a b : Gl} {o n m : Nat} (x : Rise a) (y : Rise b) (wa : Within a o n) (wb : Within b (o + n) m) : Rise (a.seq b) where
  fst := by
    unfold Gl.seq
    refine rise_app (m := o + n) x.fst ?_ (fun i hi => (wa.fst i hi).2) fun i hi => ?_
    · split
      · exact y.fst
      · exact .nil
    · split at hi
      · exact (wb.fst i hi).1
      · cases hi
  lst := by
    unfold Gl.seq
    refine rise_app (m := o + n) ?_ y.lst (fun i hi => ?_) fun i hi => (wb.lst i hi).1
    · split
      · exact x.lst
      · exact .nil
    · split at hi
      · exact (wa.lst i hi).2
      · cases hi
theorem Rise.par {a b : Gl} {o n m : Nat} (x : Rise a) (y : Rise b) (wa : Within a o n) (wb : Within b (o + n) m) : Rise (a.par b) where
  fst := rise_app (m := o + n) x.fst y.fst (fun i hi => (wa.fst i hi).2) fun i hi => (wb.fst i hi).1
  lst := rise_app (m := o + n) x.lst y.lst (fun i hi => (wa.lst i hi).2) fun i hi => (wb.lst i hi).1
mutual
theorem gl_rise : ∀ (e : E) (o : Nat), Rise (gl e o)
  | .eps, o => by rw [gl]; exact ⟨.nil, .nil⟩
  | .sym c, o => by rw [gl]; exact ⟨List.pairwise_singleton _ _, List.pairwise_singleton _ _⟩
  | .maybe e, o => by rw [gl]; exact ⟨(gl_rise e o).fst, (gl_rise e o).lst⟩
  | .many e, o => by rw [gl]; exact ⟨(gl_rise e o).fst, (gl_rise e o).lst⟩
  | .join es, o => by rw [gl]; exact glJ_rise es o
  | .alt es, o => by rw [gl]; exact glA_rise es o
theorem glJ_rise : ∀ (es : List E) (o : Nat), Rise (gl.glJ es o)
  | [], o => by rw [gl.glJ]; exact ⟨.nil, .nil⟩
  | e :: es, o => by rw [gl.glJ]; exact (gl_rise e o).seq (glJ_rise es (o + e.places)) (gl_within e o) (glJ_within es (o + e.places))
theorem glA_rise : ∀ (es : List E) (o : Nat), Rise (gl.glA es o)
  | [], o => by rw [gl.glA]; exact ⟨.nil, .nil⟩
  | e :: es, o => by rw [gl.glA]; exact (gl_rise e o).par (glA_rise es (o + e.places)) (gl_within e o) (glA_within es (o + e.places))
end
/-! ### rows of naturals as data -/
theorem ne_nil_dp {xs : List Nat} (h : xs ≠ []) : PyData.eqv (.tuple (xs.map fun (n : Nat) => PyData.int (n : Int))) (.tuple []) = false := by
  cases xs with
  | nil => exact absurd rfl h
  | cons x xs => simp [PyData.eqv, PyData.eqvAll]
def psd (ns : List Nat) : List PyData := ns.map fun (n : Nat) => PyData.int (n : Int)
theorem dpAll_ints {K : PySem.W.Frag} {H : Hp} : ∀ ns : List Nat, DpAll K H (natsV ns) (psd ns)
  | [] => .nil
  | n :: ns => .cons (.int _) (dpAll_ints ns)
theorem psd_lay : ∀ ns : List Nat, PyData.canLayAll0 (psd ns) = true
  | [] => rfl
  | n :: ns => by
    show (PyData.canLay0 (.int (n : Int)) && PyData.canLayAll0 (psd ns)) = true
    rw [psd_lay ns]
    rfl
theorem psd_dep : ∀ ns : List Nat, PyData.depthAll (psd ns) = 0
  | [] => rfl
  | n :: ns => by
    show max (PyData.depth (.int (n : Int))) (PyData.depthAll (psd ns)) = 0
    rw [psd_dep ns]
    rfl
theorem tup_shaped (ns : List Nat) : SeqAt.shaped (.tuple (psd ns)) = true := by
  show (PyData.canLay0 (.tuple (psd ns)) && decide (PyData.depth (.tuple (psd ns)) ≤ 64)) = true
  have h1 : PyData.canLay0 (.tuple (psd ns)) = true := psd_lay ns
  have h2 : PyData.depth (.tuple (psd ns)) = PyData.depthAll (psd ns) + 1 := by simp [PyData.depth]
  rw [h1, h2, psd_dep]
  rfl
theorem psd_eqv : ∀ a b : List Nat, PyData.eqvAll (psd a) (psd b) = decide (a = b)
  | [], [] => by simp [psd, PyData.eqvAll]
  | [], y :: b => by simp [psd, PyData.eqvAll]
  | x :: a, [] => by simp [psd, PyData.eqvAll]
  | x :: a, y :: b => by
    have ih := psd_eqv a b
    show PyData.eqvAll (.int (x : Int) :: psd a) (.int (y : Int) :: psd b) = _
    simp only [PyData.eqvAll, PyData.eqv, ih]
    rw [Bool.eq_iff_iff]
    simp
    intro _
    omega
theorem row_eqv (a b : List Nat) : PyData.eqv (.tuple (psd a)) (.tuple (psd b)) = decide (a = b) := by
  rw [← psd_eqv]
  simp only [PyData.eqv]
theorem in_nats (x : Nat) (ys : List Nat) : inV (V.int (x : Int)) (natsV ys) = decide (x ∈ ys) := by
  unfold inV natsV
  rw [Bool.eq_iff_iff]
  simp [eqV]
  constructor
  · rintro ⟨y, hy, h⟩
    have e : y = x := by omega
    rw [← e]
    exact hy
  · exact fun h => ⟨x, h, rfl⟩
theorem flat_nats (ys : List Nat) : (natsV ys).all flatV = true := by
  rw [List.all_eq_true]
  intro v hv
  obtain ⟨i, _, rfl⟩ := List.mem_map.mp hv
  rfl
def rInB (K : PySem.W.Frag) : R2 := rIn K false
theorem op_in_seqB {X : Cx} {K : PySem.W.Frag} (hK : X.K = K) : OpR X (compareOp .In) (rInB K) := by
  subst hK
  exact op_in_seq
theorem list_shaped (ns : List Nat) : SeqAt.shaped (.list (psd ns)) = true := by
  show (PyData.canLay0 (.list (psd ns)) && decide (PyData.depth (.list (psd ns)) ≤ 64)) = true
  have h1 : PyData.canLay0 (.list (psd ns)) = true := psd_lay ns
  have h2 : PyData.depth (.list (psd ns)) = PyData.depthAll (psd ns) + 1 := by simp [PyData.depth]
  rw [h1, h2, psd_dep]
  rfl
theorem natl_eqv (a b : List Nat) : PyData.eqv (.list (psd a)) (.list (psd b)) = decide (a = b) := by
  rw [← psd_eqv]
  simp only [PyData.eqv]
/-! ### lists that rise -/
theorem rise_eq : ∀ {xs ys : List Nat}, xs.Pairwise (· < ·) → ys.Pairwise (· < ·) → (∀ x, x ∈ xs ↔ x ∈ ys) → xs = ys
  | [], [], _, _, _ => rfl
  | [], y :: ys, _, _, h => absurd ((h y).mpr (List.mem_cons_self ..)) (by simp)
  | x :: xs, [], _, _, h => absurd ((h x).mp (List.mem_cons_self ..)) (by simp)
  | x :: xs, y :: ys, h1, h2, h => by
    rw [List.pairwise_cons] at h1 h2
    have e1 : x = y := by
      have a1 := (h x).mp (List.mem_cons_self ..)
      have a2 := (h y).mpr (List.mem_cons_self ..)
      rcases List.mem_cons.mp a1 with q | q
      · exact q
      · rcases List.mem_cons.mp a2 with r | r
        · exact r.symm
        · have := h1.1 y r
          have := h2.1 x q
          omega
    subst e1
    congr 1
    refine rise_eq h1.2 h2.2 fun z => ⟨fun hz => ?_, fun hz => ?_⟩
    · rcases List.mem_cons.mp ((h z).mp (List.mem_cons_of_mem _ hz)) with q | q
      · have := h1.1 z hz
        omega
      · exact q
    · rcases List.mem_cons.mp ((h z).mpr (List.mem_cons_of_mem _ hz)) with q | q
      · have := h2.1 z hz
        omega
      · exact q
theorem stS_of {e : E} {S ys : List Nat} (h0 : S ≠ []) (hr : ys.Pairwise (· < ·)) (hm : ∀ y, y ∈ ys ↔ ∃ x ∈ S, (x, y) ∈ (gl e 0).fol) : nrS e S = ys := by
  unfold nrS
  rw [if_neg h0]
  refine rise_eq (List.Pairwise.filter _ List.pairwise_lt_range) hr fun y => ?_
  rw [List.mem_filter, List.mem_range, List.any_eq_true, hm]
  constructor
  · rintro ⟨_, x, hx, h⟩
    exact ⟨x, hx, of_decide_eq_true h⟩
  · rintro ⟨x, hx, h⟩
    exact ⟨by have := ((gl_within e 0).fol x y h).2; omega, x, hx, decide_eq_true h⟩
theorem Bfs.rise {e : E} {S : List (List Nat)} {mv : Mv} {i k : Nat} (B : Bfs e S mv i k) : ∀ s ∈ S, s.Pairwise (· < ·) := fun s hs => by
  obtain ⟨t, ht⟩ := List.mem_iff_getElem?.mp hs
  have hl := (List.getElem?_eq_some_iff.mp ht).1
  rcases Nat.eq_zero_or_pos t with rfl | h0
  · rw [B.h0] at ht
    cases ht
    exact .nil
  · obtain ⟨m, _, h2, _⟩ := B.num t h0 hl
    obtain ⟨_, _, _, s', _, h4, _⟩ := B.mv1 _ _ _ (show mv (m / 4) (97 + m % 4) = some t from h2)
    rw [ht] at h4
    cases h4
    exact stS_rise (gl_rise e 0).fst
theorem riseN_len {xs : List Nat} {n : Nat} (hr : xs.Pairwise (· < ·)) (hb : ∀ x ∈ xs, x < n) : xs.length ≤ n := by
  have := (List.Nodup.sublist (List.Sublist.refl _) (hr.imp fun h => Nat.ne_of_lt h) : xs.Nodup)
  induction n generalizing xs with
  | zero =>
    cases xs with
    | nil => exact Nat.le_refl _
    | cons x xs => exact absurd (hb x (List.mem_cons_self ..)) (Nat.not_lt_zero _)
  | succ n ih =>
    have h1 := ih (xs := xs.filter fun x => decide (x ≠ n)) (hr.filter _) (fun x hx => by
      rw [List.mem_filter, decide_eq_true_eq] at hx
      have := hb x hx.1
      omega) (this.filter _)
    have h2 : xs.length ≤ (xs.filter fun x => decide (x ≠ n)).length + 1 := by
      clear ih h1 hb hr
      induction xs with
      | nil => exact Nat.zero_le _
      | cons x xs ih =>
        rw [List.nodup_cons] at this
        rw [List.filter_cons, List.length_cons]
        by_cases e : x = n
        · rw [if_neg (by rw [decide_eq_false (by simpa using e)]; exact Bool.false_ne_true)]
          have : xs.filter (fun x => decide (x ≠ n)) = xs := List.filter_eq_self.mpr fun y hy => decide_eq_true fun q => this.1 (by rw [e, ← q]; exact hy)
          rw [this]
          exact Nat.le_refl _
        · rw [if_pos (decide_eq_true e), List.length_cons]
          exact Nat.succ_le_succ (ih this.2)
    omega
/-! ### how many lists rise -/
theorem nodup_subA {α : Type} [DecidableEq α] : ∀ (l ys : List α), l.Nodup → (∀ x ∈ l, x ∈ ys) → l.length ≤ ys.length
  | [], _, _, _ => Nat.zero_le _
  | x :: l, ys, nd, h => by
    rw [List.nodup_cons] at nd
    have hx := h x (List.mem_cons_self ..)
    have ih := nodup_subA l (ys.erase x) nd.2 fun y hy => (List.mem_erase_of_ne fun e => nd.1 (by rw [← e]; exact hy)).mpr (h y (List.mem_cons_of_mem _ hy))
    rw [List.length_erase_of_mem hx] at ih
    have : 0 < ys.length := List.length_pos_of_mem hx
    rw [List.length_cons]
    omega
def subsN : Nat → List (List Nat)
  | 0 => [[]]
  | n + 1 => subsN n ++ (subsN n).map (· ++ [n])
theorem subsN_len : ∀ n, (subsN n).length = 2 ^ n
  | 0 => rfl
  | n + 1 => by
    rw [subsN, List.length_append, List.length_map, subsN_len n, Nat.pow_succ]
    omega
theorem subsN_mem : ∀ (n : Nat) (xs : List Nat), xs.Pairwise (· < ·) → (∀ x ∈ xs, x < n) → xs ∈ subsN n
  | 0, xs, _, hb => by
    cases xs with
    | nil => exact List.mem_singleton.mpr rfl
    | cons x xs => exact absurd (hb x (List.mem_cons_self ..)) (Nat.not_lt_zero _)
  | n + 1, xs, hr, hb => by
    rw [subsN, List.mem_append, List.mem_map]
    rcases List.eq_nil_or_concat xs with h | ⟨ys, x, h⟩
    · subst h
      exact .inl (subsN_mem n [] .nil fun x hx => by cases hx)
    · rw [List.concat_eq_append] at h
      subst h
      rw [List.pairwise_append] at hr
      have hlt : ∀ y ∈ ys, y < x := fun y hy => hr.2.2 y hy x (List.mem_singleton.mpr rfl)
      have hx := hb x (List.mem_append_right _ (List.mem_singleton.mpr rfl))
      by_cases e : x = n
      · subst e
        exact .inr ⟨ys, subsN_mem x ys hr.1 hlt, rfl⟩
      · refine .inl (subsN_mem n _ ?_ fun y hy => ?_)
        · rw [List.pairwise_append]
          exact hr
        · rcases List.mem_append.mp hy with h | h
          · have := hlt y h
            omega
          · have := List.mem_singleton.mp h
            omega
theorem Bfs.len {e : E} {S : List (List Nat)} {mv : Mv} {i k : Nat} (B : Bfs e S mv i k) : S.length ≤ 2 ^ e.places := by
  rw [← subsN_len]
  exact nodup_subA _ _ B.nd fun s hs => subsN_mem _ _ (B.rise s hs) (B.bd s hs)
theorem Bfs.len256 {e : E} {S : List (List Nat)} {mv : Mv} {i k : Nat} (B : Bfs e S mv i k) (h : e.places ≤ 8) : S.length ≤ 256 := Nat.le_trans B.len (Nat.pow_le_pow_right (by decide) h)
theorem u64 {k : Nat} {A : Around} (h : Room k A) : A.units + 64 < cLine := by
  have := h.un
  omega
theorem u65 {k : Nat} {A : Around} (h : Room k A) : A.units + 65 < cLine := by
  have := h.un
  omega
/-! ### numbers of what comes, as dicts -/
section
variable {κ : Type} [DecidableEq κ]
def numG : List κ → Nat → List (κ × V)
  | [], _ => []
  | s :: S, o => (s, V.int ((o : Nat) : Int)) :: numG S (o + 1)
theorem numG_len : ∀ (S : List κ) (o : Nat), (numG S o).length = S.length
  | [], _ => rfl
  | s :: S, o => by rw [numG, List.length_cons, List.length_cons, numG_len S]
theorem numG_snoc : ∀ (S : List κ) (o : Nat) (s : κ), numG (S ++ [s]) o = numG S o ++ [(s, V.int ((o + S.length : Nat) : Int))]
  | [], o, s => rfl
  | t :: S, o, s => by
    show _ :: numG (S ++ [s]) (o + 1) = _ :: (numG S (o + 1) ++ _)
    rw [numG_snoc S, List.length_cons, show o + 1 + S.length = o + (S.length + 1) by omega]
theorem numG_none : ∀ (S : List κ) (o : Nat) (s : κ), s ∉ S → valV (numG S o) s = none
  | [], _, _, _ => rfl
  | t :: S, o, s, h => by
    rw [numG, valV_neg (p := (t, V.int ((o : Nat) : Int))) fun e => h (by rw [show t = s from e]; exact List.mem_cons_self ..)]
    exact numG_none S _ s fun k => h (List.mem_cons_of_mem _ k)
theorem numG_idx : ∀ (S : List κ) (o : Nat) (s : κ), s ∈ S → valV (numG S o) s = some (.int ((o + S.idxOf s : Nat) : Int))
  | t :: S, o, s, h => by
    by_cases e : t = s
    · subst e
      rw [numG, valV_pos (p := (t, V.int ((o : Nat) : Int))) rfl, List.idxOf_cons_self]
      rfl
    · rw [numG, valV_neg (p := (t, V.int ((o : Nat) : Int))) e, numG_idx S (o + 1) s ((List.mem_cons.mp h).resolve_left fun q => e q.symm), List.idxOf_cons, beq_false_of_ne e]
      show some (V.int _) = some (V.int ((o + (S.idxOf s + 1) : Nat) : Int))
      rw [show o + 1 + S.idxOf s = o + (S.idxOf s + 1) by omega]
theorem firstsL_old {ks : List κ} {k : κ} (h : k ∈ ks) : firstsL (ks ++ [k]) = firstsL ks := by
  rw [firstsL_snoc]
  unfold addA
  rw [if_pos ((mem_firstsL ks k).mpr h)]
theorem firstsL_new {ks : List κ} {k : κ} (h : k ∉ ks) : firstsL (ks ++ [k]) = firstsL ks ++ [k] := by
  rw [firstsL_snoc]
  unfold addA
  rw [if_neg fun q => h ((mem_firstsL ks k).mp q)]
end
/-! ### the same within a comprehension -/
theorem pe_lgetB {X : Cx} {P : Program} {w : World} {o i : Expr} {td ty : TE} {pos : Pos} (hP : X.prog = P) (hw : X.w = w) (ho : PE X o td) (hi : PE X i ty) (hs : NoSl i) : PE X (.Subscript o i pos) (tLGet P w td ty) := by
  subst hP hw
  exact pe_lget ho hi hs
theorem pe_ngetB {X : Cx} {P : Program} {w : World} {o i : Expr} {td ty : TE} {pos : Pos} (hP : X.prog = P) (hw : X.w = w) (hu : X.A.in1.units + 8 < cLine) (ho : PE X o td) (hi : PE X i ty) (hs : NoSl i) : PE X (.Subscript o i pos) (tNGet P w td ty) := by
  subst hP hw
  exact pe_nget hu ho hi hs
/-! ### for i, x in enumerate of a list -/
theorem for_enumL {K : PySem.W.Frag} {a : Addr} {xs : List V} {g : TG} {tb : TS} {D : Ends} {σ : L2.St} {H : Hp} (Pv : Nat → L2.St → Hp → Prop) (h0 : Pv 0 σ H) (hl : ∀ i σ H, i ≤ xs.length → Pv i σ H → SqL K H a xs)
    (hs : ∀ i x T σ H, xs[i]? = some x → Pv i σ H → H T = none → g (.ref T) σ (upd H T (.tup [.int (i : Nat), x])) fun σ2 H2 => tb { D with nx := Pv (i + 1), ct := Pv (i + 1), bk := D.nx } σ2 H2) (hd : ∀ σ H, Pv xs.length σ H → D.nx σ H) :
    ∃ W : Nat → Nat → L2.St → Hp → Prop, (∃ m, W 0 m σ H) ∧ ∀ i m σ H, W i m σ H →
      ((Ite K a).stop i H ∧ D.nx σ H) ∨ ((Ite K a).go i H ∧ ∃ N : L2.St → Hp → Prop, (∀ σ' H', N σ' H' → ∃ m', m' < m ∧ W (i + 1) m' σ' H') ∧ ∀ x H', (Ite K a).yld i H x H' → g x σ H' fun σ2 H2 => tb { D with nx := N, ct := N, bk := D.nx } σ2 H2) := by
  refine ⟨fun i m σ H => m = xs.length - i ∧ i ≤ xs.length ∧ Pv i σ H, ⟨xs.length, by simp, Nat.zero_le _, h0⟩, ?_⟩
  rintro i m σ H ⟨rfl, hi, p⟩
  have hq := hl i σ H hi p
  by_cases hlt : i < xs.length
  · refine .inr ⟨⟨xs, _, hq, List.getElem?_eq_getElem hlt⟩, Pv (i + 1), fun σ' H' p' => ⟨xs.length - (i + 1), by omega, rfl, hlt, p'⟩, fun v H' y => ?_⟩
    obtain ⟨T, x, rfl, hT, rfl, hx⟩ := y
    exact hs i x T σ _ (hx xs hq) p hT
  · have e : i = xs.length := by omega
    subst e
    exact .inl ⟨⟨xs, hq, Nat.le_refl _⟩, hd σ H p⟩
/-! ### a dict's comprehension over any walk -/
theorem dc_w {J : It} {n : Nat} {G : Hp → Prop} {Y : Nat → Hp → V → Hp → Prop} (Wk : Walk J n G Y) {g : TG} {tt : TT} {tk tv : TE} {vs : List Nat} {σ : L2.St} {H1 : Hp} {D : Addr} {Qd : Hp → Prop} (Pv : Nat → Hp → Prop) (h0 : Pv 0 (upd H1 D (.dK []))) (hg : ∀ i H, i ≤ n → Pv i H → G H)
    (hs : ∀ i x H H', i < n → Pv i H → Y i H x H' → g x (wipe σ vs) H' fun σ2 H2 => wipe σ2 vs = wipe σ vs ∧ tt σ2 H2 fun b H3 => if b = true then tk σ2 H3 fun y H4 => tv σ2 H4 fun z H5 => ∃ kvs k, y = kV k ∧ H5 D = some (.dK kvs) ∧ kvs.length < sizeLine ∧ Pv (i + 1) (upd H5 D (.dK (putK kvs k z))) else Pv (i + 1) H3)
    (hd : ∀ H, Pv n H → Qd H) : ∃ W : Nat → Nat → Hp → Prop, (∃ m, W 0 m (upd H1 D (.dK []))) ∧ ∀ i m H, W i m H → (J.stop i H ∧ Qd H) ∨ (J.go i H ∧ ∃ Nx : Hp → Prop, (∀ H', Nx H' → ∃ m', m' < m ∧ W (i + 1) m' H') ∧ ∀ x H', J.yld i H x H' → g x (wipe σ vs) H' fun σ2 H2 => wipe σ2 vs = wipe σ vs ∧ tt σ2 H2 fun b H3 => if b = true then tk σ2 H3 fun y H4 => tv σ2 H4 fun z H5 => ∃ kvs k, y = kV k ∧ H5 D = some (.dK kvs) ∧ kvs.length < sizeLine ∧ Nx (upd H5 D (.dK (putK kvs k z))) else Nx H3) := by
  refine ⟨fun i m H => i + m = n ∧ Pv i H, ⟨n, Nat.zero_add _, h0⟩, fun i m H h => ?_⟩
  have hG := hg i H (by omega) h.2
  cases m with
  | zero =>
    have e : i = n := h.1
    subst e
    exact .inl ⟨Wk.stops H hG, hd H h.2⟩
  | succ m =>
    have hi : i < n := by
      have := h.1
      omega
    exact .inr ⟨Wk.goes i H hi hG, Pv (i + 1), fun H' p => ⟨m, Nat.lt_succ_self m, by have := h.1; omega, p⟩, fun x H' y => hs i x H H' hi h.2 (Wk.yields i H x H' hi hG y)⟩
theorem idx_at : ∀ {a : List Nat} {i x : Nat}, a[i]? = some x → x ∉ a.take i → a.idxOf x = i
  | [], _, _, h, _ => by cases h
  | y :: a, 0, x, h, _ => by
    obtain rfl : y = x := Option.some.inj h
    exact List.idxOf_cons_self
  | y :: a, i + 1, x, h, n => by
    have ih := idx_at (a := a) (i := i) (x := x) h fun k => n (List.mem_cons_of_mem _ k)
    have hne : y ≠ x := fun k => n (by rw [k]; exact List.mem_cons_self ..)
    rw [List.idxOf_cons, beq_false_of_ne hne, ih]
    rfl
theorem ends_eq {e : E} {S : List (List Nat)} {mv : Mv} {i k : Nat} (B : Bfs e S mv i k) : (List.range S.length).map (endsOf e S) = (gl e 0).nul :: (S.drop 1).map fun s => s.any fun i => decide (i ∈ (gl e 0).lst) := by
  match S, B.h0, B.nd with
  | s :: S, h0, nd =>
    obtain rfl : s = [] := Option.some.inj h0
    rw [List.nodup_cons] at nd
    rw [List.length_cons, List.range_succ_eq_map, List.map_cons, List.map_map]
    have e0 : endsOf e ([] :: S) 0 = (gl e 0).nul := by
      unfold endsOf endS
      rw [if_pos (show ([] :: S).getD 0 [] = [] from rfl)]
    rw [e0]
    congr 1
    show _ = S.map fun s => s.any fun i => decide (i ∈ (gl e 0).lst)
    refine List.ext_getElem? fun j => ?_
    rw [List.getElem?_map, List.getElem?_map]
    rcases Nat.lt_or_ge j S.length with hj | hj
    · rw [List.getElem?_range hj, List.getElem?_eq_getElem hj]
      show some (endsOf e ([] :: S) (j + 1)) = some _
      congr 1
      unfold endsOf endS
      have e1 : ([] :: S).getD (j + 1) [] = S[j] := getD_of (by show S[j]? = some _; exact List.getElem?_eq_getElem hj)
      rw [e1, if_neg fun h => nd.1 (by rw [← h]; exact List.getElem_mem hj)]
    · rw [List.getElem?_eq_none (by rw [List.length_range]; exact hj), List.getElem?_eq_none hj]
      rfl
theorem cut_loV (g : List V) (k : Nat) : cutV g (some (k : Int)) none = g.drop k := by
  unfold cutV
  rw [HT.sIx_none, HT.sIx_nat]
  by_cases h : k ≤ g.length
  · rw [Nat.min_eq_left h, List.take_of_length_le (by rw [List.length_drop]; omega)]
  · rw [Nat.min_eq_right (by omega), Nat.sub_self, List.take_zero, List.drop_eq_nil_of_le (by omega)]
/-! ### rows whose states are told anew -/
theorem putK_at {κ : Type} [DecidableEq κ] {kvs : List (κ × V)} {k : κ} (v : V) (h : k ∉ kvs.map (·.1)) : putK kvs k v = kvs ++ [(k, v)] := by
  refine putK_new v ?_
  induction kvs with
  | nil => rfl
  | cons kv kvs ih =>
    rw [List.map_cons, List.mem_cons, not_or] at h
    rw [valV_neg fun e => h.1 e.symm]
    exact ih h.2
theorem rowK_nd (f : Nat → Option Nat) : ∀ {cs : List Nat}, cs.Nodup → ((rowK f cs).map (·.1)).Nodup
  | [], _ => .nil
  | c :: cs, h => by
    rw [List.nodup_cons] at h
    have ih := rowK_nd f h.2
    unfold rowK at ih ⊢
    rw [List.filterMap_cons]
    cases hc : f c with
    | none => exact ih
    | some t =>
      show (symK c :: ((List.filterMap (fun c => (f c).map fun t => (symK c, V.int ((t : Nat) : Int))) cs).map (·.1))).Nodup
      rw [List.nodup_cons]
      refine ⟨fun k => h.1 ?_, ih⟩
      obtain ⟨kv, h1, h2⟩ := List.mem_map.mp k
      obtain ⟨d, hd, h3⟩ := List.mem_filterMap.mp h1
      obtain ⟨t', _, rfl⟩ := Option.map_eq_some_iff.mp h3
      rw [← symK_inj h2]
      exact hd
theorem rowK_mem {f : Nat → Option Nat} {cs : List Nat} {kv : L2.Key × V} (h : kv ∈ rowK f cs) : ∃ c t, kv = (symK c, V.int ((t : Nat) : Int)) ∧ f c = some t := by
  obtain ⟨d, _, h3⟩ := List.mem_filterMap.mp h
  obtain ⟨t, h4, rfl⟩ := Option.map_eq_some_iff.mp h3
  exact ⟨d, t, rfl, h4⟩
def reV (a : List Nat) : V → V
  | .int t => .int ((a.getD t.toNat 0 : Nat) : Int)
  | v => v
theorem rowK_map (f : Nat → Option Nat) (a : List Nat) (cs : List Nat) : (rowK f cs).map (fun kv => (kv.1, reV a kv.2)) = rowK (fun c => (f c).map fun i => a.getD i 0) cs := by
  unfold rowK
  rw [List.map_filterMap]
  congr 1
  funext c
  cases h : f c with
  | none => simp [h]
  | some t => simp [h, reV]
theorem lets4_nd : lets4.Nodup := by decide
theorem cntR_le (a : List Nat) : cntR a ≤ a.length := by
  have key : ∀ k, k ≤ a.length → cntR (a.take k) ≤ k := by
    intro k
    induction k with
    | zero => exact fun _ => Nat.zero_le _
    | succ k ih =>
      intro hk
      have ih := ih (by omega)
      rw [take_snoc (List.getElem?_eq_getElem (by omega)), cntR_snoc]
      split <;> omega
  have := key a.length (Nat.le_refl _)
  rw [List.take_length] at this
  exact this
theorem cut_hiV (g : List V) (k : Nat) : cutV g none (some (k : Int)) = g.take k := by
  unfold cutV
  rw [HT.sIx_none, HT.sIx_nat, List.drop_zero, Nat.sub_zero]
  by_cases h : k ≤ g.length
  · rw [Nat.min_eq_left h]
  · rw [Nat.min_eq_right (by omega), List.take_of_length_le (Nat.le_refl _), List.take_of_length_le (by omega)]
theorem sum_take_leN (l : List Nat) (n : Nat) : (l.take n).sum ≤ l.sum := by
  have h : (l.take n ++ l.drop n).sum = l.sum := by rw [List.take_append_drop]
  rw [List.sum_append] at h
  omega
end My
namespace My
open PySem PySem.Spec PyProof.Rows L2
/-! ### defs with defaults -/
structure DfD (K : PySem.W.Frag) (mg : Str → Option Value) (x : Str) (st : Stmt) (ps : List Str) (dvs : List V) (f : Addr) (fd : FuncData) : Prop where
  F : FunD K x x (defArgs st) (defBody st) (defScope st) dvs [] f fd
  b0 : Binds K fd ps []
  bd : ∃ ds, Vals dvs ds ∧ Binds K fd ps ds
  g : mg x = some (.ref f)
theorem DfD.mk1 {K : PySem.W.Frag} {mg : Str → Option Value} {x : Str} {st : Stmt} {ps : List Str} {dvs : List V} {f : Addr} {fd : FuncData} (F : FunD K x x (defArgs st) (defBody st) (defScope st) dvs [] f fd) (g : mg x = some (.ref f)) (n : Nat) (hd : dvs ≠ []) (hn : n + dvs.length = ps.length)
    (h1 : ∀ (T : Addr) (kV doc pm : Value) (an : Option Addr) (cdv ct : Value) (us its : List Value), us.length = n → its.length = dvs.length →
      ∃ k, bindArgs (PySem.W.fnOf x x (defArgs st) (defBody st) (defScope st) (.ref T) kV doc pm an cdv ct) ⟨us, []⟩ = seqItems? (.ref T) >>= k ∧ k (some its.toArray) = pure (ps.zip (us ++ its)))
    (h0 : ∀ (T : Addr) (kV doc pm : Value) (an : Option Addr) (cdv ct : Value) (us its : List Value), us.length = ps.length → its.length = dvs.length →
      ∃ k, bindArgs (PySem.W.fnOf x x (defArgs st) (defBody st) (defScope st) (.ref T) kV doc pm an cdv ct) ⟨us, []⟩ = seqItems? (.ref T) >>= k ∧ k (some its.toArray) = pure (ps.zip us)) : DfD K mg x st ps dvs f fd where
  F := F
  b0 := by
    obtain ⟨ds, v, b⟩ := F.binds1 (ps := ps) ps.length dvs.length hd (by omega) fun T kV doc pm an cdv ct us its l1 l2 => by
      obtain ⟨k, e1, e2⟩ := h0 T kV doc pm an cdv ct us its l1 l2
      exact ⟨k, e1, by rw [← l2, List.drop_length, List.append_nil]; exact e2⟩
    rw [List.drop_length] at v
    cases v
    exact b
  bd := by
    obtain ⟨ds, v, b⟩ := F.binds1 (ps := ps) n 0 hd (by omega) fun T kV doc pm an cdv ct us its l1 l2 => h1 T kV doc pm an cdv ct us its l1 l2
    exact ⟨ds, v, b⟩
  g := g
theorem DfD.ok {P : Program} {w : World} {K : PySem.W.Frag} {mg : Str → Option Value} {base : Heap} {x : Str} {st : Stmt} {N ps : List Str} {dvs : List V} {f : Addr} {fd : FuncData} {k : Nat} {sp : Sp} (D : DfD K mg x st ps dvs f fd) (S : FnScope N ps (defScope st)) (len : ∀ vs H Q E, sp vs H Q E → vs.length = ps.length)
    (hbody : ∀ (cdv : Value) (A : Around) (outer : List Env) (s : Shared) (H : Hp) (vs : List V) (Q : VK) (E : XK), Room k (A.deeper (envOfC x (defScope st) s.heap.objs.size f cdv)) → sp vs H Q E →
      ∃ t, PSs (cxOf CX0 P w K mg base N x (defScope st) f cdv A outer s H E).nox (defBody st) t ∧ t { nx := fun _ H' => Q .non H', rt := Q } (start N vs) H) : FnOk P w K mg base CX0 (k + 1) f fd ps sp :=
  D.F.ok S len fun cdv A outer s H vs Q E hr hsp => by
    obtain ⟨t, h, q⟩ := hbody cdv A outer s H vs Q E hr hsp
    exact ⟨t, h.nox, q⟩
structure ClD (P : Program) (w : World) (K : PySem.W.Frag) (mg : Str → Option Value) (base : Heap) (k : Nat) (x : Str) (ps : List Str) (dvs : List V) (sp : Sp) : Prop where
  ex : ∃ (f : Addr) (fd : FuncData) (ds : List Value), FnOk P w K mg base CX0 k f fd ps sp ∧ Vals dvs ds ∧ Binds K fd ps ds ∧ mg x = some (.ref f) ∧ PySem.W.keepIn K (.ref f) = true
section
variable {P : Program} {w : World} {K : PySem.W.Frag} {mg : Str → Option Value} {base : Heap} {x : Str} {st : Stmt} {ps : List Str} {dvs : List V} {f : Addr} {fd : FuncData} {k k' : Nat} {sp : Sp}
theorem DfD.cl (D : DfD K mg x st ps dvs f fd) (h : FnOk P w K mg base CX0 k f fd ps sp) : Cl P w K mg base k x ps sp := ⟨f, fd, h, D.b0, D.g, D.F.kp⟩
theorem DfD.clD (D : DfD K mg x st ps dvs f fd) (h : FnOk P w K mg base CX0 k f fd ps sp) : ClD P w K mg base k x ps dvs sp := by
  obtain ⟨ds, v, b⟩ := D.bd
  exact ⟨f, fd, ds, h, v, b, D.g, D.F.kp⟩
theorem ClD.up (c : ClD P w K mg base k x ps dvs sp) (h : k ≤ k') : ClD P w K mg base k' x ps dvs sp := by
  obtain ⟨f, fd, ds, F, v, b, m, kp⟩ := c.ex
  exact ⟨f, fd, ds, ⟨F.len, fun A outer s H args us vs Q E hr => F.run A outer s H args us vs Q E (hr.mono h)⟩, v, b, m, kp⟩
end
theorem pe_clD {X : Cx} {k : Nat} {x : Str} {ps : List Str} {dvs : List V} {sp : Sp} {p pos : Pos} {e : Expr} {es : List Expr} {t : TA} (C : ClD X.prog X.w X.K X.mg X.base k x ps dvs sp) (hr : Room k X.A) (hg : L2.Gl X x) (ha : PA X (e :: es) t)
    (hdb : (x == ("__debug__" : Str)) = false := by decide) (he : starEach (e :: es) X.env = (false, eval e X.env) :: starEach es X.env := by rfl) (hpl : (backTo pos (starEach es X.env)).any (·.1) = false := by rfl) :
    PE X (.Call (.Name x p) (e :: es) [] pos) (tCall sp dvs E0 t) := by
  obtain ⟨f, fd, ds, F, v, b, m, kp⟩ := C.ex
  exact pe_call F hr hg m kp b v pass0 ha hdb he hpl
/-! ### methods -/
/-- a method of the text, of the class at C -/
structure DfM (K : PySem.W.Frag) (C : Addr) (m q : Str) (st : Stmt) (ps : List Str) (f : Addr) (fd : FuncData) : Prop where
  F : Fun K m q st f fd
  b : Binds K fd ps []
  me : Meth K C m f
  c : Cls K C
structure Mt (P : Program) (w : World) (K : PySem.W.Frag) (mg : Str → Option Value) (base : Heap) (k : Nat) (C : Addr) (m : Str) (ps : List Str) (sp : Sp) : Prop where
  ex : ∃ (f : Addr) (fd : FuncData), FnOk P w K mg base CX0 k f fd ps sp ∧ Binds K fd ps [] ∧ Meth K C m f ∧ Cls K C
theorem DfM.mt {P : Program} {w : World} {K : PySem.W.Frag} {mg : Str → Option Value} {base : Heap} {C : Addr} {m q : Str} {st : Stmt} {ps : List Str} {f : Addr} {fd : FuncData} {k : Nat} {sp : Sp} (D : DfM K C m q st ps f fd) (h : FnOk P w K mg base CX0 k f fd ps sp) : Mt P w K mg base k C m ps sp := ⟨f, fd, h, D.b, D.me, D.c⟩
theorem Mt.up {P : Program} {w : World} {K : PySem.W.Frag} {mg : Str → Option Value} {base : Heap} {C : Addr} {m : Str} {ps : List Str} {k k' : Nat} {sp : Sp} (c : Mt P w K mg base k C m ps sp) (h : k ≤ k') : Mt P w K mg base k' C m ps sp := by
  obtain ⟨f, fd, F, b, me, cc⟩ := c.ex
  exact ⟨f, fd, ⟨F.len, fun A outer s H args us vs Q E hr => F.run A outer s H args us vs Q E (hr.mono h)⟩, b, me, cc⟩
theorem pe_mtC {X : Cx} {k : Nat} {C : Addr} {m : Str} {ps : List Str} {sp : Sp} {o e : Expr} {es : List Expr} {ta : TE} {t : TA} {apos pos : Pos} {pl : Sem Bool} (h : Mt X.prog X.w X.K X.mg X.base k C m ps sp) (hr : Room k X.A) (ho : PE X o ta) (ha : PA X (e :: es) t)
    (hst : starEach (e :: es) X.env = (false, eval e X.env) :: starEach es X.env := by rfl) (hpl : (backTo pos (starEach es X.env)).any (·.1) = false := by rfl)
    (ht : eval (.Call (.Attribute o m apos) (e :: es) [] pos) X.env = (do
      let ov ← eval o X.env
      standAt apos.atName
      let (f, first) ← holding [ov] (getMethod ov m pl)
      callWith pos f first (backTo pos (starEach (e :: es) X.env)) (backToKw pos (keywordEach [] X.env))) := by rfl) :
    PE X (.Call (.Attribute o m apos) (e :: es) [] pos) (tMeth C m sp [] E0 ta t) := by
  obtain ⟨f, fd, F, b, me, c⟩ := h.ex
  exact pe_meth ho c me F hr b .nil pass0 ha hst hpl ht
theorem pe_mtC0 {X : Cx} {k : Nat} {C : Addr} {m : Str} {ps : List Str} {sp : Sp} {o : Expr} {ta : TE} {apos pos : Pos} {pl : Sem Bool} (h : Mt X.prog X.w X.K X.mg X.base k C m ps sp) (hr : Room k X.A) (ho : PE X o ta)
    (ht : eval (.Call (.Attribute o m apos) [] [] pos) X.env = (do
      let ov ← eval o X.env
      standAt apos.atName
      let (f, first) ← holding [ov] (getMethod ov m pl)
      callWith pos f first (backTo pos (starEach [] X.env)) (backToKw pos (keywordEach [] X.env))) := by rfl) :
    PE X (.Call (.Attribute o m apos) [] [] pos) (tMeth C m sp [] E0 ta tNil) := by
  obtain ⟨f, fd, F, b, me, c⟩ := h.ex
  exact pe_meth0 ho c me F hr b .nil pass0 ht
end My
namespace My
open PySem PySem.Spec PyProof.Rows L2
/-! ### comprehensions whose results are known by the turns -/
theorem sqT_same {K : PySem.W.Frag} {H H' : Hp} {p : Addr} {xs : List V} (s : Same H H') (h : SqT K H p xs) : SqT K H' p xs := by
  rcases h with (h | ⟨o, h⟩) | h
  · exact .inl (.inl (s _ _ h))
  · exact .inl (.inr ⟨o, s _ _ h⟩)
  · exact .inr h
/-- one more result -/
theorem r_push {H1 H H4 : Hp} {D : Addr} {R : Nat → List V} {i : Nat} (hz : ∀ i, (R i).length ≤ 100000) (hD : H1 D = none) (s : Same H1 H) (h : H D = some (.lst (R i))) : ∀ y H4, R (i + 1) = R i ++ [y] → Same H H4 → ∃ acc, H4 D = some (.lst acc) ∧ acc.length < sizeLine ∧ Same H1 (upd H4 D (.lst (acc ++ [y]))) ∧ (upd H4 D (.lst (acc ++ [y]))) D = some (.lst (R (i + 1))) := by
  intro y H4 e s4
  refine ⟨_, s4 _ _ h, Nat.lt_of_le_of_lt (hz i) (by decide), fun b o hb => ?_, ?_⟩
  · rw [upd_ne (ne_of_none hb hD)]
    exact s4 _ _ (s _ _ hb)
  · rw [upd_same, e]
theorem r_keep {H1 H : Hp} {D : Addr} {R : Nat → List V} {i : Nat} (s : Same H1 H) (h : H D = some (.lst (R i))) : ∀ H4, R (i + 1) = R i → Same H H4 → Same H1 H4 ∧ H4 D = some (.lst (R (i + 1))) := by
  intro H4 e s4
  exact ⟨s.trans s4, by rw [e]; exact s4 _ _ h⟩
theorem lc_tupR {K : PySem.W.Frag} {a : Addr} {xs : List V} {g : TG} {tt : TT} {te : TE} {vs : List Nat} {σ : L2.St} {H1 : Hp} {D : Addr} {Qd : Hp → Prop} (R : Nat → List V) (h0 : R 0 = []) (hz : ∀ i, (R i).length ≤ 100000) (hD : H1 D = none) (ha : SqT K H1 a xs) 
    (hs : ∀ i x H, xs[i]? = some x → Same H1 H → (∀ y H4, R (i + 1) = R i ++ [y] → Same H H4 → ∃ acc, H4 D = some (.lst acc) ∧ acc.length < sizeLine ∧ Same H1 (upd H4 D (.lst (acc ++ [y]))) ∧ (upd H4 D (.lst (acc ++ [y]))) D = some (.lst (R (i + 1)))) → (∀ H4, R (i + 1) = R i → Same H H4 → Same H1 H4 ∧ H4 D = some (.lst (R (i + 1)))) →
      g x (wipe σ vs) H fun σ2 H2 => wipe σ2 vs = wipe σ vs ∧ tt σ2 H2 fun b H3 => if b = true then te σ2 H3 fun y H4 => ∃ acc, H4 D = some (.lst acc) ∧ acc.length < sizeLine ∧ Same H1 (upd H4 D (.lst (acc ++ [y]))) ∧ (upd H4 D (.lst (acc ++ [y]))) D = some (.lst (R (i + 1))) else Same H1 H3 ∧ H3 D = some (.lst (R (i + 1))))
    (hd : ∀ H, Same H1 H → H D = some (.lst (R xs.length)) → Qd H) :
    ∃ W : Nat → Nat → Hp → Prop, (∃ m, W 0 m (upd H1 D (.lst []))) ∧ ∀ i m H, W i m H →
      ((Itt K a).stop i H ∧ Qd H) ∨ ((Itt K a).go i H ∧ ∃ Nx : Hp → Prop, (∀ H', Nx H' → ∃ m', m' < m ∧ W (i + 1) m' H') ∧ ∀ x H', (Itt K a).yld i H x H' → g x (wipe σ vs) H' fun σ2 H2 => wipe σ2 vs = wipe σ vs ∧ tt σ2 H2 fun b H3 =>
        if b = true then te σ2 H3 fun y H4 => ∃ acc, H4 D = some (.lst acc) ∧ acc.length < sizeLine ∧ Nx (upd H4 D (.lst (acc ++ [y]))) else Nx H3) := by
  have fin : ∀ {i : Nat} {H : Hp}, Same H1 H → H D = some (.lst (R i)) → ∀ y H4, R (i + 1) = R i ++ [y] → Same H H4 → ∃ acc, H4 D = some (.lst acc) ∧ acc.length < sizeLine ∧ Same H1 (upd H4 D (.lst (acc ++ [y]))) ∧ (upd H4 D (.lst (acc ++ [y]))) D = some (.lst (R (i + 1))) := fun s h => r_push (H4 := H1) hz hD s h
  have fin0 : ∀ {i : Nat} {H : Hp}, Same H1 H → H D = some (.lst (R i)) → ∀ H4, R (i + 1) = R i → Same H H4 → Same H1 H4 ∧ H4 D = some (.lst (R (i + 1))) := fun s h => r_keep s h
  exact lc_tup (K := K) (a := a) (xs := xs) (fun i H' => Same H1 H' ∧ H' D = some (.lst (R i))) ⟨same_upd hD, by rw [upd_same, h0]⟩ (fun i H _ h => sqT_same h.1 ha) (fun i x H hx h => hs i x H hx h.1 (fin h.1 h.2) (fin0 h.1 h.2)) (fun H h => hd H h.1 h.2)
theorem lc_listR {K : PySem.W.Frag} {a : Addr} {xs : List V} {g : TG} {tt : TT} {te : TE} {vs : List Nat} {σ : L2.St} {H1 : Hp} {D : Addr} {Qd : Hp → Prop} (R : Nat → List V) (h0 : R 0 = []) (hz : ∀ i, (R i).length ≤ 100000) (hD : H1 D = none) (ha : SqL K H1 a xs) 
    (hs : ∀ i x H, xs[i]? = some x → Same H1 H → (∀ y H4, R (i + 1) = R i ++ [y] → Same H H4 → ∃ acc, H4 D = some (.lst acc) ∧ acc.length < sizeLine ∧ Same H1 (upd H4 D (.lst (acc ++ [y]))) ∧ (upd H4 D (.lst (acc ++ [y]))) D = some (.lst (R (i + 1)))) → (∀ H4, R (i + 1) = R i → Same H H4 → Same H1 H4 ∧ H4 D = some (.lst (R (i + 1)))) →
      g x (wipe σ vs) H fun σ2 H2 => wipe σ2 vs = wipe σ vs ∧ tt σ2 H2 fun b H3 => if b = true then te σ2 H3 fun y H4 => ∃ acc, H4 D = some (.lst acc) ∧ acc.length < sizeLine ∧ Same H1 (upd H4 D (.lst (acc ++ [y]))) ∧ (upd H4 D (.lst (acc ++ [y]))) D = some (.lst (R (i + 1))) else Same H1 H3 ∧ H3 D = some (.lst (R (i + 1))))
    (hd : ∀ H, Same H1 H → H D = some (.lst (R xs.length)) → Qd H) :
    ∃ W : Nat → Nat → Hp → Prop, (∃ m, W 0 m (upd H1 D (.lst []))) ∧ ∀ i m H, W i m H →
      ((Itl K a).stop i H ∧ Qd H) ∨ ((Itl K a).go i H ∧ ∃ Nx : Hp → Prop, (∀ H', Nx H' → ∃ m', m' < m ∧ W (i + 1) m' H') ∧ ∀ x H', (Itl K a).yld i H x H' → g x (wipe σ vs) H' fun σ2 H2 => wipe σ2 vs = wipe σ vs ∧ tt σ2 H2 fun b H3 =>
        if b = true then te σ2 H3 fun y H4 => ∃ acc, H4 D = some (.lst acc) ∧ acc.length < sizeLine ∧ Nx (upd H4 D (.lst (acc ++ [y]))) else Nx H3) := by
  have fin : ∀ {i : Nat} {H : Hp}, Same H1 H → H D = some (.lst (R i)) → ∀ y H4, R (i + 1) = R i ++ [y] → Same H H4 → ∃ acc, H4 D = some (.lst acc) ∧ acc.length < sizeLine ∧ Same H1 (upd H4 D (.lst (acc ++ [y]))) ∧ (upd H4 D (.lst (acc ++ [y]))) D = some (.lst (R (i + 1))) := fun s h => r_push (H4 := H1) hz hD s h
  have fin0 : ∀ {i : Nat} {H : Hp}, Same H1 H → H D = some (.lst (R i)) → ∀ H4, R (i + 1) = R i → Same H H4 → Same H1 H4 ∧ H4 D = some (.lst (R (i + 1))) := fun s h => r_keep s h
  exact lc_list (K := K) (a := a) (xs := xs) (fun i H' => Same H1 H' ∧ H' D = some (.lst (R i))) ⟨same_upd hD, by rw [upd_same, h0]⟩ (fun i H _ h => h.1.seq ha) (fun i x H hx h => hs i x H hx h.1 (fin h.1 h.2) (fin0 h.1 h.2)) (fun H h => hd H h.1 h.2)
theorem lc_rangeR {lo : Int} {n : Nat} {g : TG} {tt : TT} {te : TE} {vs : List Nat} {σ : L2.St} {H1 : Hp} {D : Addr} {Qd : Hp → Prop} (R : Nat → List V) (h0 : R 0 = []) (hz : ∀ i, (R i).length ≤ 100000) (hD : H1 D = none) 
    (hs : ∀ i H, i < n → Same H1 H → (∀ y H4, R (i + 1) = R i ++ [y] → Same H H4 → ∃ acc, H4 D = some (.lst acc) ∧ acc.length < sizeLine ∧ Same H1 (upd H4 D (.lst (acc ++ [y]))) ∧ (upd H4 D (.lst (acc ++ [y]))) D = some (.lst (R (i + 1)))) → (∀ H4, R (i + 1) = R i → Same H H4 → Same H1 H4 ∧ H4 D = some (.lst (R (i + 1)))) →
      g (.int (lo + (i : Nat))) (wipe σ vs) H fun σ2 H2 => wipe σ2 vs = wipe σ vs ∧ tt σ2 H2 fun b H3 => if b = true then te σ2 H3 fun y H4 => ∃ acc, H4 D = some (.lst acc) ∧ acc.length < sizeLine ∧ Same H1 (upd H4 D (.lst (acc ++ [y]))) ∧ (upd H4 D (.lst (acc ++ [y]))) D = some (.lst (R (i + 1))) else Same H1 H3 ∧ H3 D = some (.lst (R (i + 1))))
    (hd : ∀ H, Same H1 H → H D = some (.lst (R n)) → Qd H) :
    ∃ W : Nat → Nat → Hp → Prop, (∃ m, W 0 m (upd H1 D (.lst []))) ∧ ∀ i m H, W i m H →
      ((Itr lo n).stop i H ∧ Qd H) ∨ ((Itr lo n).go i H ∧ ∃ Nx : Hp → Prop, (∀ H', Nx H' → ∃ m', m' < m ∧ W (i + 1) m' H') ∧ ∀ x H', (Itr lo n).yld i H x H' → g x (wipe σ vs) H' fun σ2 H2 => wipe σ2 vs = wipe σ vs ∧ tt σ2 H2 fun b H3 =>
        if b = true then te σ2 H3 fun y H4 => ∃ acc, H4 D = some (.lst acc) ∧ acc.length < sizeLine ∧ Nx (upd H4 D (.lst (acc ++ [y]))) else Nx H3) := by
  have fin : ∀ {i : Nat} {H : Hp}, Same H1 H → H D = some (.lst (R i)) → ∀ y H4, R (i + 1) = R i ++ [y] → Same H H4 → ∃ acc, H4 D = some (.lst acc) ∧ acc.length < sizeLine ∧ Same H1 (upd H4 D (.lst (acc ++ [y]))) ∧ (upd H4 D (.lst (acc ++ [y]))) D = some (.lst (R (i + 1))) := fun s h => r_push (H4 := H1) hz hD s h
  have fin0 : ∀ {i : Nat} {H : Hp}, Same H1 H → H D = some (.lst (R i)) → ∀ H4, R (i + 1) = R i → Same H H4 → Same H1 H4 ∧ H4 D = some (.lst (R (i + 1))) := fun s h => r_keep s h
  exact lc_range (lo := lo) (n := n) (fun i H' => Same H1 H' ∧ H' D = some (.lst (R i))) ⟨same_upd hD, by rw [upd_same, h0]⟩  (fun i H hx h => hs i H hx h.1 (fin h.1 h.2) (fin0 h.1 h.2)) (fun H h => hd H h.1 h.2)
theorem lc_strR {z : Str} {g : TG} {tt : TT} {te : TE} {vs : List Nat} {σ : L2.St} {H1 : Hp} {D : Addr} {Qd : Hp → Prop} (R : Nat → List V) (h0 : R 0 = []) (hz : ∀ i, (R i).length ≤ 100000) (hD : H1 D = none) 
    (hs : ∀ i c H, z.cps[i]? = some c → Same H1 H → (∀ y H4, R (i + 1) = R i ++ [y] → Same H H4 → ∃ acc, H4 D = some (.lst acc) ∧ acc.length < sizeLine ∧ Same H1 (upd H4 D (.lst (acc ++ [y]))) ∧ (upd H4 D (.lst (acc ++ [y]))) D = some (.lst (R (i + 1)))) → (∀ H4, R (i + 1) = R i → Same H H4 → Same H1 H4 ∧ H4 D = some (.lst (R (i + 1)))) →
      g (.str ⟨#[c]⟩) (wipe σ vs) H fun σ2 H2 => wipe σ2 vs = wipe σ vs ∧ tt σ2 H2 fun b H3 => if b = true then te σ2 H3 fun y H4 => ∃ acc, H4 D = some (.lst acc) ∧ acc.length < sizeLine ∧ Same H1 (upd H4 D (.lst (acc ++ [y]))) ∧ (upd H4 D (.lst (acc ++ [y]))) D = some (.lst (R (i + 1))) else Same H1 H3 ∧ H3 D = some (.lst (R (i + 1))))
    (hd : ∀ H, Same H1 H → H D = some (.lst (R z.cps.size)) → Qd H) :
    ∃ W : Nat → Nat → Hp → Prop, (∃ m, W 0 m (upd H1 D (.lst []))) ∧ ∀ i m H, W i m H →
      ((Its z).stop i H ∧ Qd H) ∨ ((Its z).go i H ∧ ∃ Nx : Hp → Prop, (∀ H', Nx H' → ∃ m', m' < m ∧ W (i + 1) m' H') ∧ ∀ x H', (Its z).yld i H x H' → g x (wipe σ vs) H' fun σ2 H2 => wipe σ2 vs = wipe σ vs ∧ tt σ2 H2 fun b H3 =>
        if b = true then te σ2 H3 fun y H4 => ∃ acc, H4 D = some (.lst acc) ∧ acc.length < sizeLine ∧ Nx (upd H4 D (.lst (acc ++ [y]))) else Nx H3) := by
  have fin : ∀ {i : Nat} {H : Hp}, Same H1 H → H D = some (.lst (R i)) → ∀ y H4, R (i + 1) = R i ++ [y] → Same H H4 → ∃ acc, H4 D = some (.lst acc) ∧ acc.length < sizeLine ∧ Same H1 (upd H4 D (.lst (acc ++ [y]))) ∧ (upd H4 D (.lst (acc ++ [y]))) D = some (.lst (R (i + 1))) := fun s h => r_push (H4 := H1) hz hD s h
  have fin0 : ∀ {i : Nat} {H : Hp}, Same H1 H → H D = some (.lst (R i)) → ∀ H4, R (i + 1) = R i → Same H H4 → Same H1 H4 ∧ H4 D = some (.lst (R (i + 1))) := fun s h => r_keep s h
  exact lc_str (z := z) (fun i H' => Same H1 H' ∧ H' D = some (.lst (R i))) ⟨same_upd hD, by rw [upd_same, h0]⟩  (fun i c H hx h => hs i c H hx h.1 (fin h.1 h.2) (fin0 h.1 h.2)) (fun H h => hd H h.1 h.2)
theorem cut_whole {xs : List V} {lo hi : Option Int} (h : HT.sIx xs.length 0 lo = 0 ∧ HT.sIx xs.length xs.length hi = xs.length) : cutV xs lo hi = xs := by
  unfold cutV
  rw [h.1, h.2, List.drop_zero, Nat.sub_zero, List.take_length]
theorem slA_of {K : PySem.W.Frag} {H : Hp} {a : Addr} {xs : List V} {lo hi : Option Int} {Q : VK} (h : H a = some (.tup xs)) (k : ∀ p H', Same H H' → H' p = some (.tup (cutV xs lo hi)) → Q (.ref p) H') : rSlA K (.ref a) lo hi H Q := by
  refine ⟨a, xs, rfl, SqT.of h, fun e => ?_, fun _ p hp => k p _ (same_upd hp) upd_same⟩
  exact k a H (Same.refl _) (by rw [cut_whole e]; exact h)
theorem slA_lo {K : PySem.W.Frag} {H : Hp} {a : Addr} {xs : List V} {lo : Option Int} {σ : L2.St} {Q : VK} (h : H a = some (.tup xs)) (k : ∀ p H', Same H H' → H' p = some (.tup (cutV xs lo none)) → Q (.ref p) H') : tNoPart σ H (fun u H3 => rSlA K (.ref a) lo u H3 Q) := slA_of (hi := none) h k
theorem catA_of {K : PySem.W.Frag} {H : Hp} {a b : Addr} {xs ys : List V} {Q : VK} (ha : H a = some (.tup xs)) (hb : H b = some (.tup ys)) (hz : xs.length + ys.length ≤ sizeLine) (k : ∀ p H', Same H H' → H' p = some (.tup (xs ++ ys)) → Q (.ref p) H') : rCatA K (.ref a) (.ref b) H Q := by
  refine ⟨a, b, xs, ys, rfl, rfl, SqT.of ha, SqT.of hb, hz, fun e => ?_, fun _ e => ?_, fun _ _ p hp => k p _ (same_upd hp) upd_same⟩
  · exact k b H (Same.refl _) (by rw [e]; exact hb)
  · exact k a H (Same.refl _) (by rw [e, List.append_nil]; exact ha)
/-! ### plain data that draws leave -/
theorem RepJ.up {H : Hp} {v : V} {j : J} {n : Nat} (h : RepJ H v j n) : RepJ H v j (n + 1) := by
  induction h with
  | non => exact .non
  | bl b => exact .bl b
  | int i => exact .int i
  | str z => exact .str z
  | tup h z l _ ih => exact .tup h z l ih
  | lst h z l _ ih => exact .lst h z l ih
def Kp (a : Addr) (H : Hp) (v : V) (j : J) (n : Nat) : Prop := ∀ H', Keep a H H' → RepJ H' v j n
theorem Kp.rep {a : Addr} {H : Hp} {v : V} {j : J} {n : Nat} (h : Kp a H v j n) : RepJ H v j n := h H (Keep.refl a H)
theorem Kp.keep {a : Addr} {H H' : Hp} {v : V} {j : J} {n : Nat} (k : Keep a H H') (h : Kp a H v j n) : Kp a H' v j n := fun H2 k2 => h H2 (k.trans k2)
theorem Kp.same {a : Addr} {H H' : Hp} {v : V} {j : J} {n : Nat} (k : Same H H') (h : Kp a H v j n) : Kp a H' v j n := h.keep (Keep.same k)
theorem Kp.up {a : Addr} {H : Hp} {v : V} {j : J} {n : Nat} (h : Kp a H v j n) : Kp a H v j (n + 1) := fun H2 k2 => (h H2 k2).up
theorem Kp.tup {a p : Addr} {H : Hp} {xs : List V} {js : List J} {n : Nat} (hp : H p = some (.tup xs)) (ne : p ≠ a) (hz : xs.length ≤ 100000) (two : Two (fun x j => Kp a H x j n) xs js) : Kp a H (.ref p) (.tup js) (n + 1) := fun H2 k2 => .tup (k2 _ _ hp ne) hz two.len fun i x j hx hj => two.get2 hx hj H2 k2
theorem Kp.lst {a p : Addr} {H : Hp} {xs : List V} {js : List J} {n : Nat} (hp : H p = some (.lst xs)) (ne : p ≠ a) (hz : xs.length ≤ 100000) (two : Two (fun x j => Kp a H x j n) xs js) : Kp a H (.ref p) (.lst js) (n + 1) := fun H2 k2 => .lst (k2 _ _ hp ne) hz two.len fun i x j hx hj => two.get2 hx hj H2 k2
def Leaf (v : V) : Prop := v = .non ∨ (∃ b, v = .bl b) ∨ (∃ i, v = .int i) ∨ ∃ z, v = .str z
theorem Leaf.kp {a : Addr} {H : Hp} {v : V} (h : Leaf v) (n : Nat) : ∃ j, Kp a H v j n := by
  rcases h with rfl | ⟨b, rfl⟩ | ⟨i, rfl⟩ | ⟨z, rfl⟩
  · exact ⟨.non, fun _ _ => .non⟩
  · exact ⟨.bl b, fun _ _ => .bl b⟩
  · exact ⟨.int i, fun _ _ => .int i⟩
  · exact ⟨.str z, fun _ _ => .str z⟩
theorem kp_all {a : Addr} {H : Hp} {n : Nat} : ∀ {xs : List V}, (∀ x ∈ xs, ∃ j, Kp a H x j n) → ∃ js, Two (fun x j => Kp a H x j n) xs js
  | [], _ => ⟨[], .nil⟩
  | x :: xs, h => by
    obtain ⟨j, hj⟩ := h x (List.mem_cons_self ..)
    obtain ⟨js, hs⟩ := kp_all fun y hy => h y (List.mem_cons_of_mem _ hy)
    exact ⟨j :: js, .cons hj hs⟩
theorem kp_tup {a p : Addr} {H : Hp} {xs : List V} {n : Nat} (hs : Strm H a) (hp : H p = some (.tup xs)) (hz : xs.length ≤ 100000) (h : ∀ x ∈ xs, ∃ j, Kp a H x j n) : ∃ j, Kp a H (.ref p) j (n + 1) := by
  obtain ⟨js, two⟩ := kp_all h
  exact ⟨_, Kp.tup hp (hs.neT hp) hz two⟩
theorem kp_lst {a p : Addr} {H : Hp} {xs : List V} {n : Nat} (ne : p ≠ a) (hp : H p = some (.lst xs)) (hz : xs.length ≤ 100000) (h : ∀ x ∈ xs, ∃ j, Kp a H x j n) : ∃ j, Kp a H (.ref p) j (n + 1) := by
  obtain ⟨js, two⟩ := kp_all h
  exact ⟨_, Kp.lst hp ne hz two⟩
theorem mem_cut {xs : List V} {lo hi : Option Int} {x : V} (h : x ∈ cutV xs lo hi) : x ∈ xs := by
  unfold cutV at h
  exact List.mem_of_mem_drop (List.mem_of_mem_take h)
/-- an item that is drawn -/
theorem at_draw {xs : List V} {d : Int} {n : Nat} (hl : xs.length = n) (h0 : 0 ≤ d) (h1 : d < n) : ∃ v, atI xs d = some v ∧ v ∈ xs := by
  obtain ⟨v, hv⟩ : ∃ v, xs[d.toNat]? = some v := ⟨_, List.getElem?_eq_getElem (by omega)⟩
  exact ⟨v, at_of (j := d.toNat) (by omega) hv, List.mem_of_getElem? hv⟩
end My
namespace My
open PySem PySem.Spec PyProof.Rows L2
/-! ### what the builders of expressions count -/
def E.leaves : E → Nat
  | .eps => 1
  | .sym _ => 1
  | .maybe e => e.leaves
  | .many e => e.leaves
  | .join es => leavess es
  | .alt es => leavess es
where leavess : List E → Nat
  | [] => 0
  | e :: es => e.leaves + leavess es
def E.wr : E → Nat
  | .eps => 0
  | .sym _ => 0
  | .maybe e => e.wr + 1
  | .many e => e.wr + 1
  | .join es => wrs es
  | .alt es => wrs es
where wrs : List E → Nat
  | [] => 0
  | e :: es => e.wr + wrs es
theorem leavess_eq (es : List E) : E.leaves.leavess es = (es.map E.leaves).sum := by
  induction es with
  | nil => rfl
  | cons e es ih => rw [E.leaves.leavess, ih, List.map_cons, List.sum_cons]
theorem wrs_eq (es : List E) : E.wr.wrs es = (es.map E.wr).sum := by
  induction es with
  | nil => rfl
  | cons e es ih => rw [E.wr.wrs, ih, List.map_cons, List.sum_cons]
structure Cnt (e : E) : Prop where
  l : 1 ≤ e.leaves
  d : e.depth + 1 ≤ e.leaves + e.wr
  p : e.parts + 1 ≤ 2 * e.leaves + e.wr
  s : e.toD.size ≤ 4 * e.parts
structure Cnts (es : List E) : Prop where
  l : es.length ≤ E.leaves.leavess es
  d : E.depth.depths es + es.length ≤ E.leaves.leavess es + E.wr.wrs es
  p : E.parts.partss es + es.length ≤ 2 * E.leaves.leavess es + E.wr.wrs es
  s : D.size.sizes (E.toD.toDs es) ≤ 4 * E.parts.partss es
mutual
theorem cnt : ∀ {e : E}, e.ok = true → Cnt e
  | .eps, _ => ⟨by rw [E.leaves]; omega, by rw [E.leaves, E.depth, E.wr]; omega, by rw [E.leaves, E.parts, E.wr]; omega, by rw [E.toD, D.size, E.parts]; omega⟩
  | .sym c, _ => ⟨by rw [E.leaves]; omega, by rw [E.leaves, E.depth, E.wr]; omega, by rw [E.leaves, E.parts, E.wr]; omega, by rw [E.toD, D.size, E.parts]; omega⟩
  | .maybe e, h => by
    rw [E.ok] at h
    have c := cnt h
    obtain ⟨c1, c2, c3, c4⟩ := c
    refine ⟨by rw [E.leaves]; omega, by rw [E.leaves, E.depth, E.wr]; omega, by rw [E.leaves, E.parts, E.wr]; omega, ?_⟩
    simp only [E.toD, D.size, D.size.sizes, E.parts]
    omega
  | .many e, h => by
    rw [E.ok] at h
    have c := cnt h
    obtain ⟨c1, c2, c3, c4⟩ := c
    refine ⟨by rw [E.leaves]; omega, by rw [E.leaves, E.depth, E.wr]; omega, by rw [E.leaves, E.parts, E.wr]; omega, ?_⟩
    simp only [E.toD, D.size, D.size.sizes, E.parts]
    omega
  | .join es, h => by
    rw [E.ok] at h
    simp only [Bool.and_eq_true, decide_eq_true_eq] at h
    obtain ⟨c1, c2, c3, c4⟩ := cnts h.1.2
    have h2 := h.1.1
    refine ⟨by rw [E.leaves]; omega, by rw [E.leaves, E.depth, E.wr]; omega, by rw [E.leaves, E.parts, E.wr]; omega, ?_⟩
    simp only [E.toD, D.size, D.size.sizes, E.parts]
    omega
  | .alt es, h => by
    rw [E.ok] at h
    simp only [Bool.and_eq_true, decide_eq_true_eq] at h
    obtain ⟨c1, c2, c3, c4⟩ := cnts h.1.2
    have h2 := h.1.1
    refine ⟨by rw [E.leaves]; omega, by rw [E.leaves, E.depth, E.wr]; omega, by rw [E.leaves, E.parts, E.wr]; omega, ?_⟩
    simp only [E.toD, D.size, D.size.sizes, E.parts]
    omega
theorem cnts : ∀ {es : List E}, E.ok.oks es = true → Cnts es
  | [], _ => ⟨Nat.le_refl _, Nat.le_refl _, Nat.le_refl _, Nat.le_refl _⟩
  | e :: es, h => by
    rw [E.ok.oks, Bool.and_eq_true] at h
    obtain ⟨a1, a2, a3, a4⟩ := cnt h.1
    obtain ⟨c1, c2, c3, c4⟩ := cnts h.2
    refine ⟨?_, ?_, ?_, ?_⟩
    · rw [E.leaves.leavess, List.length_cons]; omega
    · rw [E.leaves.leavess, E.wr.wrs, E.depth.depths, List.length_cons]
      rcases Nat.le_total e.depth (E.depth.depths es) with hh | hh
      · rw [Nat.max_eq_right hh]; omega
      · rw [Nat.max_eq_left hh]; omega
    · rw [E.leaves.leavess, E.wr.wrs, E.parts.partss, List.length_cons]; omega
    · rw [E.toD.toDs, D.size.sizes, E.parts.partss]; omega
end
/-! ### a row of two -/
def kidsOf (b : Bool) : E → List E
  | .join es => if b then es else [.join es]
  | .alt es => if b then [.alt es] else es
  | e => [e]
def rowE (b : Bool) (es : List E) : E := if b then .join es else .alt es
def mkRow (b : Bool) (x y : E) : E := rowE b (kidsOf b x ++ kidsOf b y)
structure KidsOk (b : Bool) (es : List E) : Prop where
  n : 1 ≤ es.length
  ok : es.all E.ok = true
  no : es.any (fun e => if b then isJoin e else isAlt e) = false
theorem kids_okB {b : Bool} {e : E} (h : e.ok = true) : KidsOk b (kidsOf b e) := by
  have one : ∀ e : E, e.ok = true → (if b then isJoin e else isAlt e) = false → KidsOk b [e] := fun e h1 h2 => ⟨Nat.le_refl _, by rw [List.all_cons, h1]; rfl, by rw [List.any_cons, h2]; rfl⟩
  cases e with
  | eps => exact one _ h (by cases b <;> rfl)
  | sym c => exact one _ h (by cases b <;> rfl)
  | maybe e => exact one _ h (by cases b <;> rfl)
  | many e => exact one _ h (by cases b <;> rfl)
  | join es =>
    cases b
    · exact one _ h rfl
    · rw [E.ok, oks_eq] at h
      simp only [Bool.and_eq_true, decide_eq_true_eq, Bool.not_eq_true'] at h
      exact ⟨Nat.le_trans (by decide) h.1.1, h.1.2, h.2⟩
  | alt es =>
    cases b
    · rw [E.ok, oks_eq] at h
      simp only [Bool.and_eq_true, decide_eq_true_eq, Bool.not_eq_true'] at h
      exact ⟨Nat.le_trans (by decide) h.1.1, h.1.2, h.2⟩
    · exact one _ h rfl
theorem ok_row {b : Bool} {es es' : List E} (h : KidsOk b es) (h' : KidsOk b es') : (rowE b (es ++ es')).ok = true := by
  have a := h.n
  have a' := h'.n
  cases b
  · show E.ok (.alt (es ++ es')) = true
    rw [E.ok, oks_eq, List.all_append, h.ok, h'.ok, List.any_append]
    have n1 : es.any isAlt = false := h.no
    have n2 : es'.any isAlt = false := h'.no
    rw [n1, n2, List.length_append, decide_eq_true (by omega)]
    rfl
  · show E.ok (.join (es ++ es')) = true
    rw [E.ok, oks_eq, List.all_append, h.ok, h'.ok, List.any_append]
    have n1 : es.any isJoin = false := h.no
    have n2 : es'.any isJoin = false := h'.no
    rw [n1, n2, List.length_append, decide_eq_true (by omega)]
    rfl
theorem ok_mkRow {b : Bool} {x y : E} (hx : x.ok = true) (hy : y.ok = true) : (mkRow b x y).ok = true := ok_row (kids_okB hx) (kids_okB hy)
theorem kids_places (b : Bool) (e : E) : ((kidsOf b e).map E.places).sum = e.places := by
  cases e <;> cases b <;> simp [kidsOf, E.places, placess_eq]
theorem kids_leaves (b : Bool) (e : E) : ((kidsOf b e).map E.leaves).sum = e.leaves := by
  cases e <;> cases b <;> simp [kidsOf, E.leaves, leavess_eq]
theorem kids_wr (b : Bool) (e : E) : ((kidsOf b e).map E.wr).sum = e.wr := by
  cases e <;> cases b <;> simp [kidsOf, E.wr, wrs_eq]
theorem mkRow_places (b : Bool) (x y : E) : (mkRow b x y).places = x.places + y.places := by
  have : (mkRow b x y).places = ((kidsOf b x ++ kidsOf b y).map E.places).sum := by cases b <;> simp [mkRow, rowE, E.places, placess_eq]
  rw [this, List.map_append, List.sum_append, kids_places, kids_places]
theorem mkRow_leaves (b : Bool) (x y : E) : (mkRow b x y).leaves = x.leaves + y.leaves := by
  have : (mkRow b x y).leaves = ((kidsOf b x ++ kidsOf b y).map E.leaves).sum := by cases b <;> simp [mkRow, rowE, E.leaves, leavess_eq]
  rw [this, List.map_append, List.sum_append, kids_leaves, kids_leaves]
theorem mkRow_wr (b : Bool) (x y : E) : (mkRow b x y).wr = x.wr + y.wr := by
  have : (mkRow b x y).wr = ((kidsOf b x ++ kidsOf b y).map E.wr).sum := by cases b <;> simp [mkRow, rowE, E.wr, wrs_eq]
  rw [this, List.map_append, List.sum_append, kids_wr, kids_wr]
def rowW (b : Bool) : Str := if b then sJoin else sOr
theorem rowE_toD (b : Bool) (es : List E) : (rowE b es).toD = .tup [.str (rowW b), .tup (es.map E.toD)] := by
  cases b
  · show E.toD (.alt es) = _
    rw [E.toD, toDs_eq]
    rfl
  · show E.toD (.join es) = _
    rw [E.toD, toDs_eq]
    rfl
end My
namespace My
open PySem PySem.Spec PyProof.Rows L2
/-! ### each expression has its least automaton -/
theorem row_ex {e : E} {S : List (List Nat)} {mv : Mv} {i : Nat} (B : Bfs e S mv i 0) (h : i < S.length) : ∃ S' mv', Bfs e S' mv' (i + 1) 0 := by
  have key : ∀ k, k ≤ 4 → ∃ S' mv', Bfs e S' mv' i k ∧ i < S'.length := by
    intro k
    induction k with
    | zero => exact fun _ => ⟨S, mv, B, h⟩
    | succ k ih =>
      intro hk
      obtain ⟨S', mv', B', h'⟩ := ih (by omega)
      have hs : S'[i]? = some S'[i] := List.getElem?_eq_getElem h'
      by_cases c : stS e S'[i] (97 + k) = []
      · exact ⟨S', mv', B'.skip (by omega) hs c, h'⟩
      · by_cases hm : stS e S'[i] (97 + k) ∈ S'
        · obtain ⟨t, ht⟩ := List.mem_iff_getElem?.mp hm
          exact ⟨S', _, B'.old (by omega) hs c ht, h'⟩
        · exact ⟨_, _, B'.new (by omega) hs c hm, by rw [List.length_append]; omega⟩
  obtain ⟨S', mv', B', h'⟩ := key 4 (Nat.le_refl _)
  exact ⟨S', mv', B'.row h'⟩
theorem bfs_ex (e : E) : ∃ S mv, Bfs e S mv S.length 0 := by
  have key : ∀ n i S mv, Bfs e S mv i 0 → 2 ^ e.places - i ≤ n → ∃ S mv, Bfs e S mv S.length 0 := by
    intro n
    induction n with
    | zero =>
      intro i S mv B hn
      have h1 := B.len
      have h2 := B.le
      have : i = S.length := by omega
      subst this
      exact ⟨S, mv, B⟩
    | succ n ih =>
      intro i S mv B hn
      have h1 := B.len
      have h2 := B.le
      by_cases h : i < S.length
      · obtain ⟨S', mv', B'⟩ := row_ex B h
        exact ih (i + 1) S' mv' B' (by omega)
      · have : i = S.length := by omega
        subst this
        exact ⟨S, mv, B⟩
  exact key _ 0 _ _ (Bfs.start e) (Nat.le_refl _)
theorem ref_ex {L : List Nat → Prop} {N : Nat} {acc : Nat → Bool} {mv : Mv} (A : IsPre L N acc mv) : ∃ a, Refn N acc mv a ∧ finer mv a = a := by
  have key : ∀ n a, Refn N acc mv a → sameP a ≤ n → ∃ a, Refn N acc mv a ∧ finer mv a = a := by
    intro n
    induction n with
    | zero =>
      intro a R hn
      by_cases h : finer mv a = a
      · exact ⟨a, R, h⟩
      · obtain ⟨R2, href⟩ := R.step A
        have := sameP_lt R.rg R2.rg (finer_len mv a).symm href h
        omega
    | succ n ih =>
      intro a R hn
      by_cases h : finer mv a = a
      · exact ⟨a, R, h⟩
      · obtain ⟨R2, href⟩ := R.step A
        have := sameP_lt R.rg R2.rg (finer_len mv a).symm href h
        exact ih _ R2 (by omega)
  exact key _ _ (Refn.start A) (Nat.le_refl _)
theorem aut_ex {e : E} (ho : e.ok = true) : ∃ N acc mv, IsAut (MW e) N acc mv ∧ N ≤ 2 ^ e.places := by
  obtain ⟨S, mv, B⟩ := bfs_ex e
  obtain ⟨a, R, h⟩ := ref_ex (B.pre ho)
  refine ⟨_, _, _, aut_of ho B R h, ?_⟩
  have h1 := cntR_le a
  have h2 := R.len
  have h3 := B.len
  omega
theorem IsAut.congr {L M : List Nat → Prop} {N : Nat} {acc : Nat → Bool} {mv : Mv} (h : ∀ w, L w ↔ M w) (A : IsAut L N acc mv) : IsAut M N acc mv :=
  ⟨⟨A.pos, A.bd, fun w => (h w).symm.trans (A.lang w), A.live, A.num⟩, A.apart⟩
theorem aut_bound {e e' : E} (ho : e'.ok = true) (h : ∀ w, MW e w ↔ MW e' w) {N : Nat} {acc : Nat → Bool} {mv : Mv} (A : IsAut (MW e) N acc mv) : N ≤ 2 ^ e'.places := by
  obtain ⟨N', acc', mv', A', hN⟩ := aut_ex ho
  rw [((A.congr h).uniq A').1]
  exact hN
theorem aut_bound5 {e : E} (ho : e.ok = true) (h : e.places ≤ 5) : ∀ (N : Nat) (acc : Nat → Bool) (mv : Mv), IsAut (MW e) N acc mv → N ≤ 40 := fun N acc mv A => by
  have h1 := aut_bound ho (fun w => Iff.rfl) A
  have h2 : 2 ^ e.places ≤ 2 ^ 5 := Nat.pow_le_pow_right (by decide) h
  omega
/-! ### words of rows -/
theorem mwJ_app : ∀ {xs ys : List E} {w : List Nat}, MW.mwJ (xs ++ ys) w ↔ ∃ us vs, w = us ++ vs ∧ MW.mwJ xs us ∧ MW.mwJ ys vs
  | [], ys, w => ⟨fun h => ⟨[], w, rfl, rfl, h⟩, fun ⟨us, vs, h1, h2, h3⟩ => by
    have h2 : us = [] := h2
    rw [h1, h2]
    exact h3⟩
  | x :: xs, ys, w => by
    constructor
    · rintro ⟨us, vs, h1, h2, h3⟩
      obtain ⟨us', vs', e1, e2, e3⟩ := mwJ_app.mp h3
      exact ⟨us ++ us', vs', by rw [h1, e1, List.append_assoc], ⟨us, us', rfl, h2, e2⟩, e3⟩
    · rintro ⟨us, vs, h1, ⟨us', vs', e1, e2, e3⟩, h3⟩
      exact ⟨us', vs' ++ vs, by rw [h1, e1, List.append_assoc], e2, mwJ_app.mpr ⟨vs', vs, rfl, e3, h3⟩⟩
theorem mwA_mem : ∀ {es : List E} {w : List Nat}, MW.mwA es w ↔ ∃ e ∈ es, MW e w
  | [], w => ⟨fun h => h.elim, fun ⟨e, h, _⟩ => by cases h⟩
  | x :: es, w => by
    have ih := mwA_mem (es := es) (w := w)
    show (MW x w ∨ MW.mwA es w) ↔ _
    rw [ih]
    constructor
    · rintro (h | ⟨e, h1, h2⟩)
      · exact ⟨x, List.mem_cons_self, h⟩
      · exact ⟨e, List.mem_cons_of_mem _ h1, h2⟩
    · rintro ⟨e, h1, h2⟩
      rcases List.mem_cons.mp h1 with rfl | h1
      · exact .inl h2
      · exact .inr ⟨e, h1, h2⟩
theorem star_app {α : Type} {L : List α → Prop} {u v : List α} (h : Star L u) (k : Star L v) : Star L (u ++ v) := by
  induction h with
  | nil => exact k
  | cons h n _ ih =>
    rw [List.append_assoc]
    exact .cons h n ih
theorem star_one {α : Type} {L : List α → Prop} {u : List α} (h : L u) : Star L u := by
  by_cases c : u = []
  · rw [c]
    exact .nil
  · have := Star.cons h c Star.nil
    rw [List.append_nil] at this
    exact this
theorem star_star {α : Type} {L M : List α → Prop} (h1 : ∀ u, M u → Star L u) (h2 : ∀ u, L u → Star M u) (w : List α) : Star M w ↔ Star L w := by
  have key : ∀ {A B : List α → Prop}, (∀ u, A u → Star B u) → ∀ w, Star A w → Star B w := fun h w hw => by
    induction hw with
    | nil => exact .nil
    | cons a _ _ ih => exact star_app (h _ a) ih
  exact ⟨key h1 w, key h2 w⟩
theorem star_congr {α : Type} {L M : List α → Prop} (h : ∀ u, L u ↔ M u) (w : List α) : Star L w ↔ Star M w := ⟨Star.mono fun u => (h u).mp, Star.mono fun u => (h u).mpr⟩
theorem mwJ_kids {e : E} {w : List Nat} : MW.mwJ (kidsOf true e) w ↔ MW e w := by
  have one : ∀ e : E, MW.mwJ [e] w ↔ MW e w := fun e => by
    show (∃ us vs, w = us ++ vs ∧ MW e us ∧ vs = []) ↔ _
    constructor
    · rintro ⟨us, vs, h1, h2, rfl⟩
      rw [h1, List.append_nil]
      exact h2
    · exact fun h => ⟨w, [], by rw [List.append_nil], h, rfl⟩
  cases e with
  | join es => exact Iff.rfl
  | _ => exact one _
theorem mwA_kids {e : E} {w : List Nat} : MW.mwA (kidsOf false e) w ↔ MW e w := by
  have one : ∀ e : E, MW.mwA [e] w ↔ MW e w := fun e => by
    show (MW e w ∨ False) ↔ _
    exact ⟨fun h => h.elim id False.elim, .inl⟩
  cases e with
  | alt es => exact Iff.rfl
  | _ => exact one _
theorem mw_rowT {x y : E} {w : List Nat} : MW (mkRow true x y) w ↔ ∃ us vs, w = us ++ vs ∧ MW x us ∧ MW y vs := by
  show MW.mwJ (kidsOf true x ++ kidsOf true y) w ↔ _
  rw [mwJ_app]
  constructor
  · rintro ⟨us, vs, h1, h2, h3⟩
    exact ⟨us, vs, h1, mwJ_kids.mp h2, mwJ_kids.mp h3⟩
  · rintro ⟨us, vs, h1, h2, h3⟩
    exact ⟨us, vs, h1, mwJ_kids.mpr h2, mwJ_kids.mpr h3⟩
theorem mwA_app {xs ys : List E} {w : List Nat} : MW.mwA (xs ++ ys) w ↔ MW.mwA xs w ∨ MW.mwA ys w := by
  rw [mwA_mem, mwA_mem, mwA_mem]
  constructor
  · rintro ⟨e, h1, h2⟩
    rcases List.mem_append.mp h1 with h | h
    · exact .inl ⟨e, h, h2⟩
    · exact .inr ⟨e, h, h2⟩
  · rintro (⟨e, h1, h2⟩ | ⟨e, h1, h2⟩)
    · exact ⟨e, List.mem_append_left _ h1, h2⟩
    · exact ⟨e, List.mem_append_right _ h1, h2⟩
theorem mw_rowF {x y : E} {w : List Nat} : MW (mkRow false x y) w ↔ MW x w ∨ MW y w := by
  show MW.mwA (kidsOf false x ++ kidsOf false y) w ↔ _
  rw [mwA_app, mwA_kids, mwA_kids]
theorem mw_epsL {e : E} (w : List Nat) : MW (mkRow true .eps e) w ↔ MW e w := by
  rw [mw_rowT]
  constructor
  · rintro ⟨us, vs, h1, h2, h3⟩
    have h2 : us = [] := h2
    rw [h1, h2]
    exact h3
  · exact fun h => ⟨[], w, rfl, rfl, h⟩
theorem mw_epsR {e : E} (w : List Nat) : MW (mkRow true e .eps) w ↔ MW e w := by
  rw [mw_rowT]
  constructor
  · rintro ⟨us, vs, h1, h2, h3⟩
    have h3 : vs = [] := h3
    rw [h1, h3, List.append_nil]
    exact h2
  · exact fun h => ⟨w, [], by rw [List.append_nil], h, rfl⟩
theorem mw_self {e : E} (w : List Nat) : MW (mkRow false e e) w ↔ MW e w := by
  rw [mw_rowF]
  exact or_self_iff
theorem mw_rev {es : List E} (w : List Nat) : MW (.alt es.reverse) w ↔ MW (.alt es) w := by
  show MW.mwA es.reverse w ↔ MW.mwA es w
  rw [mwA_mem, mwA_mem]
  exact ⟨fun ⟨e, h1, h2⟩ => ⟨e, List.mem_reverse.mp h1, h2⟩, fun ⟨e, h1, h2⟩ => ⟨e, List.mem_reverse.mpr h1, h2⟩⟩
theorem mw_many2 {e : E} (w : List Nat) : MW (.many (.many e)) w ↔ MW (.many e) w :=
  star_star (fun u h => h) (fun u h => star_one (star_one h)) w
theorem mw_manyM {e : E} (w : List Nat) : MW (.many (.maybe e)) w ↔ MW (.many e) w :=
  star_star (fun u h => h.elim (fun h => by rw [h]; exact .nil) star_one) (fun u h => star_one (.inr h)) w
theorem mw_maybeM {e : E} (w : List Nat) : MW (.maybe (.many e)) w ↔ MW (.many e) w :=
  ⟨fun h => h.elim (fun h => by rw [h]; exact .nil) id, .inr⟩
theorem mw_orM {e : E} (w : List Nat) : MW (mkRow false .eps (.many e)) w ↔ MW (.many e) w := by
  rw [mw_rowF]
  exact ⟨fun h => h.elim (fun h => by rw [show w = [] from h]; exact .nil) id, .inr⟩
end My
namespace My
open PySem PySem.Spec PyProof.Rows L2
/-! ### automata as data -/
def rowM (mv : Mv) (q : Nat) (cs : List Nat) : List (Nat × Nat × Nat) := cs.filterMap fun c => (mv q c).map fun t => (q, c, t)
def mvsL (N : Nat) (mv : Mv) : List (Nat × Nat × Nat) := (List.range N).flatMap fun q => rowM mv q lets4
theorem mem_mvsL {N : Nat} {mv : Mv} {q c t : Nat} : (q, c, t) ∈ mvsL N mv ↔ q < N ∧ c ∈ lets4 ∧ mv q c = some t := by
  unfold mvsL rowM
  rw [List.mem_flatMap]
  constructor
  · rintro ⟨p, h1, h2⟩
    obtain ⟨d, hd, h3⟩ := List.mem_filterMap.mp h2
    obtain ⟨s, h4, h5⟩ := Option.map_eq_some_iff.mp h3
    injection h5 with e1 e2
    injection e2 with e2 e3
    subst e1 e2 e3
    exact ⟨List.mem_range.mp h1, hd, h4⟩
  · rintro ⟨h1, h2, h3⟩
    exact ⟨q, List.mem_range.mpr h1, List.mem_filterMap.mpr ⟨c, h2, by rw [h3]; rfl⟩⟩
def mvJ (m : Nat × Nat × Nat) : J := .tup [.int (m.1 : Nat), .str ⟨#[m.2.1]⟩, .int (m.2.2 : Nat)]
def autJ (N : Nat) (acc : Nat → Bool) (mv : Mv) : J := .tup [.tup ((List.range N).map fun i => .bl (acc i)), .tup ((mvsL N mv).map mvJ)]
def amD (m : Nat × Nat × Nat) : PyData := .tuple [.int (m.1 : Nat), .str ⟨#[m.2.1]⟩, .int (m.2.2 : Nat)]
def autD (N : Nat) (acc : Nat → Bool) (mv : Mv) : PyData := .tuple [.tuple (((List.range N).map acc).map PyData.bool), .tuple ((mvsL N mv).map amD)]
theorem mvsL_congr {N : Nat} {mv mv' : Mv} (h : ∀ q c, mv q c = mv' q c) : mvsL N mv = mvsL N mv' := by
  have : mv = mv' := by funext q c; exact h q c
  rw [this]
theorem autJ_same {L : List Nat → Prop} {N N' : Nat} {acc acc' : Nat → Bool} {mv mv' : Mv} (A : IsAut L N acc mv) (A' : IsAut L N' acc' mv') : autJ N acc mv = autJ N' acc' mv' := by
  obtain ⟨h1, h2, h3⟩ := A.uniq A'
  subst h1
  unfold autJ
  rw [mvsL_congr h3, List.map_congr_left fun i hi => by rw [h2 i (List.mem_range.mp hi)]]
theorem eqvAll_map {α : Type} [DecidableEq α] {f : α → PyData} (h : ∀ x y, PyData.eqv (f x) (f y) = decide (x = y)) : ∀ a b : List α, PyData.eqvAll (a.map f) (b.map f) = decide (a = b)
  | [], [] => by simp [PyData.eqvAll]
  | [], y :: b => by simp [PyData.eqvAll]
  | x :: a, [] => by simp [PyData.eqvAll]
  | x :: a, y :: b => by
    rw [List.map_cons, List.map_cons, PyData.eqvAll, h, eqvAll_map h a b, Bool.eq_iff_iff]
    simp
theorem bl_eqv (a b : Bool) : PyData.eqv (.bool a) (.bool b) = decide (a = b) := by cases a <;> cases b <;> rfl
theorem amD_eqv (x y : Nat × Nat × Nat) : PyData.eqv (amD x) (amD y) = decide (x = y) := by
  obtain ⟨a, b, c⟩ := x
  obtain ⟨d, e, f⟩ := y
  unfold amD
  simp only [PyData.eqv, PyData.eqvAll, Bool.and_true]
  rw [Bool.eq_iff_iff]
  simp only [Bool.and_eq_true, beq_iff_eq, decide_eq_true_eq, Prod.mk.injEq]
  constructor
  · rintro ⟨h1, h2, h3⟩
    have e2 := congrArg (fun s : Str => s.cps.toList) h2
    exact ⟨by omega, (List.cons.inj e2).1, by omega⟩
  · rintro ⟨rfl, rfl, rfl⟩
    exact ⟨rfl, rfl, rfl⟩
theorem autD_eqv (N N' : Nat) (acc acc' : Nat → Bool) (mv mv' : Mv) : PyData.eqv (autD N acc mv) (autD N' acc' mv') = decide ((List.range N).map acc = (List.range N').map acc' ∧ mvsL N mv = mvsL N' mv') := by
  unfold autD
  have e1 : PyData.eqv (.tuple (((List.range N).map acc).map PyData.bool)) (.tuple (((List.range N').map acc').map PyData.bool)) = decide ((List.range N).map acc = (List.range N').map acc') := by
    rw [← eqvAll_map bl_eqv]
    simp only [PyData.eqv]
  have e2 : PyData.eqv (.tuple ((mvsL N mv).map amD)) (.tuple ((mvsL N' mv').map amD)) = decide (mvsL N mv = mvsL N' mv') := by
    rw [← eqvAll_map amD_eqv]
    simp only [PyData.eqv]
  rw [PyData.eqv, PyData.eqvAll, PyData.eqvAll, PyData.eqvAll, e1, e2, Bool.and_true, Bool.decide_and]
theorem aut_eqv {L M : List Nat → Prop} {N N' : Nat} {acc acc' : Nat → Bool} {mv mv' : Mv} (A : IsAut L N acc mv) (A' : IsAut M N' acc' mv') : PyData.eqv (autD N acc mv) (autD N' acc' mv') = true ↔ ∀ w, L w ↔ M w := by
  rw [autD_eqv, decide_eq_true_eq]
  constructor
  · rintro ⟨h1, h2⟩ w
    have hN : N = N' := by
      have := congrArg List.length h1
      rwa [List.length_map, List.length_map, List.length_range, List.length_range] at this
    subst hN
    have ha : ∀ i, i < N → acc i = acc' i := fun i hi => by
      have := congrArg (fun l => l[i]?) h1
      simp only [List.getElem?_map, List.getElem?_range hi, Option.map_some] at this
      exact Option.some.inj this
    have hm : ∀ q c, mv q c = mv' q c := fun q c => by
      have key : ∀ {mv mv' : Mv} {L' : List Nat → Prop} {acc : Nat → Bool}, IsAut L' N acc mv → mvsL N mv = mvsL N mv' → ∀ t, mv q c = some t → mv' q c = some t := fun {mv mv' L' acc} A h t ht => by
        obtain ⟨b1, b2, b3, b4⟩ := A.bd _ _ _ ht
        have hc : c ∈ lets4 := by
          have : c = 97 ∨ c = 98 ∨ c = 99 ∨ c = 100 := by omega
          rcases this with rfl | rfl | rfl | rfl <;> decide
        have := mem_mvsL.mpr ⟨b1, hc, ht⟩
        rw [h] at this
        exact (mem_mvsL.mp this).2.2
      cases h1 : mv q c with
      | some t => exact (key A h2 t h1).symm
      | none =>
        cases h3 : mv' q c with
        | none => rfl
        | some t =>
          rw [key A' h2.symm t h3] at h1
          cases h1
    have hmm : mv = mv' := by funext q c; exact hm q c
    subst hmm
    rw [A.lang, A'.lang]
    unfold accM
    constructor
    · rintro ⟨t, k1, k2⟩
      exact ⟨t, k1, by rw [← ha t (runM_bd A.toIsPre w A.pos k1)]; exact k2⟩
    · rintro ⟨t, k1, k2⟩
      exact ⟨t, k1, by rw [ha t (runM_bd A.toIsPre w A.pos k1)]; exact k2⟩
  · intro h
    obtain ⟨h1, h2, h3⟩ := (A.congr h).uniq A'
    subst h1
    exact ⟨List.map_congr_left fun i hi => h2 i (List.mem_range.mp hi), mvsL_congr h3⟩
theorem bools_lay : ∀ l : List Bool, PyData.canLayAll0 (l.map PyData.bool) = true ∧ PyData.depthAll (l.map PyData.bool) = 0
  | [] => ⟨rfl, rfl⟩
  | b :: l => by
    obtain ⟨h1, h2⟩ := bools_lay l
    rw [List.map_cons, PyData.canLayAll0, PyData.depthAll, h1, h2]
    exact ⟨rfl, rfl⟩
theorem ams_lay : ∀ l : List (Nat × Nat × Nat), (∀ m ∈ l, m.2.1 ∈ lets4) → PyData.canLayAll0 (l.map amD) = true ∧ PyData.depthAll (l.map amD) ≤ 1
  | [], _ => ⟨rfl, Nat.zero_le _⟩
  | b :: l, hl => by
    obtain ⟨h1, h2⟩ := ams_lay l fun m hm => hl m (List.mem_cons_of_mem _ hm)
    have hb : PyData.canLay0 (amD b) = true := by
      have := hl b (List.mem_cons_self ..)
      obtain ⟨q, c, t⟩ := b
      have : c = 97 ∨ c = 98 ∨ c = 99 ∨ c = 100 := by simpa [lets4] using this
      unfold amD
      rcases this with rfl | rfl | rfl | rfl <;> (simp only [PyData.canLay0, PyData.canLayAll0, Bool.and_true, Bool.true_and]; decide +kernel)
    rw [List.map_cons, PyData.canLayAll0, PyData.depthAll, h1, hb]
    exact ⟨rfl, Nat.max_le.mpr ⟨by unfold amD; simp [PyData.depth, PyData.depthAll], h2⟩⟩
theorem autD_shaped (N : Nat) (acc : Nat → Bool) (mv : Mv) : SeqAt.shaped (autD N acc mv) = true := by
  obtain ⟨h1, h2⟩ := bools_lay ((List.range N).map acc)
  obtain ⟨h3, h4⟩ := ams_lay (mvsL N mv) fun m hm => (mem_mvsL (q := m.1) (c := m.2.1) (t := m.2.2).mp hm).2.1
  have hl : PyData.canLay0 (autD N acc mv) = true := by
    unfold autD
    simp only [PyData.canLay0, PyData.canLayAll0, h1, h3, Bool.and_true]
  have hd : PyData.depth (autD N acc mv) ≤ 3 := by
    unfold autD
    simp only [PyData.depth, PyData.depthAll, h2]
    omega
  show (PyData.canLay0 (autD N acc mv) && decide (PyData.depth (autD N acc mv) ≤ 64)) = true
  rw [hl, decide_eq_true (by omega)]
  rfl
/-! ### sizes of what is made of expressions -/
mutual
theorem leaves_le : ∀ e : E, e.leaves ≤ e.parts
  | .eps => by rw [E.leaves, E.parts]; omega
  | .sym c => by rw [E.leaves, E.parts]; omega
  | .maybe e => by have := leaves_le e; rw [E.leaves, E.parts]; omega
  | .many e => by have := leaves_le e; rw [E.leaves, E.parts]; omega
  | .join es => by have := leavess_le es; rw [E.leaves, E.parts]; omega
  | .alt es => by have := leavess_le es; rw [E.leaves, E.parts]; omega
theorem leavess_le : ∀ es : List E, E.leaves.leavess es ≤ E.parts.partss es
  | [] => Nat.le_refl _
  | e :: es => by
    have h1 := leaves_le e
    have h2 := leavess_le es
    rw [E.leaves.leavess, E.parts.partss]
    omega
end
theorem depths_le2 {d : Nat} : ∀ {es : List E}, (∀ x ∈ es, x.depth ≤ d) → E.depth.depths es ≤ d
  | [], _ => Nat.zero_le _
  | e :: es, h => by
    rw [E.depth.depths]
    have h1 := h e (List.mem_cons_self ..)
    have h2 := depths_le2 (es := es) fun x hx => h x (List.mem_cons_of_mem _ hx)
    omega
theorem le_depths {e : E} : ∀ {es : List E}, e ∈ es → e.depth ≤ E.depth.depths es
  | x :: es, h => by
    rw [E.depth.depths]
    rcases List.mem_cons.mp h with rfl | h
    · omega
    · have := le_depths h
      omega
theorem kids_dep {b : Bool} {e k : E} (h : k ∈ kidsOf b e) : k.depth ≤ e.depth := by
  have one : k ∈ [e] → k.depth ≤ e.depth := fun h => by rw [List.mem_singleton.mp h]; exact Nat.le_refl _
  cases e with
  | join es =>
    cases b
    · exact one h
    · have := le_depths (show k ∈ es from h)
      rw [E.depth]
      omega
  | alt es =>
    cases b
    · have := le_depths (show k ∈ es from h)
      rw [E.depth]
      omega
    · exact one h
  | _ => exact one h
theorem mkRow_dep (b : Bool) (x y : E) : (mkRow b x y).depth ≤ max x.depth y.depth + 1 := by
  have h : ∀ es : List E, (rowE b es).depth = E.depth.depths es + 1 := fun es => by
    cases b
    · show E.depth (.alt es) = _
      rw [E.depth]
    · show E.depth (.join es) = _
      rw [E.depth]
  unfold mkRow
  rw [h]
  refine Nat.succ_le_succ (depths_le2 fun k hk => ?_)
  rcases List.mem_append.mp hk with hk | hk
  · have := kids_dep hk
    omega
  · have := kids_dep hk
    omega
theorem kids_parts (b : Bool) (e : E) : ((kidsOf b e).map E.parts).sum ≤ e.parts := by
  cases e <;> cases b <;> simp [kidsOf, E.parts, partss_eq]
theorem mkRow_parts (b : Bool) (x y : E) : (mkRow b x y).parts ≤ x.parts + y.parts + 1 := by
  have h : ∀ es : List E, (rowE b es).parts = (es.map E.parts).sum + 1 := fun es => by
    cases b
    · show E.parts (.alt es) = _
      rw [E.parts, partss_eq]
    · show E.parts (.join es) = _
      rw [E.parts, partss_eq]
  unfold mkRow
  rw [h, List.map_append, List.sum_append]
  have := kids_parts b x
  have := kids_parts b y
  omega
end My
namespace My
open PySem PySem.Spec PyProof PyProof.Rows L2
/-! ### the set of a list of ints -/
section
variable {P : Program} {w : World} {A : Around} {E : Value → Shared → Prop} {s : Shared}
/-- the object that set() makes first -/
abbrev newS (w : World) : Obj := { cls := .type "set", dict := none, data := .set #[] 0 (.fresh 0 0 (!w.params.followText "set-order")) }
set_option maxHeartbeats 3200000 in
theorem call_setL {l : Addr} {its : Array Value} (ns : List Int) {Q : Value → Shared → Prop} (hh : A.handled = none) (hl : s.heap.IsList l its) (hit : IntsAre its.toList ns) (hb : ns.length + 1 < scanBound)
    (q : ∀ (h' : Heap) (tk c : Nat), SetR w h' s.heap.objs.size (fun j => decide (j ∈ ns)) c → (∀ b o, s.heap.get? b = some o → h'.get? b = some o) → Q (.ref s.heap.objs.size) { s with heap := h', toks := tk }) :
    wpAny (model P w) A (call (.type "set") [.ref l]) Q E s := by
  have sz : its.size = ns.length := by rw [← Array.length_toList]; exact IntsAre.length hit
  have e0 : (s.heap.push (newS w)).get? s.heap.objs.size = some (newS w) := Heap.get?_push_size _ rfl
  obtain ⟨c, tl, hmro⟩ := F.called_set.mro
  have hmade := F.called_set.made
  have hsub := F.called_set.sub
  have hn1 := F.called_set.notType
  have hn2 := F.called_set.canCreate
  have hn3 := F.typeCall_set_1 (.ref l)
  refine wpAny_call (codeAny_of_tree ?_)
  show wpAny _ _ (callAny (.type "set") _) _ _ _
  refine wpAny_pure ⟨Code.quiet_builtin _ (by decide +kernel), codeAny_builtin F.entry_type_call ?_⟩
  rw [Around.under_plain (weight_type_call_type "set" [.ref l] []) rfl]
  repeat (any_goals (first | assumption | wp_step))
  refine codeAny_mono (code_set_led1 (.ref l) (E := E) (Q₁ := fun v s1 => v = .ref s.heap.objs.size ∧ s1 = { s with heap := s.heap.push (newS w) }) ⟨rfl, rfl⟩) fun r s1 hr => ?_
  match r, hr with
  | .error e, hr => exact hr
  | .ok (.ret v), hr =>
    obtain ⟨rfl, rfl⟩ := hr
    have hT : Shared.TypeIs { s with heap := s.heap.push (newS w) } (.ref s.heap.objs.size) "set" := ⟨_, e0, rfl⟩
    have hli := F.called_set.init.lookup
    have hbi := F.called_set.init.bind (.ref s.heap.objs.size)
    repeat (any_goals (first | assumption | wp_step))
    refine codeAny_mono (codeAny_call_builtin (R := wants (fun v s2 => v = .none ∧ ∃ h' tk c, s2 = { s with heap := h', toks := tk } ∧ SetR w h' s.heap.objs.size (fun j => decide (j ∈ ns)) c ∧ ∀ b o, s.heap.get? b = some o → h'.get? b = some o) E) F.called_set.init.plain F.entry_set_init (check_set_init_1 hT ?_)) fun r2 s2 hr2 => ?_
    · have hl0 : (s.heap.push (newS w)).IsList l its := hl.push _
      have hlt : l < s.heap.objs.size := by
        obtain ⟨o, ho, _⟩ := hl
        exact Heap.lt_size ho
      have z1 : (s.heap.push (newS w)).objs.size = s.heap.objs.size + 1 := Heap.size_push ..
      have ne1 : l ≠ (s.heap.push (newS w)).objs.size := by
        rw [z1]
        exact Nat.ne_of_lt (Nat.lt_succ_of_lt hlt)
      have hh3 : A.in1.in1.in1.handled = none := by simp [hh]
      obtain ⟨o, ho, oc, n0, od⟩ := hl0
      obtain ⟨ocls, odict, odata, oslots⟩ := o
      simp only at oc od
      subst oc
      subst od
      have hl1 : (s.heap.push (newS w)).IsList l its := ⟨_, ho, rfl, n0, rfl⟩
      have u1 := F.sub_list_set
      have u2 := F.sub_list_frozenset
      have u3 : (Value.type "list" == Value.type "dict") = false := by decide
      unfold Builtin.«set.__init__» noKeywords Builtin.Frozenset.updateFrom
      generalize hPI : pyIter = PI
      wp_walk
      subst hPI
      refine wpAny_pyIter_list hl1 (wpAny_bind (wpAny_runValue ?_))
      have val : ∀ (i : Nat) (v : Value), its[i]? = some v → ∃ k t, ns[i]? = some k ∧ v = .int k t := fun i v hv => by
        have hi : i < ns.length := by rw [← sz]; exact (Array.getElem?_eq_some_iff.mp hv).1
        obtain ⟨t, e⟩ := IntsAre.int_at hit i v (by rw [Array.getElem?_toList]; exact hv)
        exact ⟨ns[i], t, List.getElem?_eq_getElem hi, by rw [e, List.getD_eq_getElem?_getD, List.getElem?_eq_getElem hi]; rfl⟩
      refine set_update_ints ((Walks.list hh3 _ l ne1 its).toS) s.heap.objs.size (fun h => ?_) ns sz hb val (its.size - 0) 0 _ (by omega) (Nat.zero_le _) ⟨⟨_, Heap.get?_push_size _ rfl, rfl, rfl⟩, hl1.push _⟩ ?_ fun s3 c3 mv hc3 hS => ?_
      · rw [List.mem_cons, List.mem_singleton, z1] at h
        rcases h with h | h
        · exact Nat.ne_of_lt (Nat.lt_succ_self _) h
        · exact Nat.ne_of_gt hlt h
      · exact ⟨0, Nat.le_refl 0, setR_new_at (Heap.get?_push_of_some _ e0)⟩
      · obtain ⟨h3, g3, d3, t3, o3⟩ := s3
        have eg : g3 = s.gens := mv.gens
        have ed : d3 = s.drawn := mv.drawn
        have eo : o3 = s.os := mv.os
        subst eg; subst ed; subst eo
        show wpAny _ _ _ _ _ _
        refine wpAny_pure ?_
        show wpAny _ _ (ret Value.none) _ _ _
        refine wpAny_pure ⟨rfl, h3, t3, c3, rfl, hS, fun b u hb2 => ?_⟩
        have hb3 := Heap.lt_size hb2
        refine mv.heap b u (fun h => ?_) (Heap.get?_push_of_some _ (Heap.get?_push_of_some _ hb2))
        rw [List.mem_cons, List.mem_singleton, z1] at h
        rcases h with h | h
        · exact Nat.ne_of_lt hb3 h
        · exact Nat.ne_of_lt (Nat.lt_succ_of_lt hb3) h
    · match r2, hr2 with
      | .error e, hr2 => exact hr2
      | .ok (.ret v), hr2 =>
        obtain ⟨rfl, h', tk, c', rfl, hS, hk⟩ := hr2
        repeat (any_goals (first | assumption | wp_step))
        exact q _ _ _ hS hk
end
/-- how many they are at most: the set's size tells different members -/
def rSetL (K : PySem.W.Frag) (w : World) : List V → Hp → VK → Prop := fun xs H Q => ∃ (l : Addr) (ns : List Int), xs = [V.ref l] ∧ SqL K H l (ns.map V.int) ∧ ns.length + 1 < scanBound ∧
  ∀ (p : Addr) (c : Nat), H p = none → (∀ m : Nat, (∀ j ∈ ns, 0 ≤ j ∧ j < (m : Int)) → c ≤ m) → Q (.ref p) (upd H p (SetO w p (fun j => decide (j ∈ ns)) c))
theorem cr_setL {X : Cx} (hc : X.calm = true) : CallR X (.type "set") (rSetL X.K X.w) := by
  intro pins s σ H xs us Q I r h
  obtain ⟨l, ns, rfl, hq, hb, q⟩ := h
  obtain ⟨u, rfl, ru⟩ := vals1 r
  obtain rfl : u = .ref l := ru
  obtain ⟨its, r2, pl, hz⟩ := I.list hq
  refine call_setL ns (I.ok.hd hc) pl.isList (by simpa using r2.ints) hb fun h' tk c hS hk => ?_
  refine ⟨.ref _, upd H s.heap.objs.size (SetO X.w s.heap.objs.size (fun j => decide (j ∈ ns)) c), I.laid (t' := tk) hk (Nat.le_refl _) (setO_new hS), rfl, q _ c (I.hok.fresh (Nat.le_refl _)) fun m hm => ?_⟩
  obtain ⟨o, es, ep, t, ho, hx, hd, g, nd, hmem, hb2, hf, hn, _⟩ := hS
  have := nodup_len m (es.toList.map keyOf) nd fun x hxm => hm x (of_decide_eq_true ((hmem x).mpr hxm))
  rw [List.length_map, Array.length_toList] at this
  omega
end My
namespace My
/-! ### going along a row of places by the ways of a part -/
def Go' (L : List Nat → Prop) (row : List Nat) (a b : Nat) : Prop := ∃ u t, L u ∧ row.drop a = u ++ t ∧ b = a + u.length ∧ b ≤ row.length
theorem go_mono {L M : List Nat → Prop} (k : ∀ u, L u → M u) {row : List Nat} {a b : Nat} (h : Go' L row a b) : Go' M row a b := by
  obtain ⟨u, t, h1, h2⟩ := h
  exact ⟨u, t, k u h1, h2⟩
theorem go_congr {L M : List Nat → Prop} (k : ∀ u, L u ↔ M u) {row : List Nat} {a b : Nat} : Go' L row a b ↔ Go' M row a b := ⟨go_mono fun u => (k u).mp, go_mono fun u => (k u).mpr⟩
theorem go_le {L : List Nat → Prop} {row : List Nat} {a b : Nat} (h : Go' L row a b) : b ≤ row.length := by
  obtain ⟨u, t, _, _, _, h⟩ := h
  exact h
theorem go_nil {row : List Nat} {a b : Nat} : Go' (fun ps => ps = []) row a b ↔ b = a ∧ a ≤ row.length := by
  constructor
  · rintro ⟨u, t, rfl, _, rfl, h⟩
    exact ⟨rfl, h⟩
  · rintro ⟨rfl, h⟩
    exact ⟨[], row.drop b, rfl, rfl, rfl, h⟩
theorem go_one {o : Nat} {row : List Nat} {a b : Nat} : Go' (fun ps => ps = [o]) row a b ↔ b = a + 1 ∧ row[a]? = some o := by
  constructor
  · rintro ⟨u, t, rfl, h1, rfl, h2⟩
    refine ⟨rfl, ?_⟩
    have e : (row.drop a)[0]? = some o := by rw [h1]; rfl
    rw [List.getElem?_drop] at e
    exact e
  · rintro ⟨rfl, h⟩
    obtain ⟨hl, he⟩ := List.getElem?_eq_some_iff.mp h
    exact ⟨[o], row.drop (a + 1), rfl, by rw [List.drop_eq_getElem_cons hl, he]; rfl, rfl, hl⟩
theorem go_seq {A B : List Nat → Prop} {row : List Nat} {a c : Nat} : Go' (fun ps => ∃ u v, ps = u ++ v ∧ A u ∧ B v) row a c ↔ ∃ b, Go' A row a b ∧ Go' B row b c := by
  constructor
  · rintro ⟨_, t, ⟨u, v, rfl, hA, hB⟩, h1, rfl, h2⟩
    rw [List.length_append] at h2
    refine ⟨a + u.length, ⟨u, v ++ t, hA, by rw [h1, List.append_assoc], rfl, by omega⟩, v, t, hB, ?_, ?_, ?_⟩
    · have e : row.drop (a + u.length) = (row.drop a).drop u.length := by rw [List.drop_drop]
      rw [e, h1, List.append_assoc, List.drop_left]
    · rw [List.length_append]; omega
    · rw [List.length_append]; omega
  · rintro ⟨b, ⟨u, t, hA, h1, rfl, h2⟩, v, t', hB, h3, rfl, h4⟩
    have e : row.drop (a + u.length) = (row.drop a).drop u.length := by rw [List.drop_drop]
    rw [e, h1, List.drop_left] at h3
    refine ⟨u ++ v, t', ⟨u, v, rfl, hA, hB⟩, by rw [h1, h3, List.append_assoc], by rw [List.length_append]; omega, h4⟩
theorem go_or {A B : List Nat → Prop} {row : List Nat} {a b : Nat} : Go' (fun ps => A ps ∨ B ps) row a b ↔ Go' A row a b ∨ Go' B row a b := by
  constructor
  · rintro ⟨u, t, h | h, r⟩
    · exact .inl ⟨u, t, h, r⟩
    · exact .inr ⟨u, t, h, r⟩
  · rintro (⟨u, t, h, r⟩ | ⟨u, t, h, r⟩)
    · exact ⟨u, t, .inl h, r⟩
    · exact ⟨u, t, .inr h, r⟩
theorem star_sn2 {L : List Nat → Prop} {u v : List Nat} (h : Star L u) (hv : L v) (n : v ≠ []) : Star L (u ++ v) := by
  induction h with
  | nil =>
    have h2 := Star.cons hv n (Star.nil (L := L))
    rw [List.append_nil] at h2
    exact h2
  | cons h1 n1 _ ih => rw [List.append_assoc]; exact .cons h1 n1 ih
theorem go_star0 {L : List Nat → Prop} {row : List Nat} {a : Nat} (h : a ≤ row.length) : Go' (Star L) row a a := ⟨[], row.drop a, .nil, rfl, rfl, h⟩
theorem go_starS {L : List Nat → Prop} {row : List Nat} {a b c : Nat} (h1 : Go' (Star L) row a b) (h2 : Go' L row b c) : Go' (Star L) row a c := by
  have h := go_seq.mpr ⟨b, h1, h2⟩
  refine go_mono ?_ h
  rintro _ ⟨u, v, rfl, hu, hv⟩
  by_cases n : v = []
  · rw [n, List.append_nil]; exact hu
  · exact star_sn2 hu hv n
theorem go_closed {L : List Nat → Prop} {row : List Nat} {S : Nat → Prop} (hS : ∀ x y, S x → Go' L row x y → S y) {a b : Nat} (h : Go' (Star L) row a b) : S a → S b := by
  obtain ⟨w, t, hw, h1, rfl, h2⟩ := h
  induction hw generalizing a t with
  | nil => exact fun h => h
  | @cons u v hu n _ ih =>
    intro ha
    rw [List.length_append] at h2
    have e : row.drop (a + u.length) = v ++ t := by
      have e : row.drop (a + u.length) = (row.drop a).drop u.length := by rw [List.drop_drop]
      rw [e, h1, List.append_assoc, List.drop_left]
    have := ih (a := a + u.length) t e (by omega) (hS a (a + u.length) ha ⟨u, v ++ t, hu, by rw [h1, List.append_assoc], rfl, by omega⟩)
    rw [List.length_append, ← Nat.add_assoc]
    exact this
theorem go_all {L : List Nat → Prop} {row : List Nat} : Go' L row 0 row.length ↔ L row := by
  constructor
  · rintro ⟨u, t, h, h1, h2, _⟩
    rw [List.drop_zero] at h1
    have e : t = [] := by
      have := congrArg List.length h1
      rw [List.length_append] at this
      exact List.length_eq_zero_iff.mp (by omega)
    rw [e, List.append_nil] at h1
    rw [h1]; exact h
  · exact fun h => ⟨row, [], h, by simp, by simp, Nat.le_refl _⟩
/-- what is new of a list -/
def newOf (xs found : List Nat) : List Nat := xs.filter fun x => decide (x ∉ found)
theorem mem_newOf {xs found : List Nat} {x : Nat} : x ∈ newOf xs found ↔ x ∈ xs ∧ x ∉ found := by
  unfold newOf
  rw [List.mem_filter, decide_eq_true_eq]
theorem add_nodup {xs found : List Nat} (h1 : xs.Nodup) (h2 : found.Nodup) : (found ++ newOf xs found).Nodup := by
  rw [List.nodup_append]
  refine ⟨h2, h1.sublist List.filter_sublist, ?_⟩
  rintro a ha b hb rfl
  exact (mem_newOf.mp hb).2 ha
theorem mem_add {xs found : List Nat} {x : Nat} : x ∈ found ++ newOf xs found ↔ x ∈ found ∨ x ∈ xs := by
  rw [List.mem_append, mem_newOf]
  constructor
  · rintro (h | h)
    · exact .inl h
    · exact .inr h.1
  · intro h
    by_cases c : x ∈ found
    · exact .inl c
    · exact .inr ⟨h.resolve_left c, c⟩
/-- the state of the loop of a "many" -/
structure Many (L : List Nat → Prop) (row ss found fresh : List Nat) (turn : Nat) : Prop where
  nd : found.Nodup
  sub : ∀ x ∈ fresh, x ∈ found
  nf : fresh.Nodup
  st : ∀ x ∈ ss, x ∈ found
  re : ∀ x ∈ found, ∃ a ∈ ss, Go' (Star L) row a x
  cl : ∀ x ∈ found, x ∉ fresh → ∀ y, Go' L row x y → y ∈ found
  ln : fresh = [] ∨ turn < found.length
theorem Many.start {L : List Nat → Prop} {row ss : List Nat} (hn : ss.Nodup) (hb : ∀ a ∈ ss, a ≤ row.length) : Many L row ss ss ss 0 where
  nd := hn
  sub := fun _ h => h
  nf := hn
  st := fun _ h => h
  re := fun x h => ⟨x, h, go_star0 (hb x h)⟩
  cl := fun x h n => absurd h n
  ln := by
    cases ss with
    | nil => exact .inl rfl
    | cons x ss => exact .inr (Nat.succ_pos _)
theorem Many.step {L : List Nat → Prop} {row ss found fresh xs : List Nat} {turn : Nat} (h : Many L row ss found fresh turn) (hx : xs.Nodup) (hm : ∀ b, b ∈ xs ↔ ∃ a ∈ fresh, Go' L row a b) : Many L row ss (found ++ newOf xs found) (newOf xs found) (turn + 1) where
  nd := add_nodup hx h.nd
  sub := fun x hx => List.mem_append_right _ hx
  nf := hx.sublist List.filter_sublist
  st := fun x hx => List.mem_append_left _ (h.st x hx)
  re := fun x hx => by
    rcases mem_add.mp hx with h1 | h1
    · exact h.re x h1
    · obtain ⟨a, ha, g⟩ := (hm x).mp h1
      obtain ⟨s, hs, g0⟩ := h.re a (h.sub a ha)
      exact ⟨s, hs, go_starS g0 g⟩
  cl := fun x h1 h2 y g => by
    refine mem_add.mpr ?_
    rcases List.mem_append.mp h1 with h3 | h3
    · by_cases c : x ∈ fresh
      · exact .inr ((hm y).mpr ⟨x, c, g⟩)
      · exact .inl (h.cl x h3 c y g)
    · exact absurd h3 h2
  ln := by
    rcases h.ln with h1 | h1
    · left
      have : xs = [] := by
        cases xs with
        | nil => rfl
        | cons x xs =>
          obtain ⟨a, ha, _⟩ := (hm x).mp (List.mem_cons_self ..)
          rw [h1] at ha
          cases ha
      rw [this]
      rfl
    · cases e : newOf xs found with
      | nil => exact .inl rfl
      | cons y ys =>
        right
        rw [List.length_append, List.length_cons]
        omega
theorem Many.last {L : List Nat → Prop} {row ss found fresh : List Nat} (h : Many L row ss found fresh (row.length + 1)) (hlen : found.length ≤ row.length + 1) (b : Nat) : b ∈ found ↔ ∃ a ∈ ss, Go' (Star L) row a b := by
  have fe : fresh = [] := by
    rcases h.ln with c | c
    · exact c
    · omega
  constructor
  · exact h.re b
  · rintro ⟨a, ha, g⟩
    exact go_closed (S := fun x => x ∈ found) (fun x y hx g => h.cl x hx (by rw [fe]; exact fun c => nomatch c) y g) g (h.st a ha)
end My
namespace My
open PySem PySem.Spec PyProof.Rows L2
/-! ### the first words that lead to pairs of states -/
/-- of words as long as each other, the first in the alphabet -/
def wltB : List Nat → List Nat → Prop
  | a :: u, b :: v => a < b ∨ a = b ∧ wltB u v
  | _, _ => False
def wlt (u v : List Nat) : Prop := u.length < v.length ∨ u.length = v.length ∧ wltB u v
def wle (u v : List Nat) : Prop := u = v ∨ wlt u v
theorem wltB_irr : ∀ u : List Nat, ¬ wltB u u
  | [], h => h
  | a :: u, h => by
    rcases h with h | ⟨_, h⟩
    · omega
    · exact wltB_irr u h
theorem wltB_trans : ∀ {u v w : List Nat}, wltB u v → wltB v w → wltB u w
  | a :: u, b :: v, c :: w, h, k => by
    rcases h with h | ⟨rfl, h⟩ <;> rcases k with k | ⟨rfl, k⟩
    · exact .inl (by omega)
    · exact .inl h
    · exact .inl k
    · exact .inr ⟨rfl, wltB_trans h k⟩
  | [], _, _, h, _ => h.elim
  | _ :: _, [], _, h, _ => h.elim
  | _ :: _, _ :: _, [], _, k => k.elim
theorem wltB_tot : ∀ {u v : List Nat}, u.length = v.length → u = v ∨ wltB u v ∨ wltB v u
  | [], [], _ => .inl rfl
  | a :: u, b :: v, h => by
    rcases Nat.lt_trichotomy a b with c | rfl | c
    · exact .inr (.inl (.inl c))
    · rcases wltB_tot (u := u) (v := v) (Nat.succ.inj h) with rfl | k | k
      · exact .inl rfl
      · exact .inr (.inl (.inr ⟨rfl, k⟩))
      · exact .inr (.inr (.inr ⟨rfl, k⟩))
    · exact .inr (.inr (.inl c))
  | [], _ :: _, h => by cases h
  | _ :: _, [], h => by cases h
theorem wltB_snoc : ∀ {u v : List Nat} (x y : List Nat), wltB u v → wltB (u ++ x) (v ++ y)
  | a :: u, b :: v, x, y, h => by
    rcases h with h | ⟨rfl, h⟩
    · exact .inl h
    · exact .inr ⟨rfl, wltB_snoc x y h⟩
  | [], _, _, _, h => h.elim
  | _ :: _, [], _, _, h => h.elim
theorem wltB_last : ∀ (u : List Nat) {c d : Nat}, c < d → wltB (u ++ [c]) (u ++ [d])
  | [], c, d, h => .inl h
  | a :: u, c, d, h => .inr ⟨rfl, wltB_last u h⟩
theorem wlt_irr (u : List Nat) : ¬ wlt u u := fun h => by
  rcases h with h | ⟨_, h⟩
  · omega
  · exact wltB_irr u h
theorem wlt_trans {u v w : List Nat} (h : wlt u v) (k : wlt v w) : wlt u w := by
  rcases h with h | ⟨e, h⟩ <;> rcases k with k | ⟨f, k⟩
  · exact .inl (by omega)
  · exact .inl (by omega)
  · exact .inl (by omega)
  · exact .inr ⟨e.trans f, wltB_trans h k⟩
theorem wlt_tot (u v : List Nat) : u = v ∨ wlt u v ∨ wlt v u := by
  rcases Nat.lt_trichotomy u.length v.length with h | h | h
  · exact .inr (.inl (.inl h))
  · rcases wltB_tot h with e | k | k
    · exact .inl e
    · exact .inr (.inl (.inr ⟨h, k⟩))
    · exact .inr (.inr (.inr ⟨h.symm, k⟩))
  · exact .inr (.inr (.inl h))
theorem wle_trans {u v w : List Nat} (h : wle u v) (k : wle v w) : wle u w := by
  rcases h with rfl | h
  · exact k
  · rcases k with rfl | k
    · exact .inr h
    · exact .inr (wlt_trans h k)
theorem wle_anti {u v : List Nat} (h : wle u v) (k : wle v u) : u = v := by
  rcases h with rfl | h
  · rfl
  · rcases k with rfl | k
    · rfl
    · exact absurd (wlt_trans h k) (wlt_irr u)
theorem wle_len {u v : List Nat} (h : wle u v) : u.length ≤ v.length := by
  rcases h with rfl | h | ⟨h, _⟩ <;> omega
theorem wle_snoc {u v : List Nat} (c : Nat) (h : wle u v) : wle (u ++ [c]) (v ++ [c]) := by
  rcases h with rfl | h | ⟨e, h⟩
  · exact .inl rfl
  · exact .inr (.inl (by rw [List.length_append, List.length_append]; omega))
  · exact .inr (.inr ⟨by rw [List.length_append, List.length_append]; omega, wltB_snoc _ _ h⟩)
theorem wlt_snoc {u v : List Nat} (c d : Nat) (h : wlt u v) : wlt (u ++ [c]) (v ++ [d]) := by
  rcases h with h | ⟨e, h⟩
  · exact .inl (by rw [List.length_append, List.length_append]; show u.length + 1 < v.length + 1; omega)
  · exact .inr ⟨by rw [List.length_append, List.length_append, e]; rfl, wltB_snoc _ _ h⟩
theorem wlt_last (u : List Nat) {c d : Nat} (h : c < d) : wlt (u ++ [c]) (u ++ [d]) := .inr ⟨by rw [List.length_append, List.length_append]; rfl, wltB_last u h⟩
/-! ### pairs of states -/
abbrev OP := Option Nat × Option Nat
abbrev PW := List (OP × List Nat)
def stepP (m1 m2 : Mv) (p : OP) (c : Nat) : OP := (p.1.bind fun q => m1 q c, p.2.bind fun q => m2 q c)
def runP (m1 m2 : Mv) (u : List Nat) : OP := (runM m1 0 u, runM m2 0 u)
theorem runM_snoc (mv : Mv) (q : Nat) (u : List Nat) (c : Nat) : runM mv q (u ++ [c]) = (runM mv q u).bind fun t => mv t c := by
  rw [runM_app]
  congr 1
  funext t
  rw [runM]
  cases mv t c <;> rfl
theorem runP_snoc (m1 m2 : Mv) (u : List Nat) (c : Nat) : runP m1 m2 (u ++ [c]) = stepP m1 m2 (runP m1 m2 u) c := by
  unfold runP stepP
  rw [runM_snoc, runM_snoc]
abbrev LetsN (u : List Nat) : Prop := ∀ c ∈ u, c ∈ lets4
/-- the words up to so many letters lead to pairs that are told, with their first words -/
structure WLev (m1 m2 : Mv) (n : Nat) (W L : PW) : Prop where
  run : ∀ x ∈ W, x.1 = runP m1 m2 x.2 ∧ LetsN x.2 ∧ x.2.length ≤ n
  nd : (W.map (·.1)).Nodup
  asc : W.Pairwise fun x y => wlt x.2 y.2
  cov : ∀ u, LetsN u → u.length ≤ n → ∃ x ∈ W, x.1 = runP m1 m2 u ∧ wle x.2 u
  lat : L = W.filter fun x => decide (x.2.length = n)
/-- some words with one letter more are looked at -/
structure WIn (m1 m2 : Mv) (n : Nat) (W L F : PW) (cs : List (List Nat)) : Prop where
  lev : WLev m1 m2 n W L
  run : ∀ x ∈ F, x.1 = runP m1 m2 x.2 ∧ LetsN x.2 ∧ x.2.length = n + 1 ∧ x.2 ∈ cs
  nd : ((W ++ F).map (·.1)).Nodup
  asc : F.Pairwise fun x y => wlt x.2 y.2
  done : ∀ u ∈ cs, ∃ x ∈ W ++ F, x.1 = runP m1 m2 u ∧ wle x.2 u
theorem WLev.start (m1 m2 : Mv) : WLev m1 m2 0 [((some 0, some 0), [])] [((some 0, some 0), [])] where
  run := fun x hx => by
    obtain rfl := List.mem_singleton.mp hx
    exact ⟨rfl, fun c hc => (by cases hc), Nat.le_refl _⟩
  nd := .cons (fun _ h => nomatch h) .nil
  asc := List.pairwise_singleton _ _
  cov := fun u _ hu => by
    have : u = [] := List.length_eq_zero_iff.mp (by omega)
    subst this
    exact ⟨_, List.mem_singleton.mpr rfl, rfl, .inl rfl⟩
  lat := rfl
theorem WLev.into {m1 m2 : Mv} {n : Nat} {W L : PW} (h : WLev m1 m2 n W L) : WIn m1 m2 n W L [] [] where
  lev := h
  run := fun x hx => by cases hx
  nd := by rw [List.append_nil]; exact h.nd
  asc := .nil
  done := fun u hu => by cases hu
theorem WIn.old {m1 m2 : Mv} {n : Nat} {W L F : PW} {cs : List (List Nat)} {u : List Nat} (h : WIn m1 m2 n W L F cs) (hu : u.length = n + 1) (hc : ∀ v ∈ cs, wlt v u) (hin : runP m1 m2 u ∈ (W ++ F).map (·.1)) : WIn m1 m2 n W L F (cs ++ [u]) where
  lev := h.lev
  run := fun x hx => by
    obtain ⟨a, b, c, d⟩ := h.run x hx
    exact ⟨a, b, c, List.mem_append_left _ d⟩
  nd := h.nd
  asc := h.asc
  done := fun v hv => by
    rcases List.mem_append.mp hv with hv | hv
    · exact h.done v hv
    · obtain rfl := List.mem_singleton.mp hv
      obtain ⟨x, hx, e⟩ := List.mem_map.mp hin
      refine ⟨x, hx, e, .inr ?_⟩
      rcases List.mem_append.mp hx with k | k
      · exact .inl (by have := (h.lev.run x k).2.2; omega)
      · exact hc _ (h.run x k).2.2.2
theorem WIn.new {m1 m2 : Mv} {n : Nat} {W L F : PW} {cs : List (List Nat)} {u : List Nat} (h : WIn m1 m2 n W L F cs) (hu : u.length = n + 1) (hl : LetsN u) (hc : ∀ v ∈ cs, wlt v u) (hin : runP m1 m2 u ∉ (W ++ F).map (·.1)) : WIn m1 m2 n W L (F ++ [(runP m1 m2 u, u)]) (cs ++ [u]) where
  lev := h.lev
  run := fun x hx => by
    rcases List.mem_append.mp hx with hx | hx
    · obtain ⟨a, b, c, d⟩ := h.run x hx
      exact ⟨a, b, c, List.mem_append_left _ d⟩
    · obtain rfl := List.mem_singleton.mp hx
      exact ⟨rfl, hl, hu, List.mem_append_right _ (List.mem_singleton.mpr rfl)⟩
  nd := by
    rw [← List.append_assoc, List.map_append, List.nodup_append]
    refine ⟨h.nd, .cons (fun _ h => nomatch h) .nil, fun a ha b hb e => hin ?_⟩
    have e2 : b = runP m1 m2 u := List.mem_singleton.mp hb
    rw [← e2, ← e]
    exact ha
  asc := by
    rw [List.pairwise_append]
    refine ⟨h.asc, List.pairwise_singleton _ _, fun x hx y hy => ?_⟩
    obtain rfl := List.mem_singleton.mp hy
    exact hc _ (h.run x hx).2.2.2
  done := fun v hv => by
    rw [← List.append_assoc]
    rcases List.mem_append.mp hv with hv | hv
    · obtain ⟨x, hx, e⟩ := h.done v hv
      exact ⟨x, List.mem_append_left _ hx, e⟩
    · obtain rfl := List.mem_singleton.mp hv
      exact ⟨_, List.mem_append_right _ (List.mem_singleton.mpr rfl), rfl, .inl rfl⟩
/-- what one letter more makes of so many words -/
def nextW (ws : List (List Nat)) : List (List Nat) := ws.flatMap fun w => lets4.map fun c => w ++ [c]
theorem nextW_snoc (ws : List (List Nat)) (w : List Nat) : nextW (ws ++ [w]) = nextW ws ++ lets4.map fun c => w ++ [c] := by
  unfold nextW
  rw [List.flatMap_append, List.flatMap_singleton]
theorem mem_nextW {ws : List (List Nat)} {v : List Nat} : v ∈ nextW ws ↔ ∃ w ∈ ws, ∃ c ∈ lets4, v = w ++ [c] := by
  unfold nextW
  rw [List.mem_flatMap]
  constructor
  · rintro ⟨w, hw, h⟩
    obtain ⟨c, hc, e⟩ := List.mem_map.mp h
    exact ⟨w, hw, c, hc, e.symm⟩
  · rintro ⟨w, hw, c, hc, rfl⟩
    exact ⟨w, hw, List.mem_map.mpr ⟨c, hc, rfl⟩⟩
/-- the words looked at before the k-th letter behind the i-th word -/
def seenW (L : PW) (w : List Nat) (i k : Nat) : List (List Nat) := nextW ((L.take i).map (·.2)) ++ (lets4.take k).map fun c => w ++ [c]
theorem lets4_get {k : Nat} (h : k < 4) : lets4[k]? = some (97 + k) := by
  match k, h with
  | 0, _ => rfl
  | 1, _ => rfl
  | 2, _ => rfl
  | 3, _ => rfl
theorem seenW_snoc (L : PW) (w : List Nat) (i : Nat) {k : Nat} (h : k < 4) : seenW L w i (k + 1) = seenW L w i k ++ [w ++ [97 + k]] := by
  unfold seenW
  rw [List.append_assoc]
  congr 1
  match k, h with
  | 0, _ => rfl
  | 1, _ => rfl
  | 2, _ => rfl
  | 3, _ => rfl
theorem seenW_four {L : PW} {x : OP × List Nat} {i : Nat} (h : L[i]? = some x) (v : List Nat) : seenW L v (i + 1) 0 = seenW L x.2 i 4 := by
  unfold seenW
  have hl := (List.getElem?_eq_some_iff.mp h).1
  have e : L.take (i + 1) = L.take i ++ [x] := by
    rw [List.take_add_one, h]
    rfl
  rw [e, List.map_append, List.map_cons, List.map_nil, nextW_snoc]
  show _ ++ [] = _ ++ (lets4.take 4).map _
  rw [List.append_nil]
  rfl
theorem WLev.pL {m1 m2 : Mv} {n : Nat} {W L : PW} (h : WLev m1 m2 n W L) {x : OP × List Nat} : x ∈ L ↔ x ∈ W ∧ x.2.length = n := by
  rw [h.lat, List.mem_filter, decide_eq_true_eq]
theorem WLev.aL {m1 m2 : Mv} {n : Nat} {W L : PW} (h : WLev m1 m2 n W L) : L.Pairwise fun x y => wlt x.2 y.2 := by
  rw [h.lat]
  exact h.asc.sublist List.filter_sublist
theorem seenW_lt {m1 m2 : Mv} {n : Nat} {W L : PW} (h : WLev m1 m2 n W L) {i k : Nat} {x : OP × List Nat} (hx : L[i]? = some x) (hk : k < 4) : ∀ v ∈ seenW L x.2 i k, wlt v (x.2 ++ [97 + k]) := by
  intro v hv
  unfold seenW at hv
  rcases List.mem_append.mp hv with hv | hv
  · obtain ⟨w, hw, c, _, rfl⟩ := mem_nextW.mp hv
    obtain ⟨y, hy, rfl⟩ := List.mem_map.mp hw
    obtain ⟨j, hj, e⟩ := List.getElem_of_mem hy
    rw [List.length_take] at hj
    have hil := (List.getElem?_eq_some_iff.mp hx)
    rw [List.getElem_take] at e
    have := (List.pairwise_iff_getElem.mp h.aL) j i (by omega) hil.1 (by omega)
    rw [e, hil.2] at this
    exact wlt_snoc _ _ this
  · obtain ⟨c, hc, rfl⟩ := List.mem_map.mp hv
    refine wlt_last _ ?_
    match k, hk with
    | 0, _ => cases hc
    | 1, _ =>
      have : c ∈ [97] := hc
      simp at this
      omega
    | 2, _ =>
      have : c ∈ [97, 98] := hc
      simp at this
      omega
    | 3, _ =>
      have : c ∈ [97, 98, 99] := hc
      simp at this
      omega
theorem WIn.out {m1 m2 : Mv} {n : Nat} {W L F : PW} {cs : List (List Nat)} (h : WIn m1 m2 n W L F cs) (hcs : ∀ v ∈ nextW (L.map (·.2)), v ∈ cs) : WLev m1 m2 (n + 1) (W ++ F) F where
  run := fun x hx => by
    rcases List.mem_append.mp hx with k | k
    · obtain ⟨a, b, c⟩ := h.lev.run x k
      exact ⟨a, b, by omega⟩
    · obtain ⟨a, b, c, _⟩ := h.run x k
      exact ⟨a, b, by omega⟩
  nd := h.nd
  asc := by
    rw [List.pairwise_append]
    exact ⟨h.lev.asc, h.asc, fun x hx y hy => .inl (by
      have h1 := (h.lev.run x hx).2.2
      have h2 := (h.run y hy).2.2.1
      omega)⟩
  cov := fun u hl hu => by
    rcases Nat.lt_or_ge n u.length with hn | hn
    · rcases List.eq_nil_or_concat u with rfl | ⟨v, c, rfl⟩
      · exact absurd hn (Nat.not_lt_zero _)
      rw [List.concat_eq_append] at hl hu hn ⊢
      rw [List.length_append, List.length_singleton] at hu hn
      obtain ⟨x, hx, e1, e2⟩ := h.lev.cov v (fun d hd => hl d (List.mem_append_left _ hd)) (by omega)
      have hc := hl c (List.mem_append_right _ (List.mem_singleton.mpr rfl))
      have hr : runP m1 m2 (v ++ [c]) = runP m1 m2 (x.2 ++ [c]) := by rw [runP_snoc, runP_snoc, ← e1, (h.lev.run x hx).1]
      have hlx : LetsN (x.2 ++ [c]) := fun d hd => by
        rcases List.mem_append.mp hd with hd | hd
        · exact (h.lev.run x hx).2.1 d hd
        · rw [List.mem_singleton.mp hd]
          exact hc
      by_cases hxn : x.2.length = n
      · obtain ⟨y, hy, f1, f2⟩ := h.done (x.2 ++ [c]) (hcs _ (mem_nextW.mpr ⟨x.2, List.mem_map.mpr ⟨x, h.lev.pL.mpr ⟨hx, hxn⟩, rfl⟩, c, hc, rfl⟩))
        exact ⟨y, hy, by rw [f1, hr], wle_trans f2 (wle_snoc c e2)⟩
      · have := (h.lev.run x hx).2.2
        obtain ⟨y, hy, f1, f2⟩ := h.lev.cov (x.2 ++ [c]) hlx (by rw [List.length_append, List.length_singleton]; omega)
        exact ⟨y, List.mem_append_left _ hy, by rw [f1, hr], wle_trans f2 (wle_snoc c e2)⟩
    · obtain ⟨x, hx, e⟩ := h.lev.cov u hl hn
      exact ⟨x, List.mem_append_left _ hx, e⟩
  lat := by
    rw [List.filter_append]
    have e1 : W.filter (fun x => decide (x.2.length = n + 1)) = [] := by
      rw [List.filter_eq_nil_iff]
      intro x hx c
      have h1 := (h.lev.run x hx).2.2
      have h2 := of_decide_eq_true c
      omega
    have e2 : F.filter (fun x => decide (x.2.length = n + 1)) = F := by
      rw [List.filter_eq_self]
      intro x hx
      exact decide_eq_true (h.run x hx).2.2.1
    rw [e1, e2, List.nil_append]
/-- all pairs to which words lead, each with its first word, in the words' order -/
structure WAll (m1 m2 : Mv) (W : PW) : Prop where
  run : ∀ x ∈ W, x.1 = runP m1 m2 x.2 ∧ LetsN x.2
  nd : (W.map (·.1)).Nodup
  asc : W.Pairwise fun x y => wlt x.2 y.2
  cov : ∀ u, LetsN u → ∃ x ∈ W, x.1 = runP m1 m2 u ∧ wle x.2 u
theorem WLev.all {m1 m2 : Mv} {n : Nat} {W : PW} (h : WLev m1 m2 n W []) : WAll m1 m2 W where
  run := fun x hx => ⟨(h.run x hx).1, (h.run x hx).2.1⟩
  nd := h.nd
  asc := h.asc
  cov := fun u => by
    have key : ∀ (k : Nat) (u : List Nat), u.length = k → LetsN u → ∃ x ∈ W, x.1 = runP m1 m2 u ∧ wle x.2 u := by
      intro k
      induction k with
      | zero => exact fun u hu hl => h.cov u hl (by omega)
      | succ k ih =>
        intro u hu hl
        rcases List.eq_nil_or_concat u with rfl | ⟨v, c, rfl⟩
        · cases hu
        rw [List.concat_eq_append] at hl hu ⊢
        rw [List.length_append, List.length_singleton] at hu
        obtain ⟨x, hx, e1, e2⟩ := ih v (by omega) fun d hd => hl d (List.mem_append_left _ hd)
        have hr : runP m1 m2 (v ++ [c]) = runP m1 m2 (x.2 ++ [c]) := by rw [runP_snoc, runP_snoc, ← e1, (h.run x hx).1]
        have hn : x.2.length ≠ n := fun hn => by
          have := h.pL.mpr ⟨hx, hn⟩
          cases this
        have := (h.run x hx).2.2
        obtain ⟨y, hy, f1, f2⟩ := h.cov (x.2 ++ [c]) (fun d hd => by
          rcases List.mem_append.mp hd with hd | hd
          · exact (h.run x hx).2.1 d hd
          · exact hl d (List.mem_append_right _ hd)) (by rw [List.length_append, List.length_singleton]; omega)
        exact ⟨y, hy, by rw [f1, hr], wle_trans f2 (wle_snoc c e2)⟩
    exact fun hl => key _ u rfl hl
/-- so many pairs there are at most -/
def allP (a b : Nat) : List OP := (none :: (List.range a).map some).flatMap fun x => (none :: (List.range b).map some).map fun y => (x, y)
theorem mem_opts {a : Nat} {o : Option Nat} (h : ∀ q, o = some q → q < a) : o ∈ (none :: (List.range a).map some) := by
  cases o with
  | none => exact List.mem_cons_self ..
  | some q => exact List.mem_cons_of_mem _ (List.mem_map.mpr ⟨q, List.mem_range.mpr (h q rfl), rfl⟩)
theorem mem_allP {a b : Nat} {p : OP} (h1 : ∀ q, p.1 = some q → q < a) (h2 : ∀ q, p.2 = some q → q < b) : p ∈ allP a b := List.mem_flatMap.mpr ⟨p.1, mem_opts h1, List.mem_map.mpr ⟨p.2, mem_opts h2, rfl⟩⟩
theorem allP_len (a b : Nat) : (allP a b).length = (a + 1) * (b + 1) := by
  have e : ∀ (l : List (Option Nat)), (l.flatMap fun x => (none :: (List.range b).map some).map fun y => (x, y)).length = l.length * (b + 1) := fun l => by
    induction l with
    | nil => simp
    | cons s l ih => rw [List.flatMap_cons, List.length_append, ih, List.length_map, List.length_cons, List.length_map, List.length_range, List.length_cons, Nat.succ_mul, Nat.add_comm]
  unfold allP
  rw [e, List.length_cons, List.length_map, List.length_range]
theorem pairs_len {W : PW} {a b : Nat} (nd : (W.map (·.1)).Nodup) (h : ∀ x ∈ W, (∀ q, x.1.1 = some q → q < a) ∧ ∀ q, x.1.2 = some q → q < b) : W.length ≤ (a + 1) * (b + 1) := by
  rw [← allP_len, ← List.length_map (f := (·.1))]
  refine nodup_subA _ _ nd fun p hp => ?_
  obtain ⟨x, hx, rfl⟩ := List.mem_map.mp hp
  exact mem_allP (h x hx).1 (h x hx).2
/-- what is so for all words is so at the pairs that are told -/
theorem WAll.iff {m1 m2 : Mv} {W : PW} (h : WAll m1 m2 W) (f : OP → Bool) : (W.any fun x => f x.1) = true ↔ ∃ u, LetsN u ∧ f (runP m1 m2 u) = true := by
  rw [List.any_eq_true]
  constructor
  · rintro ⟨x, hx, e⟩
    exact ⟨x.2, (h.run x hx).2, by rw [← (h.run x hx).1]; exact e⟩
  · rintro ⟨u, hl, e⟩
    obtain ⟨x, hx, e1, _⟩ := h.cov u hl
    exact ⟨x, hx, by rw [e1]; exact e⟩
end My
namespace My
open PySem PySem.Spec PyProof.Rows L2
/-! ### sets of places, from the start on -/
abbrev OS := Option (List Nat)
def nxS (e : E) : OS → Nat → List Nat
  | none, c => stS e [] c
  | some s, c => if s = [] then [] else stS e s c
def nxO (e : E) (o : OS) (c : Nat) : OS := some (nxS e o c)
def endO (e : E) : OS → Bool
  | none => (gl e 0).nul
  | some s => s.any fun i => decide (i ∈ (gl e 0).lst)
def runO (e : E) (o : OS) (u : List Nat) : OS := u.foldl (nxO e) o
theorem runO_snoc (e : E) (o : OS) (u : List Nat) (c : Nat) : runO e o (u ++ [c]) = nxO e (runO e o u) c := List.foldl_append
theorem runO_dead (e : E) : ∀ u : List Nat, endO e (runO e (some []) u) = false
  | [] => rfl
  | c :: u => runO_dead e u
theorem accS_nil {e : E} {S : List Nat} : accS e S [] ↔ endS e S = true := by
  unfold accS
  exact ⟨fun ⟨T, h, k⟩ => by cases h; exact k, fun h => ⟨S, rfl, h⟩⟩
theorem runO_some {e : E} : ∀ (u : List Nat) {s : List Nat}, s ≠ [] → (endO e (runO e (some s) u) = true ↔ accS e s u)
  | [], s, h => by
    rw [accS_nil]
    unfold endS
    rw [if_neg h]
    exact Iff.rfl
  | c :: u, s, h => by
    rw [accS_cons]
    have e1 : runO e (some s) (c :: u) = runO e (some (stS e s c)) u := by
      show runO e (nxO e (some s) c) u = _
      show runO e (some (if s = [] then [] else stS e s c)) u = _
      rw [if_neg h]
    rw [e1]
    by_cases k : stS e s c = []
    · rw [k, runO_dead]
      exact ⟨(fun h => by cases h), fun h => absurd rfl h.1⟩
    · rw [runO_some u k]
      exact ⟨fun h => ⟨k, h⟩, fun h => h.2⟩
theorem runO_mw {e : E} (u : List Nat) : endO e (runO e none u) = true ↔ MW e u := by
  rw [mw_accS]
  cases u with
  | nil =>
    rw [accS_nil]
    unfold endS
    rw [if_pos rfl]
    exact Iff.rfl
  | cons c u =>
    rw [accS_cons]
    show endO e (runO e (some (stS e [] c)) u) = true ↔ _
    by_cases k : stS e [] c = []
    · rw [k, runO_dead]
      exact ⟨(fun h => by cases h), fun h => absurd rfl h.1⟩
    · rw [runO_some u k]
      exact ⟨fun h => ⟨k, h⟩, fun h => h.2⟩
/-- the sets that come: rising rows of places -/
def SetOk (e : E) (o : OS) : Prop := ∀ s, o = some s → s.Pairwise (· < ·) ∧ ∀ x ∈ s, x < e.places
theorem nxO_ok {e : E} (hf : (gl e 0).fst.Pairwise (· < ·)) (o : OS) (c : Nat) : SetOk e (nxO e o c) := by
  intro s h
  cases h
  cases o with
  | none => exact ⟨stS_rise hf, fun x hx => stS_lt hx⟩
  | some t =>
    show (if t = [] then [] else stS e t c).Pairwise (· < ·) ∧ ∀ x ∈ (if t = [] then [] else stS e t c), x < e.places
    split
    · exact ⟨.nil, fun x hx => nomatch hx⟩
    · exact ⟨stS_rise hf, fun x hx => stS_lt hx⟩
theorem runO_ok {e : E} (hf : (gl e 0).fst.Pairwise (· < ·)) (u : List Nat) : SetOk e (runO e none u) := by
  rcases List.eq_nil_or_concat u with rfl | ⟨v, c, rfl⟩
  · intro s h
    cases h
  · rw [List.concat_eq_append, runO_snoc]
    exact nxO_ok hf _ _
theorem setOk_mem {e : E} {s : List Nat} (h : SetOk e (some s)) : s ∈ subsN e.places := subsN_mem _ _ (h s rfl).1 (h s rfl).2
def optsS (n : Nat) : List OS := none :: (subsN n).map some
theorem mem_optsS {e : E} {o : OS} (h : SetOk e o) : o ∈ optsS e.places := by
  cases o with
  | none => exact List.mem_cons_self ..
  | some s => exact List.mem_cons_of_mem _ (List.mem_map.mpr ⟨s, setOk_mem h, rfl⟩)
theorem optsS_len (n : Nat) : (optsS n).length = 2 ^ n + 1 := by
  unfold optsS
  rw [List.length_cons, List.length_map, subsN_len]
theorem prods_len {α β : Type} (xs : List α) (ys : List β) : (xs.flatMap fun x => ys.map fun y => (x, y)).length = xs.length * ys.length := by
  induction xs with
  | nil => simp
  | cons s l ih => rw [List.flatMap_cons, List.length_append, ih, List.length_map, List.length_cons, Nat.succ_mul, Nat.add_comm]
/-! ### a queue of what words lead to -/
section
variable {σ : Type} [DecidableEq σ]
/-- the first i words are done, and of the next one the first k letters -/
structure WQ (run : List Nat → σ) (W : List (σ × List Nat)) (i k : Nat) : Prop where
  ok : ∀ x ∈ W, x.1 = run x.2 ∧ LetsN x.2
  nd : (W.map (·.1)).Nodup
  asc : W.Pairwise fun x y => wlt x.2 y.2
  head : ∃ x ∈ W, x.2 = []
  done : ∀ j x, W[j]? = some x → ∀ c ∈ lets4, (j < i ∨ j = i ∧ c < 97 + k) → ∃ y ∈ W, y.1 = run (x.2 ++ [c]) ∧ wle y.2 (x.2 ++ [c])
  new : ∀ y ∈ W, y.2 = [] ∨ ∃ j x c, W[j]? = some x ∧ y.2 = x.2 ++ [c] ∧ (j < i ∨ j = i ∧ c < 97 + k)
theorem WQ.start (run : List Nat → σ) : WQ run [(run [], [])] 0 0 where
  ok := fun x hx => by
    obtain rfl := List.mem_singleton.mp hx
    exact ⟨rfl, fun c hc => nomatch hc⟩
  nd := .cons (fun _ h => nomatch h) .nil
  asc := List.pairwise_singleton _ _
  head := ⟨_, List.mem_singleton.mpr rfl, rfl⟩
  done := fun j x hj c hc h => by
    rcases h with h | ⟨_, h⟩
    · exact absurd h (Nat.not_lt_zero _)
    · have : 97 ≤ c := by
        have : c ∈ [97, 98, 99, 100] := hc
        simp at this
        omega
      omega
  new := fun y hy => by
    obtain rfl := List.mem_singleton.mp hy
    exact .inl rfl
theorem lets4_ge {c : Nat} (h : c ∈ lets4) : 97 ≤ c ∧ c ≤ 100 := by
  have : c ∈ [97, 98, 99, 100] := h
  simp at this
  omega
/-- the words that stand are before the next one -/
theorem WQ.lt {run : List Nat → σ} {W : List (σ × List Nat)} {i k : Nat} {x : σ × List Nat} (h : WQ run W i k) (hx : W[i]? = some x) : ∀ y ∈ W, wlt y.2 (x.2 ++ [97 + k]) := by
  intro y hy
  rcases h.new y hy with e | ⟨j, z, c, hz, e, hc⟩
  · rw [e]
    exact .inl (by rw [List.length_append]; exact Nat.succ_pos _)
  · rw [e]
    rcases hc with hc | ⟨rfl, hc⟩
    · have h1 := List.getElem?_eq_some_iff.mp hz
      have h2 := List.getElem?_eq_some_iff.mp hx
      have := (List.pairwise_iff_getElem.mp h.asc) j i h1.1 h2.1 hc
      rw [h1.2, h2.2] at this
      exact wlt_snoc _ _ this
    · rw [hx] at hz
      cases hz
      exact wlt_last _ hc
theorem WQ.old {run : List Nat → σ} {W : List (σ × List Nat)} {i k : Nat} {x : σ × List Nat} (h : WQ run W i k) (hx : W[i]? = some x) (hin : run (x.2 ++ [97 + k]) ∈ W.map (·.1)) : WQ run W i (k + 1) where
  ok := h.ok
  nd := h.nd
  asc := h.asc
  head := h.head
  done := fun j z hz c hc hj => by
    rcases hj with hj | ⟨rfl, hj⟩
    · exact h.done j z hz c hc (.inl hj)
    · by_cases e : c = 97 + k
      · subst e
        rw [hx] at hz
        cases hz
        obtain ⟨y, hy, e⟩ := List.mem_map.mp hin
        exact ⟨y, hy, e, .inr (h.lt hx y hy)⟩
      · exact h.done j z hz c hc (.inr ⟨rfl, by omega⟩)
  new := fun y hy => by
    rcases h.new y hy with e | ⟨j, z, c, hz, e, hc⟩
    · exact .inl e
    · exact .inr ⟨j, z, c, hz, e, hc.imp id fun hc => ⟨hc.1, by omega⟩⟩
theorem WQ.put {run : List Nat → σ} {W : List (σ × List Nat)} {i k : Nat} {x : σ × List Nat} (h : WQ run W i k) (hx : W[i]? = some x) (hk : k < 4) (hin : run (x.2 ++ [97 + k]) ∉ W.map (·.1)) : WQ run (W ++ [(run (x.2 ++ [97 + k]), x.2 ++ [97 + k])]) i (k + 1) := by
  have hil := (List.getElem?_eq_some_iff.mp hx).1
  have hxW := List.mem_of_getElem? hx
  have hlet : 97 + k ∈ lets4 := by
    match k, hk with
    | 0, _ => decide
    | 1, _ => decide
    | 2, _ => decide
    | 3, _ => decide
  exact {
    ok := fun y hy => by
      rcases List.mem_append.mp hy with hy | hy
      · exact h.ok y hy
      · obtain rfl := List.mem_singleton.mp hy
        refine ⟨rfl, fun c hc => ?_⟩
        rcases List.mem_append.mp hc with hc | hc
        · exact (h.ok x hxW).2 c hc
        · rw [List.mem_singleton.mp hc]
          exact hlet
    nd := by
      rw [List.map_append, List.nodup_append]
      refine ⟨h.nd, .cons (fun _ h => nomatch h) .nil, fun a ha b hb e => hin ?_⟩
      have e2 : b = run (x.2 ++ [97 + k]) := List.mem_singleton.mp hb
      rw [← e2, ← e]
      exact ha
    asc := by
      rw [List.pairwise_append]
      refine ⟨h.asc, List.pairwise_singleton _ _, fun y hy z hz => ?_⟩
      obtain rfl := List.mem_singleton.mp hz
      exact h.lt hx y hy
    head := by
      obtain ⟨y, hy, e⟩ := h.head
      exact ⟨y, List.mem_append_left _ hy, e⟩
    done := fun j z hz c hc hj => by
      have hjl : j < W.length := by
        rcases hj with hj | ⟨rfl, _⟩
        · omega
        · exact hil
      rw [List.getElem?_append_left hjl] at hz
      rcases hj with hj | ⟨rfl, hj⟩
      · obtain ⟨y, hy, e⟩ := h.done j z hz c hc (.inl hj)
        exact ⟨y, List.mem_append_left _ hy, e⟩
      · by_cases e : c = 97 + k
        · subst e
          rw [hx] at hz
          cases hz
          exact ⟨_, List.mem_append_right _ (List.mem_singleton.mpr rfl), rfl, .inl rfl⟩
        · obtain ⟨y, hy, e⟩ := h.done j z hz c hc (.inr ⟨rfl, by omega⟩)
          exact ⟨y, List.mem_append_left _ hy, e⟩
    new := fun y hy => by
      rcases List.mem_append.mp hy with hy | hy
      · rcases h.new y hy with e | ⟨j, z, c, hz, e, hc⟩
        · exact .inl e
        · exact .inr ⟨j, z, c, by rw [List.getElem?_append_left (List.getElem?_eq_some_iff.mp hz).1]; exact hz, e, hc.imp id fun hc => ⟨hc.1, by omega⟩⟩
      · obtain rfl := List.mem_singleton.mp hy
        exact .inr ⟨i, x, 97 + k, by rw [List.getElem?_append_left hil]; exact hx, rfl, .inr ⟨rfl, by omega⟩⟩ }
theorem WQ.next {run : List Nat → σ} {W : List (σ × List Nat)} {i : Nat} (h : WQ run W i 4) : WQ run W (i + 1) 0 where
  ok := h.ok
  nd := h.nd
  asc := h.asc
  head := h.head
  done := fun j x hj c hc hk => by
    have := lets4_ge hc
    refine h.done j x hj c hc ?_
    rcases hk with hk | ⟨_, hk⟩
    · by_cases e : j = i
      · exact .inr ⟨e, by omega⟩
      · exact .inl (by omega)
    · omega
  new := fun y hy => by
    rcases h.new y hy with e | ⟨j, z, c, hz, e, hc⟩
    · exact .inl e
    · exact .inr ⟨j, z, c, hz, e, .inl (by rcases hc with hc | hc <;> omega)⟩
/-- all that words lead to, each with its first word, in the words' order -/
structure WAllG (run : List Nat → σ) (W : List (σ × List Nat)) : Prop where
  ok : ∀ x ∈ W, x.1 = run x.2 ∧ LetsN x.2
  nd : (W.map (·.1)).Nodup
  asc : W.Pairwise fun x y => wlt x.2 y.2
  cov : ∀ u, LetsN u → ∃ x ∈ W, x.1 = run u ∧ wle x.2 u
theorem WQ.all {run : List Nat → σ} {W : List (σ × List Nat)} {i : Nat} (h : WQ run W i 0) (hi : W.length ≤ i) (hs : ∀ u v c, run u = run v → run (u ++ [c]) = run (v ++ [c])) : WAllG run W where
  ok := h.ok
  nd := h.nd
  asc := h.asc
  cov := fun u => by
    have key : ∀ (k : Nat) (u : List Nat), u.length = k → LetsN u → ∃ x ∈ W, x.1 = run u ∧ wle x.2 u := by
      intro k
      induction k with
      | zero =>
        intro u hu _
        obtain rfl := List.length_eq_zero_iff.mp hu
        obtain ⟨x, hx, e⟩ := h.head
        exact ⟨x, hx, by rw [(h.ok x hx).1, e], .inl e⟩
      | succ k ih =>
        intro u hu hl
        rcases List.eq_nil_or_concat u with rfl | ⟨v, c, rfl⟩
        · cases hu
        rw [List.concat_eq_append] at hl hu ⊢
        rw [List.length_append, List.length_singleton] at hu
        obtain ⟨x, hx, e1, e2⟩ := ih v (by omega) fun d hd => hl d (List.mem_append_left _ hd)
        obtain ⟨j, hj, e3⟩ := List.getElem_of_mem hx
        obtain ⟨y, hy, f1, f2⟩ := h.done j x (by rw [List.getElem?_eq_getElem hj, e3]) c (hl c (List.mem_append_right _ (List.mem_singleton.mpr rfl))) (.inl (by omega))
        exact ⟨y, hy, by rw [f1]; exact hs _ _ _ (by rw [← (h.ok x hx).1, e1]), wle_trans f2 (wle_snoc c e2)⟩
    exact fun hl => key _ u rfl hl
theorem WAllG.any {run : List Nat → σ} {W : List (σ × List Nat)} (h : WAllG run W) (f : σ → Bool) : (W.any fun x => f x.1) = true ↔ ∃ u, LetsN u ∧ f (run u) = true := by
  rw [List.any_eq_true]
  constructor
  · rintro ⟨x, hx, e⟩
    exact ⟨x.2, (h.ok x hx).2, by rw [← (h.ok x hx).1]; exact e⟩
  · rintro ⟨u, hl, e⟩
    obtain ⟨x, hx, e1, _⟩ := h.cov u hl
    exact ⟨x, hx, by rw [e1]; exact e⟩
/-- the first word at which something is so -/
theorem WAllG.find {run : List Nat → σ} {W : List (σ × List Nat)} (h : WAllG run W) (f : σ → Bool) : match W.find? fun x => f x.1 with
    | some x => LetsN x.2 ∧ f (run x.2) = true ∧ ∀ u, LetsN u → f (run u) = true → wle x.2 u
    | none => ∀ u, LetsN u → f (run u) = false := by
  cases hf : W.find? fun x => f x.1 with
  | none =>
    intro u hl
    obtain ⟨y, hy, e1, _⟩ := h.cov u hl
    have := List.find?_eq_none.mp hf y hy
    rw [← e1]
    exact Bool.eq_false_iff.mpr this
  | some x =>
    obtain ⟨h1, as, bs, h2, h3⟩ := List.find?_eq_some_iff_append.mp hf
    have hx : x ∈ W := by rw [h2]; exact List.mem_append_right _ (List.mem_cons_self ..)
    refine ⟨(h.ok x hx).2, by rw [← (h.ok x hx).1]; exact h1, fun u hl hu => ?_⟩
    obtain ⟨y, hy, e1, e2⟩ := h.cov u hl
    have hfy : f y.1 = true := by rw [e1]; exact hu
    rw [h2] at hy
    rcases List.mem_append.mp hy with hy | hy
    · have := h3 y hy
      rw [hfy] at this
      cases this
    · rcases List.mem_cons.mp hy with rfl | hy
      · exact e2
      · have := h.asc
        rw [h2, List.pairwise_append] at this
        exact wle_trans (.inr ((List.pairwise_cons.mp this.2.1).1 y hy)) e2
end
theorem WAll.gen {m1 m2 : Mv} {W : PW} (h : WAll m1 m2 W) : WAllG (runP m1 m2) W := ⟨h.run, h.nd, h.asc, h.cov⟩
end My
namespace My
open PySem PySem.Spec PyProof.Rows L2
/-! ### how long a word that tells two automata apart has to be -/
section
open Classical
theorem least_of {T : Nat → Prop} : ∀ n, T n → ∃ m, m ≤ n ∧ T m ∧ ∀ k < m, ¬ T k := by
  intro n
  induction n using Nat.strongRecOn with
  | _ n ih =>
    intro h
    by_cases c : ∃ k, k < n ∧ T k
    · obtain ⟨k, hk, ht⟩ := c
      obtain ⟨m, h1, h2, h3⟩ := ih k hk ht
      exact ⟨m, by omega, h2, h3⟩
    · exact ⟨n, Nat.le_refl _, h, fun k hk ht => c ⟨k, hk, ht⟩⟩
def LNx (nx : Nat → Nat → Nat) (f : Nat → Bool) (j : Nat) (w : List Nat) : Bool := f (w.foldl nx j)
def EqK (nx : Nat → Nat → Nat) (f : Nat → Bool) (k s t : Nat) : Prop := ∀ w, LetsN w → w.length ≤ k → LNx nx f s w = LNx nx f t w
variable {nx : Nat → Nat → Nat} {f : Nat → Bool} {M : Nat}
theorem EqK.refl (k s : Nat) : EqK nx f k s s := fun _ _ _ => rfl
theorem EqK.symm {k s t : Nat} (h : EqK nx f k s t) : EqK nx f k t s := fun w a b => (h w a b).symm
theorem EqK.trans {k s t u : Nat} (h : EqK nx f k s t) (h' : EqK nx f k t u) : EqK nx f k s u := fun w a b => (h w a b).trans (h' w a b)
theorem EqK.down {k s t : Nat} (h : EqK nx f (k + 1) s t) : EqK nx f k s t := fun w a b => h w a (by omega)
theorem eqk_rep (k : Nat) : ∀ s, ∃ r, r ≤ s ∧ EqK nx f k s r ∧ ∀ t < r, ¬ EqK nx f k r t := by
  intro s
  induction s using Nat.strongRecOn with
  | _ s ih =>
    by_cases c : ∃ t, t < s ∧ EqK nx f k s t
    · obtain ⟨t, ht, e⟩ := c
      obtain ⟨r, h1, h2, h3⟩ := ih t ht
      exact ⟨r, by omega, e.trans h2, h3⟩
    · exact ⟨s, Nat.le_refl _, EqK.refl k s, fun t ht e => c ⟨t, ht, e⟩⟩
/-- the first ones of the classes -/
noncomputable def repK (nx : Nat → Nat → Nat) (f : Nat → Bool) (M k : Nat) : List Nat := (List.range M).filter fun s => decide (∀ t, t < s → ¬ EqK nx f k s t)
theorem mem_repK {k s : Nat} : s ∈ repK nx f M k ↔ s < M ∧ ∀ t, t < s → ¬ EqK nx f k s t := by
  unfold repK
  rw [List.mem_filter, List.mem_range, decide_eq_true_eq]
theorem repK_nd (k : Nat) : (repK nx f M k).Nodup := List.nodup_range.sublist List.filter_sublist
theorem repK_grow {k s t : Nat} (hs : s < M) (ht : t < M) (h : EqK nx f k s t) (hn : ¬ EqK nx f (k + 1) s t) : (repK nx f M k).length + 1 ≤ (repK nx f M (k + 1)).length := by
  obtain ⟨r, hr1, hr2, hr3⟩ := eqk_rep (nx := nx) (f := f) k s
  have key : ∀ x, x < M → EqK nx f k x r → ¬ EqK nx f (k + 1) x r → ∃ m, m ∈ repK nx f M (k + 1) ∧ m ∉ repK nx f M k := fun x hx hxr hxn => by
    obtain ⟨m, hm1, hm2, hm3⟩ := eqk_rep (nx := nx) (f := f) (k + 1) x
    refine ⟨m, mem_repK.mpr ⟨by omega, hm3⟩, fun hm => ?_⟩
    have hmr : EqK nx f k m r := hm2.down.symm.trans hxr
    have h1 := (mem_repK.mp hm).2
    rcases Nat.lt_trichotomy m r with c | rfl | c
    · exact hr3 m c hmr.symm
    · exact hxn hm2
    · exact h1 r c hmr
  obtain ⟨m, hm, hmn⟩ : ∃ m, m ∈ repK nx f M (k + 1) ∧ m ∉ repK nx f M k := by
    by_cases c : EqK nx f (k + 1) s r
    · exact key t ht (h.symm.trans hr2) fun e => hn (c.trans e.symm)
    · exact key s hs hr2 c
  have := nodup_subA (m :: repK nx f M k) (repK nx f M (k + 1)) (List.nodup_cons.mpr ⟨hmn, repK_nd k⟩) fun x hx => by
    rcases List.mem_cons.mp hx with rfl | hx
    · exact hm
    · obtain ⟨h1, h2⟩ := mem_repK.mp hx
      exact mem_repK.mpr ⟨h1, fun t ht e => h2 t ht e.down⟩
  exact this
theorem fold_lt (hM : ∀ j c, j < M → nx j c < M) : ∀ (w : List Nat) {j : Nat}, j < M → w.foldl nx j < M
  | [], _, h => h
  | c :: w, _, h => fold_lt hM w (hM _ c h)
/-- the shortest word that tells two states apart has fewer letters than there are states -/
theorem moore (hM : ∀ j c, j < M → nx j c < M) {i j : Nat} (hi : i < M) (hj : j < M) {u : List Nat} (hl : LetsN u) (h : LNx nx f i u ≠ LNx nx f j u) : ∃ v, LetsN v ∧ v.length + 1 ≤ M ∧ LNx nx f i v ≠ LNx nx f j v := by
  obtain ⟨n, _, ⟨v, hv1, hv2, hv3⟩, hmin⟩ := least_of (T := fun n => ∃ u, LetsN u ∧ u.length = n ∧ LNx nx f i u ≠ LNx nx f j u) u.length ⟨u, hl, rfl, h⟩
  refine ⟨v, hv1, ?_, hv3⟩
  have split : ∀ k, k < n → (repK nx f M k).length + 1 ≤ (repK nx f M (k + 1)).length := fun k hk => by
    refine repK_grow (s := (v.take (n - 1 - k)).foldl nx i) (t := (v.take (n - 1 - k)).foldl nx j) (fold_lt hM _ hi) (fold_lt hM _ hj) (fun w hw hwl => ?_) (fun e => ?_)
    · refine Classical.byContradiction fun c => hmin ((v.take (n - 1 - k)) ++ w).length ?_ ⟨_, fun d hd => ?_, rfl, ?_⟩
      · rw [List.length_append, List.length_take]
        omega
      · rcases List.mem_append.mp hd with hd | hd
        · exact hv1 d (List.mem_of_mem_take hd)
        · exact hw d hd
      · unfold LNx at c ⊢
        rw [List.foldl_append, List.foldl_append]
        exact c
    · have e2 := e (v.drop (n - 1 - k)) (fun d hd => hv1 d (List.mem_of_mem_drop hd)) (by rw [List.length_drop]; omega)
      unfold LNx at e2 hv3
      rw [← List.foldl_append, ← List.foldl_append, List.take_append_drop] at e2
      exact hv3 e2
  have grow : ∀ k, k ≤ n → k + 1 ≤ (repK nx f M k).length := fun k => by
    induction k with
    | zero =>
      intro _
      have : 0 ∈ repK nx f M 0 := mem_repK.mpr ⟨by omega, fun t ht => absurd ht (Nat.not_lt_zero _)⟩
      exact List.length_pos_of_mem this
    | succ k ih =>
      intro hk
      have h1 := ih (by omega)
      have h2 := split k (by omega)
      omega
  have h1 := grow n (Nat.le_refl _)
  have h2 : (repK nx f M n).length ≤ M := by
    have := List.length_filter_le (fun s => decide (∀ t, t < s → ¬ EqK nx f n s t)) (List.range M)
    rw [List.length_range] at this
    exact this
  omega
end
/-- two automata side by side, with a state that nothing leaves -/
def nx2 (N1 N2 : Nat) (m1 m2 : Mv) (j c : Nat) : Nat :=
  if j < N1 then (match m1 j c with | some t => t | none => N1 + N2) else if j < N1 + N2 then (match m2 (j - N1) c with | some t => N1 + t | none => N1 + N2) else N1 + N2
def f2 (N1 N2 : Nat) (a1 a2 : Nat → Bool) (j : Nat) : Bool := if j < N1 then a1 j else if j < N1 + N2 then a2 (j - N1) else false
theorem nx2_dead {N1 N2 : Nat} {m1 m2 : Mv} : ∀ w : List Nat, w.foldl (nx2 N1 N2 m1 m2) (N1 + N2) = N1 + N2
  | [] => rfl
  | c :: w => by
    rw [List.foldl_cons]
    have : nx2 N1 N2 m1 m2 (N1 + N2) c = N1 + N2 := by
      unfold nx2
      rw [if_neg (by omega), if_neg (by omega)]
    rw [this]
    exact nx2_dead w
theorem ln_one {N1 N2 : Nat} {a1 a2 : Nat → Bool} {m1 m2 : Mv} (b1 : ∀ q c t, m1 q c = some t → q < N1 ∧ t < N1 ∧ 97 ≤ c ∧ c ≤ 100) : ∀ (w : List Nat) {j : Nat}, j < N1 → LNx (nx2 N1 N2 m1 m2) (f2 N1 N2 a1 a2) j w = (runM m1 j w).elim false a1
  | [], j, h => by
    show f2 N1 N2 a1 a2 j = a1 j
    unfold f2
    rw [if_pos h]
  | c :: w, j, h => by
    show f2 N1 N2 a1 a2 (w.foldl (nx2 N1 N2 m1 m2) (nx2 N1 N2 m1 m2 j c)) = _
    rw [runM]
    cases hm : m1 j c with
    | none =>
      have : nx2 N1 N2 m1 m2 j c = N1 + N2 := by
        unfold nx2
        rw [if_pos h, hm]
      rw [this, nx2_dead]
      unfold f2
      rw [if_neg (by omega), if_neg (by omega)]
      rfl
    | some t =>
      have : nx2 N1 N2 m1 m2 j c = t := by
        unfold nx2
        rw [if_pos h, hm]
      rw [this]
      exact ln_one b1 w (b1 _ _ _ hm).2.1
theorem ln_two {N1 N2 : Nat} {a1 a2 : Nat → Bool} {m1 m2 : Mv} (b2 : ∀ q c t, m2 q c = some t → q < N2 ∧ t < N2 ∧ 97 ≤ c ∧ c ≤ 100) : ∀ (w : List Nat) {j : Nat}, j < N2 → LNx (nx2 N1 N2 m1 m2) (f2 N1 N2 a1 a2) (N1 + j) w = (runM m2 j w).elim false a2
  | [], j, h => by
    show f2 N1 N2 a1 a2 (N1 + j) = a2 j
    unfold f2
    rw [if_neg (by omega), if_pos (by omega), show N1 + j - N1 = j by omega]
  | c :: w, j, h => by
    show f2 N1 N2 a1 a2 (w.foldl (nx2 N1 N2 m1 m2) (nx2 N1 N2 m1 m2 (N1 + j) c)) = _
    rw [runM]
    cases hm : m2 j c with
    | none =>
      have : nx2 N1 N2 m1 m2 (N1 + j) c = N1 + N2 := by
        unfold nx2
        rw [if_neg (by omega), if_pos (by omega), show N1 + j - N1 = j by omega, hm]
      rw [this, nx2_dead]
      unfold f2
      rw [if_neg (by omega), if_neg (by omega)]
      rfl
    | some t =>
      have : nx2 N1 N2 m1 m2 (N1 + j) c = N1 + t := by
        unfold nx2
        rw [if_neg (by omega), if_pos (by omega), show N1 + j - N1 = j by omega, hm]
      rw [this]
      exact ln_two b2 w (b2 _ _ _ hm).2.1
theorem tell_len {L M : List Nat → Prop} {N1 N2 : Nat} {a1 a2 : Nat → Bool} {m1 m2 : Mv} (A1 : IsAut L N1 a1 m1) (A2 : IsAut M N2 a2 m2) {u : List Nat} (hu : LetsN u) (h : ¬ (L u ↔ M u)) : ∃ v, LetsN v ∧ ¬ (L v ↔ M v) ∧ v.length ≤ N1 + N2 := by
  have acc : ∀ {L : List Nat → Prop} {N : Nat} {a : Nat → Bool} {m : Mv} (A : IsAut L N a m) (w : List Nat), (runM m 0 w).elim false a = true ↔ L w := fun {L N a m} A w => by
    rw [A.lang]
    unfold accM
    cases hr : runM m 0 w with
    | none => exact ⟨(fun k => by cases k), fun ⟨t, k, _⟩ => by cases k⟩
    | some t => exact ⟨fun k => ⟨t, rfl, k⟩, fun ⟨s, k, z⟩ => by cases k; exact z⟩
  have p1 := A1.pos
  have p2 := A2.pos
  have tell : ∀ w, LNx (nx2 N1 N2 m1 m2) (f2 N1 N2 a1 a2) 0 w ≠ LNx (nx2 N1 N2 m1 m2) (f2 N1 N2 a1 a2) N1 w ↔ ¬ (L w ↔ M w) := fun w => by
    have e1 := ln_one (a1 := a1) (a2 := a2) (N2 := N2) (m2 := m2) A1.bd w p1
    have e2 := ln_two (a1 := a1) (a2 := a2) (N1 := N1) (m1 := m1) A2.bd w p2
    rw [Nat.add_zero] at e2
    rw [e1, e2, ← acc A1 w, ← acc A2 w, ← Bool.eq_iff_iff]
  obtain ⟨v, h1, h2, h3⟩ := moore (nx := nx2 N1 N2 m1 m2) (f := f2 N1 N2 a1 a2) (M := N1 + N2 + 1) (fun j c hj => by
    unfold nx2
    split
    · cases hm : m1 j c with
      | none => show N1 + N2 < _; omega
      | some t => have := (A1.bd _ _ _ hm).2.1; show t < _; omega
    · split
      · cases hm : m2 (j - N1) c with
        | none => show N1 + N2 < _; omega
        | some t => have := (A2.bd _ _ _ hm).2.1; show N1 + t < _; omega
      · omega) (i := 0) (j := N1) (by omega) (by omega) hu ((tell u).mpr h)
  exact ⟨v, h1, (tell v).mp h3, by omega⟩
/-! ### the first word that tells two expressions apart -/
def TellIs (a b : E) : Option (List Nat) → Prop
  | some u => LetsN u ∧ ¬ (MW a u ↔ MW b u) ∧ ∀ v, LetsN v → ¬ (MW a v ↔ MW b v) → wle u v
  | none => ∀ v, LetsN v → (MW a v ↔ MW b v)
def strV (w : List Nat) : V := .str ⟨w.toArray⟩
def optV : Option (List Nat) → V
  | some u => strV u
  | none => .non
theorem tell_uniq {a b : E} {o p : Option (List Nat)} (h : TellIs a b o) (k : TellIs a b p) : o = p := by
  cases o with
  | none =>
    cases p with
    | none => rfl
    | some u => exact absurd (h u k.1) k.2.1
  | some u =>
    cases p with
    | none => exact absurd (k u h.1) h.2.1
    | some v => rw [wle_anti (h.2.2 v k.1 k.2.1) (k.2.2 u h.1 h.2.1)]
theorem tell_symm {a b : E} {o : Option (List Nat)} (h : TellIs a b o) : TellIs b a o := by
  cases o with
  | none => exact fun v hv => (h v hv).symm
  | some u => exact ⟨h.1, fun e => h.2.1 e.symm, fun v hv hn => h.2.2 v hv fun e => hn e.symm⟩
end My
namespace My
open PySem PySem.Spec PyProof.Rows L2
/-! ### expressions of one letter and at most six places: the lengths of their words -/
/-- the first 162 lengths of each; from 21 on they come again after 60 -/
def LU : Nat → List Nat
  | 0 => [1]
  | 1 => [2, 3, 5846006549323611672814739330865132078623730171903]
  | 2 => [2, 3, 4, 5, 6, 7, 1948668849774537224271579776955044026207910057301, 5846006549323611672814739330865132078623730171902, 5846006549323611672814739330865132078623730171903]
  | 3 => [2, 3, 4, 5, 6, 7, 8, 9, 10, 11, 12, 13, 14, 15, 835143792760515953259248475837876011231961453129, 1948668849774537224271579776955044026207910057301, 1948668849774537224271579776955044026207910057303, 3897337699549074448543159553910088052415820114602, 3897337699549074448543159553910088052415820114603, 5846006549323611672814739330865132078623730171900, 5846006549323611672814739330865132078623730171901, 5846006549323611672814739330865132078623730171902, 5846006549323611672814739330865132078623730171903]
  | 4 => [2, 3, 4, 5, 6, 7, 8, 9, 10, 11, 12, 13, 14, 15, 16, 17, 18, 19, 20, 21, 22, 23, 24, 25, 26, 27, 28, 29, 30, 31, 835143792760515953259248475837876011231961453129, 835143792760515953259248475837876011231961453131, 1558935079819629779417263821564035220966328045841, 1670287585521031906518496951675752022463922906258, 1670287585521031906518496951675752022463922906259, 1948668849774537224271579776955044026207910057300, 1948668849774537224271579776955044026207910057301, 1948668849774537224271579776955044026207910057302, 1948668849774537224271579776955044026207910057303, 2505431378281547859777745427513628033695884359387, 3897337699549074448543159553910088052415820114602, 3897337699549074448543159553910088052415820114603, 3897337699549074448543159553910088052415820114606, 3897337699549074448543159553910088052415820114607, 5846006549323611672814739330865132078623730171865, 5846006549323611672814739330865132078623730171896, 5846006549323611672814739330865132078623730171897, 5846006549323611672814739330865132078623730171898, 5846006549323611672814739330865132078623730171899, 5846006549323611672814739330865132078623730171900, 5846006549323611672814739330865132078623730171901, 5846006549323611672814739330865132078623730171902, 5846006549323611672814739330865132078623730171903]
  | 5 => [2, 3, 4, 5, 6, 7, 8, 9, 10, 11, 12, 13, 14, 15, 16, 17, 18, 19, 20, 21, 22, 23, 24, 25, 26, 27, 28, 29, 30, 31, 32, 33, 34, 35, 36, 37, 38, 39, 40, 41, 42, 43, 44, 45, 46, 47, 48, 49, 50, 51, 52, 53, 54, 55, 56, 57, 58, 59, 60, 61, 62, 63, 835143792760515953259248475837876011231961453129, 835143792760515953259248475837876011231961453131, 835143792760515953259248475837876011231961453133, 835143792760515953259248475837876011231961453135, 1508646851438351399436061762803905052548059399201, 1558935079819629779417263821564035220966328045841, 1558935079819629779417263821564035220966328045843, 1670287585521031906518496951675752022463922906258, 1670287585521031906518496951675752022463922906259, 1670287585521031906518496951675752022463922906262, 1670287585521031906518496951675752022463922906263, 1948668849774537224271579776955044026207910057300, 1948668849774537224271579776955044026207910057301, 1948668849774537224271579776955044026207910057302, 1948668849774537224271579776955044026207910057303, 1948668849774537224271579776955044026207910057308, 1948668849774537224271579776955044026207910057309, 1948668849774537224271579776955044026207910057310, 1948668849774537224271579776955044026207910057311, 2505431378281547859777745427513628033695884359387, 2505431378281547859777745427513628033695884359391, 2691018887783884738279800644366489369525209126749, 3117870159639259558834527643128070441932656091682, 3117870159639259558834527643128070441932656091683, 3340575171042063813036993903351504044927845812516, 3340575171042063813036993903351504044927845812517, 3340575171042063813036993903351504044927845812518, 3340575171042063813036993903351504044927845812519, 3897337699549074448543159553910088052415820114600, 3897337699549074448543159553910088052415820114601, 3897337699549074448543159553910088052415820114602, 3897337699549074448543159553910088052415820114603, 3897337699549074448543159553910088052415820114604, 3897337699549074448543159553910088052415820114605, 3897337699549074448543159553910088052415820114606, 3897337699549074448543159553910088052415820114607, 4175718963802579766296242379189380056159807265645, 4676805239458889338251791464692105662898984137523, 5010862756563095719555490855027256067391768718774, 5010862756563095719555490855027256067391768718775, 5846006549323611672814739330865132078623730169649, 5846006549323611672814739330865132078623730171753, 5846006549323611672814739330865132078623730171826, 5846006549323611672814739330865132078623730171827, 5846006549323611672814739330865132078623730171865, 5846006549323611672814739330865132078623730171867, 5846006549323611672814739330865132078623730171881, 5846006549323611672814739330865132078623730171888, 5846006549323611672814739330865132078623730171889, 5846006549323611672814739330865132078623730171890, 5846006549323611672814739330865132078623730171891, 5846006549323611672814739330865132078623730171892, 5846006549323611672814739330865132078623730171893, 5846006549323611672814739330865132078623730171894, 5846006549323611672814739330865132078623730171895, 5846006549323611672814739330865132078623730171896, 5846006549323611672814739330865132078623730171897, 5846006549323611672814739330865132078623730171898, 5846006549323611672814739330865132078623730171899, 5846006549323611672814739330865132078623730171900, 5846006549323611672814739330865132078623730171901, 5846006549323611672814739330865132078623730171902, 5846006549323611672814739330865132078623730171903]
  | 6 => [2, 3, 4, 5, 6, 7, 8, 9, 10, 11, 12, 13, 14, 15, 16, 17, 18, 19, 20, 21, 22, 23, 24, 25, 26, 27, 28, 29, 30, 31, 32, 33, 34, 35, 36, 37, 38, 39, 40, 41, 42, 43, 44, 45, 46, 47, 48, 49, 50, 51, 52, 53, 54, 55, 56, 57, 58, 59, 60, 61, 62, 63, 64, 65, 66, 67, 68, 69, 70, 71, 72, 73, 74, 75, 76, 77, 78, 79, 80, 81, 82, 83, 84, 85, 86, 87, 88, 89, 90, 91, 92, 93, 94, 95, 96, 97, 98, 99, 100, 101, 102, 103, 104, 105, 106, 107, 108, 109, 110, 111, 112, 113, 114, 115, 116, 117, 118, 119, 120, 121, 122, 123, 124, 125, 126, 127, 92793754751168439251027608426430667914662383681, 389733769954907444854315955391008805241582011460, 389733769954907444854315955391008805241582011461, 389733769954907444854315955391008805241582011462, 389733769954907444854315955391008805241582011463, 835143792760515953259248475837876011231961453128, 835143792760515953259248475837876011231961453129, 835143792760515953259248475837876011231961453130, 835143792760515953259248475837876011231961453131, 835143792760515953259248475837876011231961453132, 835143792760515953259248475837876011231961453133, 835143792760515953259248475837876011231961453134, 835143792760515953259248475837876011231961453135, 1508646851438351399436061762803905052548059399201, 1508646851438351399436061762803905052548059399203, 1558935079819629779417263821564035220966328045841, 1558935079819629779417263821564035220966328045843, 1558935079819629779417263821564035220966328045845, 1558935079819629779417263821564035220966328045847, 1670287585521031906518496951675752022463922906258, 1670287585521031906518496951675752022463922906259, 1670287585521031906518496951675752022463922906262, 1670287585521031906518496951675752022463922906263, 1670287585521031906518496951675752022463922906266, 1670287585521031906518496951675752022463922906267, 1670287585521031906518496951675752022463922906270, 1670287585521031906518496951675752022463922906271, 1948668849774537224271579776955044026207910057296, 1948668849774537224271579776955044026207910057297, 1948668849774537224271579776955044026207910057298, 1948668849774537224271579776955044026207910057299, 1948668849774537224271579776955044026207910057300, 1948668849774537224271579776955044026207910057301, 1948668849774537224271579776955044026207910057302, 1948668849774537224271579776955044026207910057303, 1948668849774537224271579776955044026207910057304, 1948668849774537224271579776955044026207910057305, 1948668849774537224271579776955044026207910057306, 1948668849774537224271579776955044026207910057307, 1948668849774537224271579776955044026207910057308, 1948668849774537224271579776955044026207910057309, 1948668849774537224271579776955044026207910057310, 1948668849774537224271579776955044026207910057311, 2134256359276874102773634993807905362037234824663, 2505431378281547859777745427513628033695884359386, 2505431378281547859777745427513628033695884359387, 2505431378281547859777745427513628033695884359391, 2691018887783884738279800644366489369525209126749, 2691018887783884738279800644366489369525209126751, 2876606397286221616781855861219350705354533894111, 3017293702876702798872123525607810105096118798402, 3017293702876702798872123525607810105096118798403, 3117870159639259558834527643128070441932656091682, 3117870159639259558834527643128070441932656091683, 3117870159639259558834527643128070441932656091686, 3117870159639259558834527643128070441932656091687, 3340575171042063813036993903351504044927845812516, 3340575171042063813036993903351504044927845812517, 3340575171042063813036993903351504044927845812518, 3340575171042063813036993903351504044927845812519, 3340575171042063813036993903351504044927845812524, 3340575171042063813036993903351504044927845812525, 3340575171042063813036993903351504044927845812526, 3340575171042063813036993903351504044927845812527, 3507603929594167003688843598519079247174238103142, 3507603929594167003688843598519079247174238103143, 3897337699549074448543159553910088052415820114600, 3897337699549074448543159553910088052415820114601, 3897337699549074448543159553910088052415820114602, 3897337699549074448543159553910088052415820114603, 3897337699549074448543159553910088052415820114604, 3897337699549074448543159553910088052415820114605, 3897337699549074448543159553910088052415820114606, 3897337699549074448543159553910088052415820114607, 3897337699549074448543159553910088052415820114616, 3897337699549074448543159553910088052415820114617, 3897337699549074448543159553910088052415820114618, 3897337699549074448543159553910088052415820114619, 3897337699549074448543159553910088052415820114620, 3897337699549074448543159553910088052415820114621, 3897337699549074448543159553910088052415820114622, 3897337699549074448543159553910088052415820114623, 3990131454300242887794187162336518720330482498283, 4175718963802579766296242379189380056159807265644, 4175718963802579766296242379189380056159807265645, 4175718963802579766296242379189380056159807265646, 4175718963802579766296242379189380056159807265647, 4525940554315054198308185288411715157644178197603, 4676805239458889338251791464692105662898984137523, 4676805239458889338251791464692105662898984137527, 5010862756563095719555490855027256067391768718774, 5010862756563095719555490855027256067391768718775, 5010862756563095719555490855027256067391768718782, 5010862756563095719555490855027256067391768718783, 5066539009413796783106107420083114468140566148983, 5382037775567769476559601288732978739050418253498, 5382037775567769476559601288732978739050418253499, 5846006549323611672814739330865132078623729622113, 5846006549323611672814739330865132078623730167394, 5846006549323611672814739330865132078623730167395, 5846006549323611672814739330865132078623730169649, 5846006549323611672814739330865132078623730169651, 5846006549323611672814739330865132078623730171602, 5846006549323611672814739330865132078623730171603, 5846006549323611672814739330865132078623730171748, 5846006549323611672814739330865132078623730171749, 5846006549323611672814739330865132078623730171750, 5846006549323611672814739330865132078623730171751, 5846006549323611672814739330865132078623730171753, 5846006549323611672814739330865132078623730171755, 5846006549323611672814739330865132078623730171761, 5846006549323611672814739330865132078623730171763, 5846006549323611672814739330865132078623730171826, 5846006549323611672814739330865132078623730171827, 5846006549323611672814739330865132078623730171830, 5846006549323611672814739330865132078623730171831, 5846006549323611672814739330865132078623730171858, 5846006549323611672814739330865132078623730171859, 5846006549323611672814739330865132078623730171865, 5846006549323611672814739330865132078623730171867, 5846006549323611672814739330865132078623730171869, 5846006549323611672814739330865132078623730171871, 5846006549323611672814739330865132078623730171872, 5846006549323611672814739330865132078623730171873, 5846006549323611672814739330865132078623730171874, 5846006549323611672814739330865132078623730171875, 5846006549323611672814739330865132078623730171876, 5846006549323611672814739330865132078623730171877, 5846006549323611672814739330865132078623730171878, 5846006549323611672814739330865132078623730171879, 5846006549323611672814739330865132078623730171880, 5846006549323611672814739330865132078623730171881, 5846006549323611672814739330865132078623730171882, 5846006549323611672814739330865132078623730171883, 5846006549323611672814739330865132078623730171884, 5846006549323611672814739330865132078623730171885, 5846006549323611672814739330865132078623730171886, 5846006549323611672814739330865132078623730171887, 5846006549323611672814739330865132078623730171888, 5846006549323611672814739330865132078623730171889, 5846006549323611672814739330865132078623730171890, 5846006549323611672814739330865132078623730171891, 5846006549323611672814739330865132078623730171892, 5846006549323611672814739330865132078623730171893, 5846006549323611672814739330865132078623730171894, 5846006549323611672814739330865132078623730171895, 5846006549323611672814739330865132078623730171896, 5846006549323611672814739330865132078623730171897, 5846006549323611672814739330865132078623730171898, 5846006549323611672814739330865132078623730171899, 5846006549323611672814739330865132078623730171900, 5846006549323611672814739330865132078623730171901, 5846006549323611672814739330865132078623730171902, 5846006549323611672814739330865132078623730171903]
  | _ => []
/-- .. of as many of them as one likes -/
def LS : Nat → List Nat
  | 0 => [1]
  | 1 => [5846006549323611672814739330865132078623730171903, 5846006549323611672814739330865132078623730171903, 5846006549323611672814739330865132078623730171903]
  | 2 => [5846006549323611672814739330865132078623730171903, 5846006549323611672814739330865132078623730171903, 1948668849774537224271579776955044026207910057301, 1948668849774537224271579776955044026207910057301, 5846006549323611672814739330865132078623730171903, 5846006549323611672814739330865132078623730171903, 1948668849774537224271579776955044026207910057301, 5846006549323611672814739330865132078623730171903, 5846006549323611672814739330865132078623730171903]
  | 3 => [5846006549323611672814739330865132078623730171903, 5846006549323611672814739330865132078623730171903, 1948668849774537224271579776955044026207910057301, 1948668849774537224271579776955044026207910057301, 5846006549323611672814739330865132078623730171903, 5846006549323611672814739330865132078623730171903, 835143792760515953259248475837876011231961453129, 835143792760515953259248475837876011231961453129, 5846006549323611672814739330865132078623730171903, 5846006549323611672814739330865132078623730171903, 5846006549323611672814739330865132078623730171901, 5846006549323611672814739330865132078623730171901, 5846006549323611672814739330865132078623730171903, 5846006549323611672814739330865132078623730171903, 835143792760515953259248475837876011231961453129, 1948668849774537224271579776955044026207910057301, 5846006549323611672814739330865132078623730171903, 5846006549323611672814739330865132078623730171903, 5846006549323611672814739330865132078623730171903, 5846006549323611672814739330865132078623730171901, 5846006549323611672814739330865132078623730171901, 5846006549323611672814739330865132078623730171903, 5846006549323611672814739330865132078623730171903]
  | 4 => [5846006549323611672814739330865132078623730171903, 5846006549323611672814739330865132078623730171903, 1948668849774537224271579776955044026207910057301, 1948668849774537224271579776955044026207910057301, 5846006549323611672814739330865132078623730171903, 5846006549323611672814739330865132078623730171903, 835143792760515953259248475837876011231961453129, 835143792760515953259248475837876011231961453129, 5846006549323611672814739330865132078623730171903, 5846006549323611672814739330865132078623730171903, 5846006549323611672814739330865132078623730171901, 5846006549323611672814739330865132078623730171901, 5846006549323611672814739330865132078623730171903, 5846006549323611672814739330865132078623730171903, 1558935079819629779417263821564035220966328045841, 1558935079819629779417263821564035220966328045841, 5846006549323611672814739330865132078623730171903, 5846006549323611672814739330865132078623730171903, 1948668849774537224271579776955044026207910057301, 1948668849774537224271579776955044026207910057301, 5846006549323611672814739330865132078623730171903, 5846006549323611672814739330865132078623730171903, 5846006549323611672814739330865132078623730171865, 5846006549323611672814739330865132078623730171865, 5846006549323611672814739330865132078623730171903, 5846006549323611672814739330865132078623730171903, 5846006549323611672814739330865132078623730171901, 5846006549323611672814739330865132078623730171901, 5846006549323611672814739330865132078623730171903, 5846006549323611672814739330865132078623730171903, 835143792760515953259248475837876011231961453129, 5846006549323611672814739330865132078623730171903, 1558935079819629779417263821564035220966328045841, 5846006549323611672814739330865132078623730171903, 5846006549323611672814739330865132078623730171903, 1948668849774537224271579776955044026207910057301, 1948668849774537224271579776955044026207910057301, 5846006549323611672814739330865132078623730171903, 5846006549323611672814739330865132078623730171903, 5846006549323611672814739330865132078623730171903, 5846006549323611672814739330865132078623730171903, 5846006549323611672814739330865132078623730171903, 5846006549323611672814739330865132078623730171903, 5846006549323611672814739330865132078623730171903, 5846006549323611672814739330865132078623730171865, 5846006549323611672814739330865132078623730171897, 5846006549323611672814739330865132078623730171897, 5846006549323611672814739330865132078623730171903, 5846006549323611672814739330865132078623730171903, 5846006549323611672814739330865132078623730171901, 5846006549323611672814739330865132078623730171901, 5846006549323611672814739330865132078623730171903, 5846006549323611672814739330865132078623730171903]
  | 5 => [5846006549323611672814739330865132078623730171903, 5846006549323611672814739330865132078623730171903, 1948668849774537224271579776955044026207910057301, 1948668849774537224271579776955044026207910057301, 5846006549323611672814739330865132078623730171903, 5846006549323611672814739330865132078623730171903, 835143792760515953259248475837876011231961453129, 835143792760515953259248475837876011231961453129, 5846006549323611672814739330865132078623730171903, 5846006549323611672814739330865132078623730171903, 5846006549323611672814739330865132078623730171901, 5846006549323611672814739330865132078623730171901, 5846006549323611672814739330865132078623730171903, 5846006549323611672814739330865132078623730171903, 1558935079819629779417263821564035220966328045841, 1558935079819629779417263821564035220966328045841, 5846006549323611672814739330865132078623730171903, 5846006549323611672814739330865132078623730171903, 1948668849774537224271579776955044026207910057301, 1948668849774537224271579776955044026207910057301, 5846006549323611672814739330865132078623730171903, 5846006549323611672814739330865132078623730171903, 5846006549323611672814739330865132078623730171865, 5846006549323611672814739330865132078623730171865, 5846006549323611672814739330865132078623730171903, 5846006549323611672814739330865132078623730171903, 5846006549323611672814739330865132078623730171901, 5846006549323611672814739330865132078623730171901, 5846006549323611672814739330865132078623730171903, 5846006549323611672814739330865132078623730171903, 1508646851438351399436061762803905052548059399201, 1508646851438351399436061762803905052548059399201, 5846006549323611672814739330865132078623730171903, 5846006549323611672814739330865132078623730171903, 5846006549323611672814739330865132078623730171893, 5846006549323611672814739330865132078623730171893, 5846006549323611672814739330865132078623730171903, 5846006549323611672814739330865132078623730171903, 5846006549323611672814739330865132078623730171753, 5846006549323611672814739330865132078623730171753, 5846006549323611672814739330865132078623730171903, 5846006549323611672814739330865132078623730171903, 5846006549323611672814739330865132078623730171901, 5846006549323611672814739330865132078623730171901, 5846006549323611672814739330865132078623730171903, 5846006549323611672814739330865132078623730171903, 5846006549323611672814739330865132078623730169649, 5846006549323611672814739330865132078623730169649, 5846006549323611672814739330865132078623730171903, 5846006549323611672814739330865132078623730171903, 5846006549323611672814739330865132078623730171893, 5846006549323611672814739330865132078623730171893, 5846006549323611672814739330865132078623730171903, 5846006549323611672814739330865132078623730171903, 5846006549323611672814739330865132078623730171897, 5846006549323611672814739330865132078623730171897, 5846006549323611672814739330865132078623730171903, 5846006549323611672814739330865132078623730171903, 5846006549323611672814739330865132078623730171901, 5846006549323611672814739330865132078623730171901, 5846006549323611672814739330865132078623730171903, 5846006549323611672814739330865132078623730171903, 835143792760515953259248475837876011231961453129, 5846006549323611672814739330865132078623730171903, 5846006549323611672814739330865132078623730171901, 5846006549323611672814739330865132078623730171903, 1508646851438351399436061762803905052548059399201, 1558935079819629779417263821564035220966328045841, 5846006549323611672814739330865132078623730171903, 5846006549323611672814739330865132078623730171903, 5846006549323611672814739330865132078623730171903, 5846006549323611672814739330865132078623730171903, 5846006549323611672814739330865132078623730171903, 1948668849774537224271579776955044026207910057301, 1948668849774537224271579776955044026207910057301, 5846006549323611672814739330865132078623730171903, 5846006549323611672814739330865132078623730171903, 5846006549323611672814739330865132078623730171901, 5846006549323611672814739330865132078623730171901, 5846006549323611672814739330865132078623730171903, 5846006549323611672814739330865132078623730171903, 5846006549323611672814739330865132078623730171903, 5846006549323611672814739330865132078623730171903, 5846006549323611672814739330865132078623730171901, 5846006549323611672814739330865132078623730171903, 5846006549323611672814739330865132078623730171903, 5846006549323611672814739330865132078623730171893, 5846006549323611672814739330865132078623730171893, 5846006549323611672814739330865132078623730171903, 5846006549323611672814739330865132078623730171903, 5846006549323611672814739330865132078623730171881, 5846006549323611672814739330865132078623730171881, 5846006549323611672814739330865132078623730171903, 5846006549323611672814739330865132078623730171903, 5846006549323611672814739330865132078623730171901, 5846006549323611672814739330865132078623730171901, 5846006549323611672814739330865132078623730171903, 5846006549323611672814739330865132078623730171903, 5846006549323611672814739330865132078623730171901, 5846006549323611672814739330865132078623730171903, 5846006549323611672814739330865132078623730171903, 5846006549323611672814739330865132078623730171903, 5846006549323611672814739330865132078623730169649, 5846006549323611672814739330865132078623730171753, 5846006549323611672814739330865132078623730171903, 5846006549323611672814739330865132078623730171903, 5846006549323611672814739330865132078623730171865, 5846006549323611672814739330865132078623730171903, 5846006549323611672814739330865132078623730171881, 5846006549323611672814739330865132078623730171889, 5846006549323611672814739330865132078623730171889, 5846006549323611672814739330865132078623730171903, 5846006549323611672814739330865132078623730171903, 5846006549323611672814739330865132078623730171893, 5846006549323611672814739330865132078623730171893, 5846006549323611672814739330865132078623730171903, 5846006549323611672814739330865132078623730171903, 5846006549323611672814739330865132078623730171897, 5846006549323611672814739330865132078623730171897, 5846006549323611672814739330865132078623730171903, 5846006549323611672814739330865132078623730171903, 5846006549323611672814739330865132078623730171901, 5846006549323611672814739330865132078623730171901, 5846006549323611672814739330865132078623730171903, 5846006549323611672814739330865132078623730171903]
  | 6 => [5846006549323611672814739330865132078623730171903, 5846006549323611672814739330865132078623730171903, 1948668849774537224271579776955044026207910057301, 1948668849774537224271579776955044026207910057301, 5846006549323611672814739330865132078623730171903, 5846006549323611672814739330865132078623730171903, 835143792760515953259248475837876011231961453129, 835143792760515953259248475837876011231961453129, 5846006549323611672814739330865132078623730171903, 5846006549323611672814739330865132078623730171903, 5846006549323611672814739330865132078623730171901, 5846006549323611672814739330865132078623730171901, 5846006549323611672814739330865132078623730171903, 5846006549323611672814739330865132078623730171903, 1558935079819629779417263821564035220966328045841, 1558935079819629779417263821564035220966328045841, 5846006549323611672814739330865132078623730171903, 5846006549323611672814739330865132078623730171903, 1948668849774537224271579776955044026207910057301, 1948668849774537224271579776955044026207910057301, 5846006549323611672814739330865132078623730171903, 5846006549323611672814739330865132078623730171903, 5846006549323611672814739330865132078623730171865, 5846006549323611672814739330865132078623730171865, 5846006549323611672814739330865132078623730171903, 5846006549323611672814739330865132078623730171903, 5846006549323611672814739330865132078623730171901, 5846006549323611672814739330865132078623730171901, 5846006549323611672814739330865132078623730171903, 5846006549323611672814739330865132078623730171903, 1508646851438351399436061762803905052548059399201, 1508646851438351399436061762803905052548059399201, 5846006549323611672814739330865132078623730171903, 5846006549323611672814739330865132078623730171903, 5846006549323611672814739330865132078623730171893, 5846006549323611672814739330865132078623730171893, 5846006549323611672814739330865132078623730171903, 5846006549323611672814739330865132078623730171903, 5846006549323611672814739330865132078623730171753, 5846006549323611672814739330865132078623730171753, 5846006549323611672814739330865132078623730171903, 5846006549323611672814739330865132078623730171903, 5846006549323611672814739330865132078623730171901, 5846006549323611672814739330865132078623730171901, 5846006549323611672814739330865132078623730171903, 5846006549323611672814739330865132078623730171903, 5846006549323611672814739330865132078623730169649, 5846006549323611672814739330865132078623730169649, 5846006549323611672814739330865132078623730171903, 5846006549323611672814739330865132078623730171903, 5846006549323611672814739330865132078623730171893, 5846006549323611672814739330865132078623730171893, 5846006549323611672814739330865132078623730171903, 5846006549323611672814739330865132078623730171903, 5846006549323611672814739330865132078623730171897, 5846006549323611672814739330865132078623730171897, 5846006549323611672814739330865132078623730171903, 5846006549323611672814739330865132078623730171903, 5846006549323611672814739330865132078623730171901, 5846006549323611672814739330865132078623730171901, 5846006549323611672814739330865132078623730171903, 5846006549323611672814739330865132078623730171903, 92793754751168439251027608426430667914662383681, 92793754751168439251027608426430667914662383681, 5846006549323611672814739330865132078623730171903, 5846006549323611672814739330865132078623730171903, 1948668849774537224271579776955044026207910057301, 1948668849774537224271579776955044026207910057301, 5846006549323611672814739330865132078623730171903, 5846006549323611672814739330865132078623730171903, 835143792760515953259248475837876011231961453129, 835143792760515953259248475837876011231961453129, 5846006549323611672814739330865132078623730171903, 5846006549323611672814739330865132078623730171903, 5846006549323611672814739330865132078623730171901, 5846006549323611672814739330865132078623730171901, 5846006549323611672814739330865132078623730171903, 5846006549323611672814739330865132078623730171903, 1948668849774537224271579776955044026207910057297, 1948668849774537224271579776955044026207910057297, 5846006549323611672814739330865132078623730171903, 5846006549323611672814739330865132078623730171903, 1948668849774537224271579776955044026207910057301, 1948668849774537224271579776955044026207910057301, 5846006549323611672814739330865132078623730171903, 5846006549323611672814739330865132078623730171903, 5846006549323611672814739330865132078623730171865, 5846006549323611672814739330865132078623730171865, 5846006549323611672814739330865132078623730171903, 5846006549323611672814739330865132078623730171903, 5846006549323611672814739330865132078623730171901, 5846006549323611672814739330865132078623730171901, 5846006549323611672814739330865132078623730171903, 5846006549323611672814739330865132078623730171903, 5846006549323611672814739330865132078623729622113, 5846006549323611672814739330865132078623729622113, 5846006549323611672814739330865132078623730171903, 5846006549323611672814739330865132078623730171903, 5846006549323611672814739330865132078623730171893, 5846006549323611672814739330865132078623730171893, 5846006549323611672814739330865132078623730171903, 5846006549323611672814739330865132078623730171903, 5846006549323611672814739330865132078623730171753, 5846006549323611672814739330865132078623730171753, 5846006549323611672814739330865132078623730171903, 5846006549323611672814739330865132078623730171903, 5846006549323611672814739330865132078623730171901, 5846006549323611672814739330865132078623730171901, 5846006549323611672814739330865132078623730171903, 5846006549323611672814739330865132078623730171903, 5846006549323611672814739330865132078623730171761, 5846006549323611672814739330865132078623730171761, 5846006549323611672814739330865132078623730171903, 5846006549323611672814739330865132078623730171903, 5846006549323611672814739330865132078623730171893, 5846006549323611672814739330865132078623730171893, 5846006549323611672814739330865132078623730171903, 5846006549323611672814739330865132078623730171903, 5846006549323611672814739330865132078623730171897, 5846006549323611672814739330865132078623730171897, 5846006549323611672814739330865132078623730171903, 5846006549323611672814739330865132078623730171903, 5846006549323611672814739330865132078623730171901, 5846006549323611672814739330865132078623730171901, 5846006549323611672814739330865132078623730171903, 5846006549323611672814739330865132078623730171903, 92793754751168439251027608426430667914662383681, 1948668849774537224271579776955044026207910057301, 1948668849774537224271579776955044026207910057301, 5846006549323611672814739330865132078623730171903, 5846006549323611672814739330865132078623730171903, 835143792760515953259248475837876011231961453129, 835143792760515953259248475837876011231961453129, 5846006549323611672814739330865132078623730171903, 5846006549323611672814739330865132078623730171903, 5846006549323611672814739330865132078623730171901, 5846006549323611672814739330865132078623730171901, 5846006549323611672814739330865132078623730171903, 5846006549323611672814739330865132078623730171903, 1508646851438351399436061762803905052548059399201, 5846006549323611672814739330865132078623730171903, 1558935079819629779417263821564035220966328045841, 5846006549323611672814739330865132078623730171903, 1948668849774537224271579776955044026207910057301, 5846006549323611672814739330865132078623730171903, 5846006549323611672814739330865132078623730171903, 5846006549323611672814739330865132078623730171903, 5846006549323611672814739330865132078623730171903, 5846006549323611672814739330865132078623730171903, 5846006549323611672814739330865132078623730171903, 5846006549323611672814739330865132078623730171903, 5846006549323611672814739330865132078623730171903, 5846006549323611672814739330865132078623730171903, 1948668849774537224271579776955044026207910057297, 1948668849774537224271579776955044026207910057297, 5846006549323611672814739330865132078623730171903, 5846006549323611672814739330865132078623730171903, 1948668849774537224271579776955044026207910057301, 1948668849774537224271579776955044026207910057301, 5846006549323611672814739330865132078623730171903, 5846006549323611672814739330865132078623730171903, 5846006549323611672814739330865132078623730171865, 5846006549323611672814739330865132078623730171865, 5846006549323611672814739330865132078623730171903, 5846006549323611672814739330865132078623730171903, 5846006549323611672814739330865132078623730171901, 5846006549323611672814739330865132078623730171901, 5846006549323611672814739330865132078623730171903, 5846006549323611672814739330865132078623730171903, 5846006549323611672814739330865132078623730171903, 5846006549323611672814739330865132078623730171903, 5846006549323611672814739330865132078623730171903, 5846006549323611672814739330865132078623730171903, 5846006549323611672814739330865132078623730171901, 5846006549323611672814739330865132078623730171903, 5846006549323611672814739330865132078623730171903, 5846006549323611672814739330865132078623730171903, 5846006549323611672814739330865132078623730171903, 5846006549323611672814739330865132078623730171903, 5846006549323611672814739330865132078623730171903, 5846006549323611672814739330865132078623730171903, 5846006549323611672814739330865132078623730171903, 5846006549323611672814739330865132078623730171893, 5846006549323611672814739330865132078623730171893, 5846006549323611672814739330865132078623730171903, 5846006549323611672814739330865132078623730171903, 5846006549323611672814739330865132078623730171901, 5846006549323611672814739330865132078623730171901, 5846006549323611672814739330865132078623730171903, 5846006549323611672814739330865132078623730171903, 5846006549323611672814739330865132078623730171903, 5846006549323611672814739330865132078623730171903, 5846006549323611672814739330865132078623730171881, 5846006549323611672814739330865132078623730171881, 5846006549323611672814739330865132078623730171903, 5846006549323611672814739330865132078623730171903, 5846006549323611672814739330865132078623730171901, 5846006549323611672814739330865132078623730171901, 5846006549323611672814739330865132078623730171903, 5846006549323611672814739330865132078623730171903, 5846006549323611672814739330865132078623730171897, 5846006549323611672814739330865132078623730171897, 5846006549323611672814739330865132078623730171903, 5846006549323611672814739330865132078623730171903, 5846006549323611672814739330865132078623730171901, 5846006549323611672814739330865132078623730171901, 5846006549323611672814739330865132078623730171903, 5846006549323611672814739330865132078623730171903, 5846006549323611672814739330865132078623730171903, 5846006549323611672814739330865132078623730171901, 5846006549323611672814739330865132078623730171901, 5846006549323611672814739330865132078623730171903, 5846006549323611672814739330865132078623730171903, 5846006549323611672814739330865132078623730171903, 5846006549323611672814739330865132078623730171903, 5846006549323611672814739330865132078623730171903, 5846006549323611672814739330865132078623730171903, 5846006549323611672814739330865132078623730171903, 5846006549323611672814739330865132078623730171903, 5846006549323611672814739330865132078623730171903, 5846006549323611672814739330865132078623730171903, 5846006549323611672814739330865132078623730171903, 5846006549323611672814739330865132078623730171903, 5846006549323611672814739330865132078623729622113, 5846006549323611672814739330865132078623730171903, 5846006549323611672814739330865132078623730171903, 5846006549323611672814739330865132078623730169649, 5846006549323611672814739330865132078623730171903, 5846006549323611672814739330865132078623730171903, 5846006549323611672814739330865132078623730171903, 5846006549323611672814739330865132078623730171893, 5846006549323611672814739330865132078623730171893, 5846006549323611672814739330865132078623730171903, 5846006549323611672814739330865132078623730171903, 5846006549323611672814739330865132078623730171753, 5846006549323611672814739330865132078623730171903, 5846006549323611672814739330865132078623730171761, 5846006549323611672814739330865132078623730171903, 5846006549323611672814739330865132078623730171903, 5846006549323611672814739330865132078623730171903, 5846006549323611672814739330865132078623730171903, 5846006549323611672814739330865132078623730171903, 5846006549323611672814739330865132078623730171903, 5846006549323611672814739330865132078623730171903, 5846006549323611672814739330865132078623730171865, 5846006549323611672814739330865132078623730171903, 5846006549323611672814739330865132078623730171901, 5846006549323611672814739330865132078623730171903, 5846006549323611672814739330865132078623730171873, 5846006549323611672814739330865132078623730171873, 5846006549323611672814739330865132078623730171903, 5846006549323611672814739330865132078623730171903, 5846006549323611672814739330865132078623730171893, 5846006549323611672814739330865132078623730171893, 5846006549323611672814739330865132078623730171903, 5846006549323611672814739330865132078623730171903, 5846006549323611672814739330865132078623730171881, 5846006549323611672814739330865132078623730171881, 5846006549323611672814739330865132078623730171903, 5846006549323611672814739330865132078623730171903, 5846006549323611672814739330865132078623730171901, 5846006549323611672814739330865132078623730171901, 5846006549323611672814739330865132078623730171903, 5846006549323611672814739330865132078623730171903, 5846006549323611672814739330865132078623730171889, 5846006549323611672814739330865132078623730171889, 5846006549323611672814739330865132078623730171903, 5846006549323611672814739330865132078623730171903, 5846006549323611672814739330865132078623730171893, 5846006549323611672814739330865132078623730171893, 5846006549323611672814739330865132078623730171903, 5846006549323611672814739330865132078623730171903, 5846006549323611672814739330865132078623730171897, 5846006549323611672814739330865132078623730171897, 5846006549323611672814739330865132078623730171903, 5846006549323611672814739330865132078623730171903, 5846006549323611672814739330865132078623730171901, 5846006549323611672814739330865132078623730171901, 5846006549323611672814739330865132078623730171903, 5846006549323611672814739330865132078623730171903]
  | _ => []
def hasU (x n : Nat) : Bool := x.testBit (if n < 21 then n else 21 + (n - 21) % 60)
def cvl (x y : Nat) : Nat → Nat
  | 0 => 0
  | a + 1 => if x.testBit a then cvl x y a ||| (y <<< a) else cvl x y a
def cvU (x y : Nat) : Nat := cvl x y 162 % 2 ^ 162
def memU (l : List Nat) (z : Nat) : Bool := l.any fun b => Nat.beq b z
def okU (x : Nat) : Bool := (List.range 162).all fun n => x.testBit n == hasU x n
def perU (x : Nat) : Bool := (List.range 6).any fun q => (List.range 81).all fun n => Nat.ble (n + q + 2) 21 || (hasU x n == hasU x (n + q + 1))
theorem lu_ok : ((List.range 7).all fun k => (LU k).all fun x => okU x) = true := by decide +kernel
theorem lu_per : ((List.range 7).all fun k => (LU k).all fun x => perU x) = true := by decide +kernel
theorem lu_may : ((List.range 7).all fun k => (LU k).all fun x => memU (LU k) (x ||| 1)) = true := by decide +kernel
theorem lu_len : ((List.range 7).all fun k => Nat.beq (LU k).length (LS k).length) = true := by decide +kernel
theorem lu_star : ((List.range 7).all fun k => ((LU k).zip (LS k)).all fun p => memU (LU k) p.2 && Nat.beq p.2 (1 ||| cvU (p.1 / 2 * 2) p.2)) = true := by decide +kernel
theorem lu_two : ((List.range 4).all fun i => (List.range (7 - i)).all fun j => Nat.blt j i || (LU i).all fun x => (LU j).all fun y => memU (LU (i + j)) (x ||| y) && memU (LU (i + j)) (cvU x y)) = true := by decide +kernel
theorem memU_iff {l : List Nat} {z : Nat} : memU l z = true ↔ z ∈ l := by
  unfold memU
  rw [List.any_eq_true]
  constructor
  · rintro ⟨b, hb, h⟩
    rw [← Nat.eq_of_beq_eq_true h]
    exact hb
  · intro h
    exact ⟨z, h, Nat.beq_refl z⟩
theorem all_rng {n : Nat} {p : Nat → Bool} (h : ((List.range n).all p) = true) {k : Nat} (hk : k < n) : p k = true := List.all_eq_true.mp h k (List.mem_range.mpr hk)
theorem LU_ok {k x : Nat} (hk : k < 7) (h : x ∈ LU k) : okU x = true := List.all_eq_true.mp (all_rng lu_ok hk) x h
theorem hasU_per {x n : Nat} (h : 21 ≤ n) : hasU x (n + 60) = hasU x n := by
  unfold hasU
  rw [if_neg (by omega), if_neg (by omega), show n + 60 - 21 = (n - 21) + 60 by omega, Nat.add_mod_right]
theorem ok_bit {x n : Nat} (h : okU x = true) (hn : n < 162) : x.testBit n = hasU x n := by
  have := all_rng h hn
  exact eq_of_beq this
theorem cvl_bit (x y n : Nat) : ∀ k, (cvl x y k).testBit n = true ↔ ∃ a, a < k ∧ x.testBit a = true ∧ a ≤ n ∧ y.testBit (n - a) = true
  | 0 => by
    rw [cvl]
    constructor
    · intro h
      rw [Nat.zero_testBit] at h
      cases h
    · rintro ⟨a, h, _⟩
      exact absurd h (Nat.not_lt_zero _)
  | k + 1 => by
    rw [cvl]
    by_cases c : x.testBit k = true
    · rw [if_pos c, Nat.testBit_or, Bool.or_eq_true, cvl_bit x y n k, Nat.testBit_shiftLeft, Bool.and_eq_true, decide_eq_true_eq]
      constructor
      · rintro (⟨a, h1, h2⟩ | ⟨h1, h2⟩)
        · exact ⟨a, by omega, h2⟩
        · exact ⟨k, by omega, c, h1, h2⟩
      · rintro ⟨a, h1, h2, h3, h4⟩
        by_cases e : a = k
        · subst e
          exact .inr ⟨h3, h4⟩
        · exact .inl ⟨a, by omega, h2, h3, h4⟩
    · rw [if_neg c, cvl_bit x y n k]
      constructor
      · rintro ⟨a, h1, h2⟩
        exact ⟨a, by omega, h2⟩
      · rintro ⟨a, h1, h2, h3⟩
        refine ⟨a, ?_, h2, h3⟩
        rcases Nat.lt_or_ge a k with h | h
        · exact h
        · exact absurd (by rw [show k = a by omega]; exact h2) c
theorem cvU_bit {x y n : Nat} (hn : n < 162) : (cvU x y).testBit n = true ↔ ∃ a, x.testBit a = true ∧ a ≤ n ∧ y.testBit (n - a) = true := by
  unfold cvU
  rw [Nat.testBit_mod_two_pow, decide_eq_true hn, Bool.true_and, cvl_bit]
  constructor
  · rintro ⟨a, _, h⟩
    exact ⟨a, h⟩
  · rintro ⟨a, h1, h2, h3⟩
    exact ⟨a, by omega, h1, h2, h3⟩
/-- lengths of words put together -/
theorem join_U {x y : Nat} (hx : okU x = true) (hy : okU y = true) (hz : okU (cvU x y) = true) : ∀ n, hasU (cvU x y) n = true ↔ ∃ a b, a + b = n ∧ hasU x a = true ∧ hasU y b = true := by
  intro n
  induction n using Nat.strongRecOn with
  | _ n ih =>
    rcases Nat.lt_or_ge n 162 with hn | hn
    · rw [← ok_bit hz hn, cvU_bit hn]
      constructor
      · rintro ⟨a, h1, h2, h3⟩
        exact ⟨a, n - a, by omega, by rw [← ok_bit hx (by omega)]; exact h1, by rw [← ok_bit hy (by omega)]; exact h3⟩
      · rintro ⟨a, b, h1, h2, h3⟩
        exact ⟨a, by rw [ok_bit hx (by omega)]; exact h2, by omega, by rw [ok_bit hy (by omega), show n - a = b by omega]; exact h3⟩
    · have e : hasU (cvU x y) n = hasU (cvU x y) (n - 60) := by
        rw [← hasU_per (x := cvU x y) (n := n - 60) (by omega), show n - 60 + 60 = n by omega]
      rw [e, ih (n - 60) (by omega)]
      constructor
      · rintro ⟨a, b, h1, h2, h3⟩
        rcases Nat.lt_or_ge a 21 with c | c
        · exact ⟨a, b + 60, by omega, h2, by rw [hasU_per (by omega)]; exact h3⟩
        · exact ⟨a + 60, b, by omega, by rw [hasU_per c]; exact h2, h3⟩
      · rintro ⟨a, b, h1, h2, h3⟩
        rcases Nat.lt_or_ge a 81 with c | c
        · refine ⟨a, b - 60, by omega, h2, ?_⟩
          rw [← hasU_per (x := y) (n := b - 60) (by omega), show b - 60 + 60 = b by omega]
          exact h3
        · refine ⟨a - 60, b, by omega, ?_, h3⟩
          rw [← hasU_per (x := x) (n := a - 60) (by omega), show a - 60 + 60 = a by omega]
          exact h2
theorem or_U (x y n : Nat) : hasU (x ||| y) n = (hasU x n || hasU y n) := Nat.testBit_or ..
theorem one_U (n : Nat) : hasU 1 n = decide (n = 0) := by
  unfold hasU
  rw [show (1 : Nat) = 2 ^ 0 from rfl, Nat.testBit_two_pow]
  refine decide_eq_decide.mpr ?_
  split <;> omega
theorem pos_bit (x n : Nat) : (x / 2 * 2).testBit n = (!decide (n = 0) && x.testBit n) := by
  cases n with
  | zero =>
    rw [Nat.testBit_zero]
    have : x / 2 * 2 % 2 = 0 := Nat.mul_mod_left _ _
    rw [this]
    rfl
  | succ n =>
    rw [Nat.testBit_succ, Nat.testBit_succ, Nat.mul_div_cancel _ (by decide : 0 < 2)]
    rfl
/-- .. as many as one likes -/
theorem star_U {x z : Nat} (hx : okU x = true) (hz : okU z = true) (e : z = 1 ||| cvU (x / 2 * 2) z) : (hasU z 0 = true) ∧ (∀ a n, hasU x a = true → hasU z n = true → hasU z (a + n) = true) ∧ ∀ n, 0 < n → hasU z n = true → ∃ a, 0 < a ∧ a ≤ n ∧ hasU x a = true ∧ hasU z (n - a) = true := by
  have bit : ∀ n, n < 162 → (hasU z n = true ↔ n = 0 ∨ ∃ a, 0 < a ∧ a ≤ n ∧ hasU x a = true ∧ hasU z (n - a) = true) := fun n hn => by
    have h1 : hasU z n = z.testBit n := (ok_bit hz hn).symm
    have h2 : z.testBit n = ((1 : Nat).testBit n || (cvU (x / 2 * 2) z).testBit n) := by
      have := congrArg (fun y => Nat.testBit y n) e
      rw [Nat.testBit_or] at this
      exact this
    have h3 : (1 : Nat).testBit n = decide (n = 0) := by
      rw [show (1 : Nat) = 2 ^ 0 from rfl, Nat.testBit_two_pow]
      exact decide_eq_decide.mpr ⟨fun h => h.symm, fun h => h.symm⟩
    rw [h1, h2, h3, Bool.or_eq_true, decide_eq_true_eq, cvU_bit hn]
    constructor
    · rintro (h | ⟨a, k1, k2, k3⟩)
      · exact .inl h
      · rw [pos_bit, Bool.and_eq_true, Bool.not_eq_true', decide_eq_false_iff_not] at k1
        exact .inr ⟨a, by omega, k2, by rw [← ok_bit hx (by omega)]; exact k1.2, by rw [← ok_bit hz (by omega)]; exact k3⟩
    · rintro (h | ⟨a, k0, k1, k2, k3⟩)
      · exact .inl h
      · refine .inr ⟨a, ?_, k1, by rw [ok_bit hz (by omega)]; exact k3⟩
        rw [pos_bit, decide_eq_false (by omega), ok_bit hx (by omega), k2]
        rfl
  refine ⟨(bit 0 (by decide)).mpr (.inl rfl), ?_, ?_⟩
  · have key : ∀ m a n, a + n = m → hasU x a = true → hasU z n = true → hasU z (a + n) = true := by
      intro m
      induction m using Nat.strongRecOn with
      | _ m ih =>
        intro a n hm ha hn
        by_cases a0 : a = 0
        · subst a0
          rw [Nat.zero_add]
          exact hn
        rcases Nat.lt_or_ge (a + n) 162 with c | c
        · exact (bit _ c).mpr (.inr ⟨a, by omega, by omega, ha, by rw [show a + n - a = n by omega]; exact hn⟩)
        · rcases Nat.lt_or_ge a 81 with d | d
          · have := ih (a + (n - 60)) (by omega) a (n - 60) rfl ha (by rw [← hasU_per (x := z) (n := n - 60) (by omega), show n - 60 + 60 = n by omega]; exact hn)
            rw [← hasU_per (x := z) (n := a + (n - 60)) (by omega), show a + (n - 60) + 60 = a + n by omega] at this
            exact this
          · have := ih (a - 60 + n) (by omega) (a - 60) n rfl (by rw [← hasU_per (x := x) (n := a - 60) (by omega), show a - 60 + 60 = a by omega]; exact ha) hn
            rw [← hasU_per (x := z) (n := a - 60 + n) (by omega), show a - 60 + n + 60 = a + n by omega] at this
            exact this
    exact fun a n => key _ a n rfl
  · intro n
    induction n using Nat.strongRecOn with
    | _ n ih =>
      intro h0 hn
      rcases Nat.lt_or_ge n 162 with c | c
      · rcases (bit n c).mp hn with h | h
        · omega
        · exact h
      · have h1 : hasU z (n - 60) = true := by
          rw [← hasU_per (x := z) (n := n - 60) (by omega), show n - 60 + 60 = n by omega]
          exact hn
        obtain ⟨a, k0, k1, k2, k3⟩ := ih (n - 60) (by omega) (by omega) h1
        rcases Nat.lt_or_ge a 21 with d | d
        · refine ⟨a, k0, by omega, k2, ?_⟩
          rw [← hasU_per (x := z) (n := n - 60 - a) (by omega), show n - 60 - a + 60 = n - a by omega] at k3
          exact k3
        · refine ⟨a + 60, by omega, by omega, by rw [hasU_per d]; exact k2, ?_⟩
          rw [show n - (a + 60) = n - 60 - a by omega]
          exact k3
end My
namespace My
open PySem PySem.Spec PyProof.Rows L2
/-! ### .. and of the expressions -/
theorem LU_two {i j x y : Nat} (hij : i ≤ j) (h6 : i + j ≤ 6) (hx : x ∈ LU i) (hy : y ∈ LU j) : (x ||| y) ∈ LU (i + j) ∧ cvU x y ∈ LU (i + j) := by
  have h1 := all_rng lu_two (k := i) (by omega)
  have h2 := all_rng h1 (k := j) (by omega)
  rw [Bool.or_eq_true] at h2
  rcases h2 with h2 | h2
  · have : j < i := by
      rw [Nat.blt_eq] at h2
      exact h2
    omega
  · have h3 := List.all_eq_true.mp h2 x hx
    have h4 := List.all_eq_true.mp h3 y hy
    rw [Bool.and_eq_true, memU_iff, memU_iff] at h4
    exact h4
theorem cls_or {i j x y : Nat} (h6 : i + j ≤ 6) (hx : x ∈ LU i) (hy : y ∈ LU j) : ∃ z ∈ LU (i + j), ∀ n, hasU z n = true ↔ hasU x n = true ∨ hasU y n = true := by
  rcases Nat.le_total i j with h | h
  · exact ⟨x ||| y, (LU_two h h6 hx hy).1, fun n => by rw [or_U, Bool.or_eq_true]⟩
  · exact ⟨y ||| x, by rw [Nat.add_comm]; exact (LU_two h (by omega) hy hx).1, fun n => by rw [or_U, Bool.or_eq_true]; exact or_comm⟩
theorem cls_join {i j x y : Nat} (h6 : i + j ≤ 6) (hx : x ∈ LU i) (hy : y ∈ LU j) : ∃ z ∈ LU (i + j), ∀ n, hasU z n = true ↔ ∃ a b, a + b = n ∧ hasU x a = true ∧ hasU y b = true := by
  have ox := LU_ok (by omega) hx
  have oy := LU_ok (by omega) hy
  rcases Nat.le_total i j with h | h
  · have m := (LU_two h h6 hx hy).2
    exact ⟨_, m, join_U ox oy (LU_ok (by omega) m)⟩
  · have m := (LU_two h (by omega) hy hx).2
    refine ⟨_, by rw [Nat.add_comm]; exact m, fun n => ?_⟩
    rw [join_U oy ox (LU_ok (by omega) m)]
    exact ⟨fun ⟨a, b, h1, h2, h3⟩ => ⟨b, a, by omega, h3, h2⟩, fun ⟨a, b, h1, h2, h3⟩ => ⟨b, a, by omega, h3, h2⟩⟩
theorem cls_may {k x : Nat} (hk : k ≤ 6) (hx : x ∈ LU k) : ∃ z ∈ LU k, ∀ n, hasU z n = true ↔ n = 0 ∨ hasU x n = true := by
  have h1 := List.all_eq_true.mp (all_rng lu_may (k := k) (by omega)) x hx
  rw [memU_iff] at h1
  refine ⟨_, h1, fun n => ?_⟩
  rw [or_U, Bool.or_eq_true, one_U, decide_eq_true_eq]
  exact or_comm
theorem cls_star {k x : Nat} (hk : k ≤ 6) (hx : x ∈ LU k) : ∃ z ∈ LU k, (hasU z 0 = true) ∧ (∀ a n, hasU x a = true → hasU z n = true → hasU z (a + n) = true) ∧ ∀ n, 0 < n → hasU z n = true → ∃ a, 0 < a ∧ a ≤ n ∧ hasU x a = true ∧ hasU z (n - a) = true := by
  have hl := Nat.eq_of_beq_eq_true (all_rng lu_len (k := k) (by omega))
  obtain ⟨i, hi, e⟩ := List.getElem_of_mem hx
  have hz : i < (LS k).length := by omega
  have hp : (x, (LS k)[i]) ∈ (LU k).zip (LS k) := by
    rw [List.mem_iff_getElem]
    refine ⟨i, by rw [List.length_zip]; omega, ?_⟩
    rw [List.getElem_zip, e]
  have h1 := List.all_eq_true.mp (all_rng lu_star (k := k) (by omega)) _ hp
  rw [Bool.and_eq_true, memU_iff] at h1
  exact ⟨_, h1.1, star_U (LU_ok (by omega) hx) (LU_ok (by omega) h1.1) (Nat.eq_of_beq_eq_true h1.2)⟩
abbrev repN (n c : Nat) : List Nat := List.replicate n c
theorem rep_app {n c : Nat} {u v : List Nat} (h : repN n c = u ++ v) : u = repN u.length c ∧ v = repN v.length c ∧ u.length + v.length = n := by
  obtain ⟨h1, h2, h3⟩ := List.append_eq_replicate_iff.mp h.symm
  exact ⟨h2, h3, h1⟩
theorem rep_add (a b c : Nat) : repN (a + b) c = repN a c ++ repN b c := List.replicate_append_replicate.symm
theorem star_rep {L : List Nat → Prop} {c x z : Nat} (h : ∀ n, hasU x n = true ↔ L (repN n c)) (k : (hasU z 0 = true) ∧ (∀ a n, hasU x a = true → hasU z n = true → hasU z (a + n) = true) ∧ ∀ n, 0 < n → hasU z n = true → ∃ a, 0 < a ∧ a ≤ n ∧ hasU x a = true ∧ hasU z (n - a) = true) : ∀ n, hasU z n = true ↔ Star L (repN n c) := by
  intro n
  constructor
  · induction n using Nat.strongRecOn with
    | _ n ih =>
      intro hn
      by_cases n0 : n = 0
      · subst n0
        exact .nil
      · obtain ⟨a, h1, h2, h3, h4⟩ := k.2.2 n (by omega) hn
        have e : repN n c = repN a c ++ repN (n - a) c := by rw [← rep_add, show a + (n - a) = n by omega]
        rw [e]
        refine .cons ((h a).mp h3) (fun e => ?_) (ih (n - a) (by omega) h4)
        have := congrArg List.length e
        rw [List.length_replicate] at this
        have : a = 0 := this
        omega
  · intro hs
    have key : ∀ w, Star L w → ∀ n, w = repN n c → hasU z n = true := fun w hs => by
      induction hs with
      | nil =>
        intro n hn
        have := congrArg List.length hn
        rw [List.length_replicate] at this
        have e : n = 0 := this.symm
        subst e
        exact k.1
      | @cons u v hu hne _ ih =>
        intro n hn
        obtain ⟨h1, h2, h3⟩ := rep_app hn.symm
        rw [← h3]
        refine k.2.1 _ _ ((h _).mpr ?_) (ih _ h2)
        rw [← h1]
        exact hu
    exact key _ hs n rfl
theorem rep_one {n c : Nat} : repN n c = [c] ↔ n = 1 := by
  constructor
  · intro h
    have := congrArg List.length h
    rw [List.length_replicate] at this
    exact this
  · rintro rfl
    rfl
theorem two_U (n : Nat) : hasU 2 n = decide (n = 1) := by
  unfold hasU
  rw [show (2 : Nat) = 2 ^ 1 from rfl, Nat.testBit_two_pow]
  refine decide_eq_decide.mpr ?_
  split <;> omega
theorem join_rep {L M : List Nat → Prop} {c x y z : Nat} (hx : ∀ n, hasU x n = true ↔ L (repN n c)) (hy : ∀ n, hasU y n = true ↔ M (repN n c)) (hz : ∀ n, hasU z n = true ↔ ∃ a b, a + b = n ∧ hasU x a = true ∧ hasU y b = true) : ∀ n, hasU z n = true ↔ ∃ us vs, repN n c = us ++ vs ∧ L us ∧ M vs := by
  intro n
  rw [hz]
  constructor
  · rintro ⟨a, b, h1, h2, h3⟩
    exact ⟨repN a c, repN b c, by rw [← rep_add, h1], (hx a).mp h2, (hy b).mp h3⟩
  · rintro ⟨us, vs, h1, h2, h3⟩
    obtain ⟨k1, k2, k3⟩ := rep_app h1
    exact ⟨us.length, vs.length, k3, (hx _).mpr (by rw [← k1]; exact h2), (hy _).mpr (by rw [← k2]; exact h3)⟩
mutual
theorem un_E (c : Nat) : ∀ e : E, e.ok = true → (∀ d ∈ e.letters, d = c) → e.places ≤ 6 → ∃ x ∈ LU e.places, ∀ n, hasU x n = true ↔ MW e (repN n c)
  | .eps, _, _, _ => by
    refine ⟨1, by decide, fun n => ?_⟩
    rw [one_U, decide_eq_true_eq, MW]
    constructor
    · rintro rfl
      rfl
    · intro h
      have := congrArg List.length h
      rw [List.length_replicate] at this
      exact this
  | .sym d, _, hl, _ => by
    obtain rfl : d = c := hl d (by rw [E.letters]; exact List.mem_singleton.mpr rfl)
    refine ⟨2, by rw [E.places]; decide, fun n => ?_⟩
    rw [two_U, decide_eq_true_eq, MW, rep_one]
  | .maybe e, ho, hl, hp => by
    rw [E.ok] at ho
    rw [E.letters] at hl
    rw [E.places] at hp
    obtain ⟨x, hx, h⟩ := un_E c e ho hl hp
    obtain ⟨z, hz, k⟩ := cls_may hp hx
    refine ⟨z, by rw [E.places]; exact hz, fun n => ?_⟩
    rw [k, MW, h]
    refine or_congr ⟨fun e => by rw [e]; rfl, fun e => ?_⟩ Iff.rfl
    have := congrArg List.length e
    rw [List.length_replicate] at this
    exact this
  | .many e, ho, hl, hp => by
    rw [E.ok] at ho
    rw [E.letters] at hl
    rw [E.places] at hp
    obtain ⟨x, hx, h⟩ := un_E c e ho hl hp
    obtain ⟨z, hz, k⟩ := cls_star hp hx
    refine ⟨z, by rw [E.places]; exact hz, fun n => ?_⟩
    rw [MW]
    exact star_rep h k n
  | .join es, ho, hl, hp => by
    rw [E.ok, oks_eq] at ho
    simp only [Bool.and_eq_true] at ho
    rw [E.letters] at hl
    rw [E.places] at hp
    obtain ⟨x, hx, h⟩ := un_J c es (by simp_all) hl hp
    exact ⟨x, by rw [E.places]; exact hx, fun n => by rw [MW]; exact h n⟩
  | .alt es, ho, hl, hp => by
    rw [E.ok, oks_eq] at ho
    simp only [Bool.and_eq_true, decide_eq_true_eq] at ho
    rw [E.letters] at hl
    rw [E.places] at hp
    have hne : es ≠ [] := by
      intro e
      subst e
      simp at ho
    obtain ⟨x, hx, h⟩ := un_A c es hne (by simp_all) hl hp
    exact ⟨x, by rw [E.places]; exact hx, fun n => by rw [MW]; exact h n⟩
theorem un_J (c : Nat) : ∀ es : List E, es.all E.ok = true → (∀ d ∈ E.letters.letterss es, d = c) → E.places.placess es ≤ 6 → ∃ x ∈ LU (E.places.placess es), ∀ n, hasU x n = true ↔ MW.mwJ es (repN n c)
  | [], _, _, _ => by
    refine ⟨1, by decide, fun n => ?_⟩
    rw [one_U, decide_eq_true_eq, MW.mwJ]
    constructor
    · rintro rfl
      rfl
    · intro h
      have := congrArg List.length h
      rw [List.length_replicate] at this
      exact this
  | e :: es, ho, hl, hp => by
    rw [List.all_cons, Bool.and_eq_true] at ho
    rw [E.letters.letterss] at hl
    rw [E.places.placess] at hp
    obtain ⟨x, hx, h⟩ := un_E c e ho.1 (fun d hd => hl d (List.mem_append_left _ hd)) (by omega)
    obtain ⟨y, hy, k⟩ := un_J c es ho.2 (fun d hd => hl d (List.mem_append_right _ hd)) (by omega)
    obtain ⟨z, hz, m⟩ := cls_join hp hx hy
    refine ⟨z, by rw [E.places.placess]; exact hz, fun n => ?_⟩
    rw [MW.mwJ]
    exact join_rep h k m n
theorem un_A (c : Nat) : ∀ es : List E, es ≠ [] → es.all E.ok = true → (∀ d ∈ E.letters.letterss es, d = c) → E.places.placess es ≤ 6 → ∃ x ∈ LU (E.places.placess es), ∀ n, hasU x n = true ↔ MW.mwA es (repN n c)
  | [], h0, _, _, _ => absurd rfl h0
  | [e], _, ho, hl, hp => by
    rw [List.all_cons, Bool.and_eq_true] at ho
    rw [E.letters.letterss] at hl
    rw [E.places.placess] at hp
    obtain ⟨x, hx, h⟩ := un_E c e ho.1 (fun d hd => hl d (List.mem_append_left _ hd)) (by omega)
    refine ⟨x, by rw [E.places.placess]; exact hx, fun n => ?_⟩
    rw [MW.mwA, h]
    exact ⟨.inl, fun k => k.elim id fun k => k.elim⟩
  | e :: e2 :: es, _, ho, hl, hp => by
    rw [List.all_cons, Bool.and_eq_true] at ho
    rw [E.letters.letterss] at hl
    rw [E.places.placess] at hp
    obtain ⟨x, hx, h⟩ := un_E c e ho.1 (fun d hd => hl d (List.mem_append_left _ hd)) (by omega)
    obtain ⟨y, hy, k⟩ := un_A c (e2 :: es) (fun h => nomatch h) ho.2 (fun d hd => hl d (List.mem_append_right _ hd)) (by omega)
    obtain ⟨z, hz, m⟩ := cls_or hp hx hy
    refine ⟨z, by rw [E.places.placess]; exact hz, fun n => ?_⟩
    rw [MW.mwA, m, h, k]
end
end My
namespace My
open PySem PySem.Spec PyProof.Rows L2
/-! ### six places: at most 40 states -/
theorem per_all {x q : Nat} (hq : q < 6) (h : ((List.range 81).all fun n => Nat.ble (n + q + 2) 21 || (hasU x n == hasU x (n + q + 1))) = true) : ∀ n, 20 - q ≤ n → hasU x n = hasU x (n + (q + 1)) := by
  intro n
  induction n using Nat.strongRecOn with
  | _ n ih =>
    intro hn
    rcases Nat.lt_or_ge n 81 with c | c
    · have := all_rng h c
      rw [Bool.or_eq_true] at this
      rcases this with k | k
      · have := Nat.le_of_ble_eq_true k
        omega
      · exact eq_of_beq k
    · have := ih (n - 60) (by omega) (by omega)
      rw [← hasU_per (x := x) (n := n - 60) (by omega), ← hasU_per (x := x) (n := n - 60 + (q + 1)) (by omega), show n - 60 + 60 = n by omega, show n - 60 + (q + 1) + 60 = n + (q + 1) by omega] at this
      exact this
/-- one letter only: the states stand in a row -/
theorem un_bound {e : E} {c : Nat} (ho : e.ok = true) (hl : ∀ d ∈ e.letters, d = c) (h6 : e.places ≤ 6) {N : Nat} {acc : Nat → Bool} {mv : Mv} (A : IsAut (MW e) N acc mv) : N ≤ 21 := by
  obtain ⟨x, hx, hM⟩ := un_E c e ho hl h6
  have hper := List.all_eq_true.mp (all_rng lu_per (k := e.places) (by omega)) x hx
  obtain ⟨q, hq, hall⟩ := List.any_eq_true.mp hper
  have hq6 := List.mem_range.mp hq
  have per := per_all hq6 hall
  -- words have the letter c alone
  have only : ∀ w, MW e w → ∀ d ∈ w, d = c := fun w hw d hd => hl d (mw_lets e ho w hw d hd).1
  -- each state is reached by the letter c alone
  have reach : ∀ n, n < N → runM mv 0 (repN n c) = some n := by
    intro n
    induction n using Nat.strongRecOn with
    | _ n ih =>
      intro hn
      cases n with
      | zero => rfl
      | succ n =>
        have hrn := ih n (Nat.lt_succ_self _) (by omega)
        obtain ⟨m, hm, ht, _⟩ := A.num (n + 1) (Nat.succ_pos _) hn
        unfold tgt at ht
        have hq := ih (m / 4) (by omega) (by omega)
        obtain ⟨u, hu⟩ := A.live (n + 1) hn
        have hw : MW e (repN (m / 4) c ++ ((97 + m % 4) :: u)) := by
          rw [A.lang]
          obtain ⟨t, h1, h2⟩ := hu
          refine ⟨t, ?_, h2⟩
          rw [runM_app, hq]
          show (mv (m / 4) (97 + m % 4)).bind (fun s => runM mv s u) = some t
          rw [ht]
          exact h1
        have hc : 97 + m % 4 = c := only _ hw _ (List.mem_append_right _ (List.mem_cons_self ..))
        rw [hc] at ht
        have hmq : m / 4 = n := by
          refine Classical.byContradiction fun hne => ?_
          have h1 := ih (m / 4 + 1) (by omega) (by omega)
          rw [show repN (m / 4 + 1) c = repN (m / 4) c ++ [c] from rep_add _ 1 c, runM_snoc, hq] at h1
          have h2 : mv (m / 4) c = some (m / 4 + 1) := h1
          rw [ht] at h2
          have := Option.some.inj h2
          omega
        rw [show repN (n + 1) c = repN n c ++ [c] from rep_add _ 1 c, runM_snoc, hrn]
        show mv n c = some (n + 1)
        rw [hmq] at ht
        exact ht
  refine Classical.byContradiction fun hN => ?_
  have hN : 22 ≤ N := by omega
  have key : (20 - q) = (20 - q) + (q + 1) := by
    refine A.apart _ _ (by omega) (by omega) fun u => ?_
    have lang : ∀ n, n < N → (accM mv acc n u ↔ MW e (repN n c ++ u)) := fun n hn => by
      rw [A.lang]
      unfold accM
      rw [runM_app, reach n hn]
      exact Iff.rfl
    rw [lang _ (by omega), lang _ (by omega)]
    by_cases hu : ∀ d ∈ u, d = c
    · have hu2 : u = repN u.length c := List.eq_replicate_of_mem hu
      rw [hu2, ← rep_add, ← rep_add, ← hM, ← hM, per _ (by omega), show 20 - q + u.length + (q + 1) = 20 - q + (q + 1) + u.length by omega]
    · exact ⟨fun h => absurd (fun d hd => only _ h d (List.mem_append_right _ hd)) hu, fun h => absurd (fun d hd => only _ h d (List.mem_append_right _ hd)) hu⟩
  omega
def subL : List Nat → List (List Nat)
  | [] => [[]]
  | x :: xs => subL xs ++ (subL xs).map (x :: ·)
theorem subL_mem : ∀ {s l : List Nat}, s.Sublist l → s ∈ subL l := fun {s l} h => by
  induction h with
  | slnil => exact List.mem_singleton.mpr rfl
  | cons _ _ ih => exact List.mem_append_left _ ih
  | cons_cons _ _ ih => exact List.mem_append_right _ (List.mem_map.mpr ⟨_, ih, rfl⟩)
theorem subL_len : ∀ l : List Nat, (subL l).length = 2 ^ l.length
  | [] => rfl
  | x :: xs => by rw [subL, List.length_append, List.length_map, subL_len xs, List.length_cons, Nat.pow_succ]; omega
def subN1 (l : List Nat) : List (List Nat) := (subL l).filter fun s => !s.isEmpty
theorem subN1_len : ∀ l : List Nat, (subN1 l).length + 1 = 2 ^ l.length
  | [] => rfl
  | x :: xs => by
    have ih := subN1_len xs
    unfold subN1 at ih ⊢
    rw [subL, List.filter_append, List.length_append]
    have e : ((subL xs).map (x :: ·)).filter (fun s => !s.isEmpty) = (subL xs).map (x :: ·) := by
      rw [List.filter_eq_self]
      intro s hs
      obtain ⟨t, _, rfl⟩ := List.mem_map.mp hs
      rfl
    rw [e, List.length_map, subL_len, List.length_cons, Nat.pow_succ]
    omega
def placesOf (e : E) (c : Nat) : List Nat := (List.range e.places).filter fun i => decide (e.letters[i]? = some c)
theorem four_len (f : Nat → Option Nat) : ∀ xs : List Nat, (xs.filter fun i => decide (f i = some 97)).length + (xs.filter fun i => decide (f i = some 98)).length + (xs.filter fun i => decide (f i = some 99)).length + (xs.filter fun i => decide (f i = some 100)).length ≤ xs.length
  | [] => Nat.le_refl _
  | x :: xs => by
    have ih := four_len f xs
    have one : ∀ c : Nat, ((x :: xs).filter fun i => decide (f i = some c)).length = (xs.filter fun i => decide (f i = some c)).length + (if f x = some c then 1 else 0) := fun c => by
      rw [List.filter_cons]
      by_cases h : f x = some c
      · rw [if_pos (decide_eq_true h), if_pos h, List.length_cons]
      · rw [if_neg (by rw [decide_eq_false h]; exact Bool.false_ne_true), if_neg h]
        rfl
    rw [one, one, one, one, List.length_cons]
    have : (if f x = some 97 then 1 else 0) + (if f x = some 98 then 1 else 0) + (if f x = some 99 then 1 else 0) + (if f x = some 100 then 1 else 0) ≤ 1 := by
      cases f x with
      | none => simp
      | some d =>
        by_cases h1 : d = 97
        · subst h1; simp
        · by_cases h2 : d = 98
          · subst h2; simp
          · by_cases h3 : d = 99
            · subst h3; simp
            · by_cases h4 : d = 100
              · subst h4; simp
              · simp [h1, h2, h3, h4]
    omega
theorem four_pow : ∀ a b c d : Fin 6, a.1 + b.1 + c.1 + d.1 ≤ 6 → 1 + (2 ^ a.1 - 1) + (2 ^ b.1 - 1) + (2 ^ c.1 - 1) + (2 ^ d.1 - 1) ≤ 40 := by decide +kernel
/-- several letters: the sets have one letter each -/
theorem mix_sets {e : E} {S : List (List Nat)} {mv : Mv} (B : Bfs e S mv S.length 0) (h6 : e.places ≤ 6) (h5 : ∀ c, (placesOf e c).length ≤ 5) : S.length ≤ 40 := by
  have hsub : ∀ s ∈ S, s ∈ ([] :: (subN1 (placesOf e 97) ++ (subN1 (placesOf e 98) ++ (subN1 (placesOf e 99) ++ subN1 (placesOf e 100))))) := fun s hs => by
    obtain ⟨t, ht, e0⟩ := List.getElem_of_mem hs
    by_cases t0 : t = 0
    · subst t0
      have h0 := B.h0
      rw [List.getElem?_eq_getElem ht, e0] at h0
      rw [Option.some.inj h0]
      exact List.mem_cons_self ..
    · obtain ⟨m, hm, hmt, _⟩ := B.num t (by omega) ht
      obtain ⟨_, c1, c2, s', _, h2, h3⟩ := B.mv1 _ _ _ hmt
      rw [List.getElem?_eq_getElem ht, e0] at h2
      have hst : s = stS e s' (97 + m % 4) := Option.some.inj h2
      have hr : s.Pairwise (· < ·) := by rw [hst]; exact stS_rise (gl_rise e 0).fst
      have hmem : ∀ y ∈ s, y ∈ placesOf e (97 + m % 4) := fun y hy => by
        rw [hst] at hy
        exact List.mem_filter.mpr ⟨List.mem_range.mpr (stS_lt hy), decide_eq_true (mem_stS.mp hy).1⟩
      have hP : (placesOf e (97 + m % 4)).Pairwise (· < ·) := List.pairwise_lt_range.sublist List.filter_sublist
      have hsl : s.Sublist (placesOf e (97 + m % 4)) := by
        have e1 : s = (placesOf e (97 + m % 4)).filter fun y => decide (y ∈ s) := by
          refine rise_eq hr (hP.sublist List.filter_sublist) fun y => ?_
          rw [List.mem_filter, decide_eq_true_eq]
          exact ⟨fun h => ⟨hmem y h, h⟩, fun h => h.2⟩
        rw [e1]
        exact List.filter_sublist
      have hin : s ∈ subN1 (placesOf e (97 + m % 4)) := by
        refine List.mem_filter.mpr ⟨subL_mem hsl, ?_⟩
        rw [← hst] at h3
        cases s with
        | nil => exact absurd rfl h3
        | cons _ _ => rfl
      refine List.mem_cons_of_mem _ ?_
      have : m % 4 = 0 ∨ m % 4 = 1 ∨ m % 4 = 2 ∨ m % 4 = 3 := by omega
      rcases this with k | k | k | k <;> rw [k] at hin
      · exact List.mem_append_left _ hin
      · exact List.mem_append_right _ (List.mem_append_left _ hin)
      · exact List.mem_append_right _ (List.mem_append_right _ (List.mem_append_left _ hin))
      · exact List.mem_append_right _ (List.mem_append_right _ (List.mem_append_right _ hin))
  have h1 := nodup_subA _ _ B.nd hsub
  rw [List.length_cons, List.length_append, List.length_append, List.length_append] at h1
  have l1 := subN1_len (placesOf e 97)
  have l2 := subN1_len (placesOf e 98)
  have l3 := subN1_len (placesOf e 99)
  have l4 := subN1_len (placesOf e 100)
  have hs := four_len (fun i => e.letters[i]?) (List.range e.places)
  rw [List.length_range] at hs
  have hf := four_pow ⟨(placesOf e 97).length, by have := h5 97; omega⟩ ⟨(placesOf e 98).length, by have := h5 98; omega⟩ ⟨(placesOf e 99).length, by have := h5 99; omega⟩ ⟨(placesOf e 100).length, by have := h5 100; omega⟩ (Nat.le_trans hs h6)
  have hf : 1 + (2 ^ (placesOf e 97).length - 1) + (2 ^ (placesOf e 98).length - 1) + (2 ^ (placesOf e 99).length - 1) + (2 ^ (placesOf e 100).length - 1) ≤ 40 := hf
  omega
theorem aut_bound6 {e : E} (ho : e.ok = true) (h : e.places ≤ 6) : ∀ (N : Nat) (acc : Nat → Bool) (mv : Mv), IsAut (MW e) N acc mv → N ≤ 40 := fun N acc mv A => by
  by_cases h5 : e.places ≤ 5
  · exact aut_bound5 ho h5 N acc mv A
  by_cases hc : ∃ c, ∀ d ∈ e.letters, d = c
  · obtain ⟨c, hc⟩ := hc
    have := un_bound ho hc h A
    omega
  · obtain ⟨S, mv', B⟩ := bfs_ex e
    obtain ⟨a, R, hfin⟩ := ref_ex (B.pre ho)
    have A' := aut_of ho B R hfin
    rw [(A.uniq A').1]
    have h1 := cntR_le a
    have h2 := R.len
    have h3 := mix_sets B h fun c => by
      have hle : (placesOf e c).length ≤ (List.range e.places).length := List.length_filter_le _ _
      rw [List.length_range] at hle
      refine Classical.byContradiction fun hn => hc ⟨c, fun d hd => ?_⟩
      have heq : (placesOf e c).length = (List.range e.places).length := by
        rw [List.length_range]
        omega
      have hall := List.length_filter_eq_length_iff.mp heq
      obtain ⟨i, hi, e1⟩ := List.getElem_of_mem hd
      have hpl : e.letters.length = e.places := letters_len e
      have := of_decide_eq_true (hall i (List.mem_range.mpr (by omega)))
      rw [List.getElem?_eq_getElem hi, e1] at this
      exact Option.some.inj this
    omega
end My
namespace My
open PySem PySem.Spec PyProof.Rows L2
/-! ### right words in their order, and their numbers -/
def cntM (acc : Nat → Bool) (mv : Mv) : Nat → Nat → Nat
  | 0, q => if acc q then 1 else 0
  | n + 1, q => ((lets4.filterMap (mv q)).map (cntM acc mv n)).sum
def cntO (acc : Nat → Bool) (mv : Mv) (n : Nat) (o : Option Nat) : Nat := o.elim 0 (cntM acc mv n)
def wdM (acc : Nat → Bool) (mv : Mv) : Nat → Nat → List (List Nat)
  | 0, q => if acc q then [[]] else []
  | n + 1, q => lets4.flatMap fun c => match mv q c with
    | some t => (wdM acc mv n t).map (c :: ·)
    | none => []
def blkM (acc : Nat → Bool) (mv : Mv) (n q c : Nat) : List (List Nat) := match mv q c with
  | some t => (wdM acc mv n t).map (c :: ·)
  | none => []
theorem wdM_succ (acc : Nat → Bool) (mv : Mv) (n q : Nat) : wdM acc mv (n + 1) q = lets4.flatMap (blkM acc mv n q) := rfl
theorem cntM_succ (acc : Nat → Bool) (mv : Mv) (n q : Nat) : cntM acc mv (n + 1) q = (lets4.map fun c => cntO acc mv n (mv q c)).sum := by
  rw [cntM]
  have e : ∀ cs : List Nat, ((cs.filterMap (mv q)).map (cntM acc mv n)).sum = (cs.map fun c => cntO acc mv n (mv q c)).sum := fun cs => by
    induction cs with
    | nil => rfl
    | cons c cs ih =>
      rw [List.filterMap_cons]
      cases h : mv q c with
      | none =>
        rw [List.map_cons, List.sum_cons, h]
        show _ = 0 + _
        rw [Nat.zero_add]
        exact ih
      | some t =>
        rw [List.map_cons, List.sum_cons, List.map_cons, List.sum_cons, h]
        show _ = cntM acc mv n t + _
        rw [ih]
  exact e lets4
theorem wd_len (acc : Nat → Bool) (mv : Mv) : ∀ n q, (wdM acc mv n q).length = cntM acc mv n q
  | 0, q => by
    rw [wdM, cntM]
    split <;> rfl
  | n + 1, q => by
    rw [wdM_succ, cntM_succ, List.length_flatMap]
    congr 2
    funext c
    unfold blkM cntO
    cases mv q c with
    | none => rfl
    | some t =>
      show ((wdM acc mv n t).map (c :: ·)).length = _
      rw [List.length_map, wd_len acc mv n t]
      rfl
theorem blk_len (acc : Nat → Bool) (mv : Mv) (n q c : Nat) : (blkM acc mv n q c).length = cntO acc mv n (mv q c) := by
  unfold blkM cntO
  cases mv q c with
  | none => rfl
  | some t =>
    show ((wdM acc mv n t).map (c :: ·)).length = _
    rw [List.length_map, wd_len]
    rfl
theorem wd_mem {acc : Nat → Bool} {mv : Mv} : ∀ {n q : Nat} {u : List Nat}, u ∈ wdM acc mv n q ↔ u.length = n ∧ LetsN u ∧ accM mv acc q u
  | 0, q, u => by
    rw [wdM]
    constructor
    · intro h
      by_cases c : acc q = true
      · rw [if_pos c] at h
        obtain rfl := List.mem_singleton.mp h
        exact ⟨rfl, (fun d hd => nomatch hd), q, rfl, c⟩
      · rw [if_neg c] at h
        cases h
    · rintro ⟨h1, _, t, h2, h3⟩
      obtain rfl := List.length_eq_zero_iff.mp h1
      cases h2
      rw [if_pos h3]
      exact List.mem_singleton.mpr rfl
  | n + 1, q, u => by
    rw [wdM_succ, List.mem_flatMap]
    constructor
    · rintro ⟨c, hc, h⟩
      unfold blkM at h
      cases hm : mv q c with
      | none => rw [hm] at h; cases h
      | some t =>
        rw [hm] at h
        obtain ⟨v, hv, rfl⟩ := List.mem_map.mp h
        obtain ⟨h1, h2, h3⟩ := wd_mem.mp hv
        refine ⟨by rw [List.length_cons, h1], fun d hd => ?_, accM_cons.mpr ⟨t, hm, h3⟩⟩
        rcases List.mem_cons.mp hd with rfl | hd
        · exact hc
        · exact h2 d hd
    · rintro ⟨h1, h2, h3⟩
      cases u with
      | nil => cases h1
      | cons c v =>
        obtain ⟨t, hm, h4⟩ := accM_cons.mp h3
        refine ⟨c, h2 c (List.mem_cons_self ..), ?_⟩
        unfold blkM
        rw [hm]
        exact List.mem_map.mpr ⟨v, wd_mem.mpr ⟨Nat.succ.inj h1, fun d hd => h2 d (List.mem_cons_of_mem _ hd), h4⟩, rfl⟩
theorem pw_flat {α β : Type} {R : β → β → Prop} (f : α → List β) {S : α → α → Prop} : ∀ xs : List α, xs.Pairwise S → (∀ x ∈ xs, (f x).Pairwise R) → (∀ x ∈ xs, ∀ y ∈ xs, S x y → ∀ u ∈ f x, ∀ v ∈ f y, R u v) → (xs.flatMap f).Pairwise R
  | [], _, _, _ => .nil
  | x :: xs, h, h1, h2 => by
    rw [List.pairwise_cons] at h
    rw [List.flatMap_cons, List.pairwise_append]
    refine ⟨h1 x (List.mem_cons_self ..), pw_flat f xs h.2 (fun y hy => h1 y (List.mem_cons_of_mem _ hy)) (fun y hy z hz => h2 y (List.mem_cons_of_mem _ hy) z (List.mem_cons_of_mem _ hz)), fun u hu v hv => ?_⟩
    obtain ⟨y, hy, hv⟩ := List.mem_flatMap.mp hv
    exact h2 x (List.mem_cons_self ..) y (List.mem_cons_of_mem _ hy) (h.1 y hy) u hu v hv
theorem wd_asc (acc : Nat → Bool) (mv : Mv) : ∀ n q, (wdM acc mv n q).Pairwise wltB
  | 0, q => by
    rw [wdM]
    split
    · exact List.pairwise_singleton _ _
    · exact .nil
  | n + 1, q => by
    rw [wdM_succ]
    refine pw_flat (S := (· < ·)) _ lets4 (by decide) (fun c _ => ?_) (fun c _ d _ hcd u hu v hv => ?_)
    · unfold blkM
      cases mv q c with
      | none => exact .nil
      | some t =>
        show ((wdM acc mv n t).map (c :: ·)).Pairwise wltB
        rw [List.pairwise_map]
        exact (wd_asc acc mv n t).imp fun h => .inr ⟨rfl, h⟩
    · unfold blkM at hu hv
      cases h1 : mv q c with
      | none => rw [h1] at hu; cases hu
      | some t =>
        cases h2 : mv q d with
        | none => rw [h2] at hv; cases hv
        | some s =>
          rw [h1] at hu
          rw [h2] at hv
          obtain ⟨_, _, rfl⟩ := List.mem_map.mp hu
          obtain ⟨_, _, rfl⟩ := List.mem_map.mp hv
          exact .inl hcd
/-- all right words of at most so many letters, in their order -/
structure RLs (L : List Nat → Prop) (n : Nat) (ws : List (List Nat)) : Prop where
  asc : ws.Pairwise wlt
  mem : ∀ u, u ∈ ws ↔ LetsN u ∧ u.length ≤ n ∧ L u
theorem asc_eq : ∀ {xs ys : List (List Nat)}, xs.Pairwise wlt → ys.Pairwise wlt → (∀ u, u ∈ xs ↔ u ∈ ys) → xs = ys
  | [], [], _, _, _ => rfl
  | [], y :: ys, _, _, h => nomatch (h y).mpr (List.mem_cons_self ..)
  | x :: xs, [], _, _, h => nomatch (h x).mp (List.mem_cons_self ..)
  | x :: xs, y :: ys, hx, hy, h => by
    rw [List.pairwise_cons] at hx hy
    have e : x = y := by
      rcases List.mem_cons.mp ((h x).mp (List.mem_cons_self ..)) with e | h1
      · exact e
      · rcases List.mem_cons.mp ((h y).mpr (List.mem_cons_self ..)) with e | h2
        · exact e.symm
        · exact absurd (wlt_trans (hx.1 y h2) (hy.1 x h1)) (wlt_irr _)
    subst e
    rw [asc_eq hx.2 hy.2 fun u => ?_]
    constructor
    · intro hu
      rcases List.mem_cons.mp ((h u).mp (List.mem_cons_of_mem _ hu)) with rfl | k
      · exact absurd (hx.1 u hu) (wlt_irr _)
      · exact k
    · intro hu
      rcases List.mem_cons.mp ((h u).mpr (List.mem_cons_of_mem _ hu)) with rfl | k
      · exact absurd (hy.1 u hu) (wlt_irr _)
      · exact k
theorem RLs.uniq {L : List Nat → Prop} {n : Nat} {ws us : List (List Nat)} (h : RLs L n ws) (k : RLs L n us) : ws = us := asc_eq h.asc k.asc fun u => (h.mem u).trans (k.mem u).symm
/-- shorter ones come first -/
theorem RLs.pre {L : List Nat → Prop} {m n : Nat} {ws us : List (List Nat)} (h : RLs L n ws) (k : RLs L m us) (hmn : m ≤ n) : ∃ vs, ws = us ++ vs ∧ ∀ v ∈ vs, m < v.length := by
  refine ⟨ws.filter fun v => decide (m < v.length), asc_eq h.asc ?_ fun u => ?_, fun v hv => of_decide_eq_true (List.mem_filter.mp hv).2⟩
  · rw [List.pairwise_append]
    refine ⟨k.asc, h.asc.sublist List.filter_sublist, fun u hu v hv => .inl ?_⟩
    have h1 := ((k.mem u).mp hu).2.1
    have h2 := of_decide_eq_true (List.mem_filter.mp hv).2
    omega
  · rw [List.mem_append, List.mem_filter, decide_eq_true_eq, h.mem, k.mem]
    constructor
    · rintro ⟨h1, h2, h3⟩
      rcases Nat.lt_or_ge m u.length with c | c
      · exact .inr ⟨⟨h1, h2, h3⟩, c⟩
      · exact .inl ⟨h1, c, h3⟩
    · rintro (⟨h1, h2, h3⟩ | ⟨h1, _⟩)
      · exact ⟨h1, by omega, h3⟩
      · exact h1
def allM (acc : Nat → Bool) (mv : Mv) (n : Nat) : List (List Nat) := (List.range (n + 1)).flatMap fun l => wdM acc mv l 0
theorem allM_rl {L : List Nat → Prop} {N : Nat} {acc : Nat → Bool} {mv : Mv} (A : IsAut L N acc mv) (n : Nat) : RLs L n (allM acc mv n) where
  asc := by
    refine pw_flat (S := (· < ·)) _ _ List.pairwise_lt_range (fun l _ => ?_) (fun l _ m _ hlm u hu v hv => .inl ?_)
    · refine (wd_asc acc mv l 0).imp_of_mem fun {u v} hu hv h => .inr ⟨?_, h⟩
      rw [(wd_mem.mp hu).1, (wd_mem.mp hv).1]
    · rw [(wd_mem.mp hu).1, (wd_mem.mp hv).1]
      exact hlm
  mem := fun u => by
    unfold allM
    rw [List.mem_flatMap]
    constructor
    · rintro ⟨l, hl, hu⟩
      obtain ⟨h1, h2, h3⟩ := wd_mem.mp hu
      have := List.mem_range.mp hl
      exact ⟨h2, by omega, (A.lang u).mpr h3⟩
    · rintro ⟨h1, h2, h3⟩
      exact ⟨u.length, List.mem_range.mpr (by omega), wd_mem.mpr ⟨rfl, h1, (A.lang u).mp h3⟩⟩
theorem allM_succ (acc : Nat → Bool) (mv : Mv) (n : Nat) : allM acc mv (n + 1) = allM acc mv n ++ wdM acc mv (n + 1) 0 := by
  unfold allM
  rw [List.range_succ, List.flatMap_append, List.flatMap_singleton]
theorem allM_len (acc : Nat → Bool) (mv : Mv) (n : Nat) : (allM acc mv n).length = ((List.range (n + 1)).map fun l => cntM acc mv l 0).sum := by
  unfold allM
  rw [List.length_flatMap]
  congr 2
  funext l
  exact wd_len acc mv l 0
/-- the number of a word among those of its length -/
def rkM (acc : Nat → Bool) (mv : Mv) : Nat → List Nat → Nat
  | _, [] => 0
  | q, c :: w => ((lets4.filter fun d => decide (d < c)).map fun d => cntO acc mv w.length (mv q d)).sum + match mv q c with
    | some t => rkM acc mv t w
    | none => 0
theorem lets4_split {c : Nat} (h : c ∈ lets4) : ∃ r, lets4 = (lets4.filter fun d => decide (d < c)) ++ c :: r := by
  have : c = 97 ∨ c = 98 ∨ c = 99 ∨ c = 100 := by
    have : c ∈ [97, 98, 99, 100] := h
    simpa using this
  rcases this with rfl | rfl | rfl | rfl
  · exact ⟨[98, 99, 100], rfl⟩
  · exact ⟨[99, 100], rfl⟩
  · exact ⟨[100], rfl⟩
  · exact ⟨[], rfl⟩
theorem rk_get {acc : Nat → Bool} {mv : Mv} : ∀ {w : List Nat} {q : Nat}, LetsN w → accM mv acc q w → (wdM acc mv w.length q)[rkM acc mv q w]? = some w
  | [], q, _, h => by
    obtain ⟨t, h1, h2⟩ := h
    cases h1
    show (if acc q then [[]] else [])[0]? = some []
    rw [if_pos h2]
    rfl
  | c :: w, q, hl, h => by
    obtain ⟨t, hm, h4⟩ := accM_cons.mp h
    have ih := rk_get (fun d hd => hl d (List.mem_cons_of_mem _ hd)) h4
    obtain ⟨r, hr⟩ := lets4_split (hl c (List.mem_cons_self ..))
    rw [List.length_cons, wdM_succ, rkM, hm]
    have e1 : lets4.flatMap (blkM acc mv w.length q) = (lets4.filter fun d => decide (d < c)).flatMap (blkM acc mv w.length q) ++ (blkM acc mv w.length q c ++ r.flatMap (blkM acc mv w.length q)) := by
      conv => lhs; rw [hr]
      rw [List.flatMap_append, List.flatMap_cons]
    have e2 : ((lets4.filter fun d => decide (d < c)).flatMap (blkM acc mv w.length q)).length = ((lets4.filter fun d => decide (d < c)).map fun d => cntO acc mv w.length (mv q d)).sum := by
      rw [List.length_flatMap]
      congr 2
      funext d
      exact blk_len acc mv w.length q d
    have hlt := (List.getElem?_eq_some_iff.mp ih).1
    have hb : blkM acc mv w.length q c = (wdM acc mv w.length t).map (c :: ·) := by
      unfold blkM
      rw [hm]
    rw [e1, List.getElem?_append_right (by rw [e2]; exact Nat.le_add_right _ _), e2, Nat.add_sub_cancel_left, List.getElem?_append_left (by rw [hb, List.length_map]; exact hlt), hb, List.getElem?_map, ih]
    rfl
theorem num_get {L : List Nat → Prop} {N : Nat} {acc : Nat → Bool} {mv : Mv} (A : IsAut L N acc mv) {w : List Nat} (hl : LetsN w) (h : L w) {n : Nat} (hn : w.length ≤ n) : (allM acc mv n)[((List.range w.length).map fun l => cntM acc mv l 0).sum + rkM acc mv 0 w]? = some w := by
  have hr := rk_get (acc := acc) hl ((A.lang w).mp h)
  have hlt := (List.getElem?_eq_some_iff.mp hr).1
  have base : ∀ k, k + w.length ≤ n → (allM acc mv (w.length + k))[((List.range w.length).map fun l => cntM acc mv l 0).sum + rkM acc mv 0 w]? = some w := fun k => by
    induction k with
    | zero =>
      intro _
      cases hw : w.length with
      | zero =>
        show ((List.range 1).flatMap fun l => wdM acc mv l 0)[0 + rkM acc mv 0 w]? = some w
        rw [hw] at hr
        rw [Nat.zero_add]
        show (wdM acc mv 0 0 ++ [])[rkM acc mv 0 w]? = some w
        rw [List.append_nil]
        exact hr
      | succ m =>
        rw [Nat.add_zero, allM_succ]
        rw [hw] at hr
        have hl := allM_len acc mv m
        rw [List.getElem?_append_right (by rw [hl]; exact Nat.le_add_right _ _), hl, Nat.add_sub_cancel_left]
        exact hr
    | succ k ih =>
      intro hk
      have := ih (by omega)
      rw [show w.length + (k + 1) = w.length + k + 1 by omega, allM_succ, List.getElem?_append_left (List.getElem?_eq_some_iff.mp this).1]
      exact this
  have := base (n - w.length) (by omega)
  rw [show w.length + (n - w.length) = n by omega] at this
  exact this
end My
namespace My
open PySem PySem.Spec PyProof.Rows L2
/-! ### counting over sets of places -/
def stepO (e : E) (o : OS) (c : Nat) : Option OS := if nxS e o c = [] then none else some (some (nxS e o c))
def upS (e : E) (g : OS → Nat) (o : OS) : Nat := (lets4.map fun c => (stepO e o c).elim 0 g).sum
def cntS (e : E) : Nat → OS → Nat
  | 0, o => if endO e o then 1 else 0
  | n + 1, o => upS e (cntS e n) o
def wdS (e : E) : Nat → OS → List (List Nat)
  | 0, o => if endO e o then [[]] else []
  | n + 1, o => lets4.flatMap fun c => match stepO e o c with
    | some t => (wdS e n t).map (c :: ·)
    | none => []
theorem wdS_len (e : E) : ∀ n o, (wdS e n o).length = cntS e n o
  | 0, o => by
    rw [wdS, cntS]
    split <;> rfl
  | n + 1, o => by
    rw [wdS, cntS, upS, List.length_flatMap]
    congr 2
    funext c
    cases stepO e o c with
    | none => rfl
    | some t =>
      show ((wdS e n t).map (c :: ·)).length = _
      rw [List.length_map, wdS_len e n t]
      rfl
theorem runO_cons (e : E) (o : OS) (c : Nat) (u : List Nat) : runO e o (c :: u) = runO e (some (nxS e o c)) u := rfl
theorem wdS_mem {e : E} : ∀ {n : Nat} {o : OS} {u : List Nat}, u ∈ wdS e n o ↔ u.length = n ∧ LetsN u ∧ endO e (runO e o u) = true
  | 0, o, u => by
    rw [wdS]
    constructor
    · intro h
      by_cases c : endO e o = true
      · rw [if_pos c] at h
        obtain rfl := List.mem_singleton.mp h
        exact ⟨rfl, (fun d hd => nomatch hd), c⟩
      · rw [if_neg c] at h
        cases h
    · rintro ⟨h1, _, h2⟩
      obtain rfl := List.length_eq_zero_iff.mp h1
      have h2 : endO e o = true := h2
      rw [if_pos h2]
      exact List.mem_singleton.mpr rfl
  | n + 1, o, u => by
    rw [wdS, List.mem_flatMap]
    constructor
    · rintro ⟨c, hc, h⟩
      unfold stepO at h
      by_cases k : nxS e o c = []
      · rw [if_pos k] at h
        cases h
      · rw [if_neg k] at h
        obtain ⟨v, hv, rfl⟩ := List.mem_map.mp h
        obtain ⟨h1, h2, h3⟩ := wdS_mem.mp hv
        refine ⟨by rw [List.length_cons, h1], fun d hd => ?_, h3⟩
        rcases List.mem_cons.mp hd with rfl | hd
        · exact hc
        · exact h2 d hd
    · rintro ⟨h1, h2, h3⟩
      cases u with
      | nil => cases h1
      | cons c v =>
        rw [runO_cons] at h3
        refine ⟨c, h2 c (List.mem_cons_self ..), ?_⟩
        unfold stepO
        by_cases k : nxS e o c = []
        · rw [k, runO_dead] at h3
          cases h3
        · rw [if_neg k]
          exact List.mem_map.mpr ⟨v, wdS_mem.mpr ⟨Nat.succ.inj h1, fun d hd => h2 d (List.mem_cons_of_mem _ hd), h3⟩, rfl⟩
theorem wdS_asc (e : E) : ∀ n o, (wdS e n o).Pairwise wltB
  | 0, o => by
    rw [wdS]
    split
    · exact List.pairwise_singleton _ _
    · exact .nil
  | n + 1, o => by
    rw [wdS]
    refine pw_flat (S := (· < ·)) _ lets4 (by decide) (fun c _ => ?_) (fun c _ d _ hcd u hu v hv => ?_)
    · cases stepO e o c with
      | none => exact .nil
      | some t =>
        show ((wdS e n t).map (c :: ·)).Pairwise wltB
        rw [List.pairwise_map]
        exact (wdS_asc e n t).imp fun h => .inr ⟨rfl, h⟩
    · cases h1 : stepO e o c with
      | none => rw [h1] at hu; cases hu
      | some t =>
        cases h2 : stepO e o d with
        | none => rw [h2] at hv; cases hv
        | some s =>
          rw [h1] at hu
          rw [h2] at hv
          obtain ⟨_, _, rfl⟩ := List.mem_map.mp hu
          obtain ⟨_, _, rfl⟩ := List.mem_map.mp hv
          exact .inl hcd
def allS (e : E) (n : Nat) : List (List Nat) := (List.range (n + 1)).flatMap fun l => wdS e l none
theorem allS_rl (e : E) (n : Nat) : RLs (MW e) n (allS e n) where
  asc := by
    refine pw_flat (S := (· < ·)) _ _ List.pairwise_lt_range (fun l _ => ?_) (fun l _ m _ hlm u hu v hv => .inl ?_)
    · refine (wdS_asc e l none).imp_of_mem fun {u v} hu hv h => .inr ⟨?_, h⟩
      rw [(wdS_mem.mp hu).1, (wdS_mem.mp hv).1]
    · rw [(wdS_mem.mp hu).1, (wdS_mem.mp hv).1]
      exact hlm
  mem := fun u => by
    unfold allS
    rw [List.mem_flatMap]
    constructor
    · rintro ⟨l, hl, hu⟩
      obtain ⟨h1, h2, h3⟩ := wdS_mem.mp hu
      have := List.mem_range.mp hl
      exact ⟨h2, by omega, runO_mw u |>.mp h3⟩
    · rintro ⟨h1, h2, h3⟩
      exact ⟨u.length, List.mem_range.mpr (by omega), wdS_mem.mpr ⟨rfl, h1, (runO_mw u).mpr h3⟩⟩
theorem allS_len (e : E) (n : Nat) : (allS e n).length = ((List.range (n + 1)).map fun l => cntS e l none).sum := by
  unfold allS
  rw [List.length_flatMap]
  congr 2
  funext l
  exact wdS_len e l none
/-! ### sums over a dict of numbers -/
abbrev AL := List (OS × Nat)
def IL (kvs : AL) (g : OS → Nat) : Nat := (kvs.map fun p => p.2 * g p.1).sum
theorem IL_nil (g : OS → Nat) : IL [] g = 0 := rfl
theorem IL_app (a b : AL) (g : OS → Nat) : IL (a ++ b) g = IL a g + IL b g := by
  unfold IL
  rw [List.map_append, List.sum_append]
theorem IL_one (o : OS) (n : Nat) (g : OS → Nat) : IL [(o, n)] g = n * g o := rfl
abbrev SN := List (List Nat × Nat)
def someL (ps : SN) : AL := ps.map fun p => (some p.1, p.2)
def dtS (ps : SN) : List (List L2.Key × V) := ps.map fun p => (keyS p.1, V.int ((p.2 : Nat) : Int))
def getS : SN → List Nat → Option Nat
  | [], _ => none
  | p :: ps, s => if p.1 = s then some p.2 else getS ps s
def addS : SN → List Nat → Nat → SN
  | [], s, n => [(s, n)]
  | p :: ps, s, n => if p.1 = s then (p.1, p.2 + n) :: ps else p :: addS ps s n
theorem dtS_get : ∀ (ps : SN) (s : List Nat), valV (dtS ps) (keyS s) = (getS ps s).map fun n => V.int ((n : Nat) : Int)
  | [], s => rfl
  | p :: ps, s => by
    show valV ((keyS p.1, V.int ((p.2 : Nat) : Int)) :: dtS ps) (keyS s) = _
    rw [getS]
    by_cases h : p.1 = s
    · rw [if_pos h, valV_pos (by rw [h])]
      rfl
    · rw [if_neg h, valV_neg fun k => h (keyS_inj k)]
      exact dtS_get ps s
theorem getS_mem : ∀ {ps : SN} {s : List Nat} {n : Nat}, getS ps s = some n → (s, n) ∈ ps
  | p :: ps, s, n, h => by
    rw [getS] at h
    by_cases k : p.1 = s
    · rw [if_pos k] at h
      obtain rfl := Option.some.inj h
      rw [← k]
      exact List.mem_cons_self ..
    · rw [if_neg k] at h
      exact List.mem_cons_of_mem _ (getS_mem h)
theorem getS_of : ∀ {ps : SN} {s : List Nat} {n : Nat}, (ps.map (·.1)).Nodup → (s, n) ∈ ps → getS ps s = some n
  | p :: ps, s, n, nd, h => by
    rw [List.map_cons, List.nodup_cons] at nd
    rw [getS]
    rcases List.mem_cons.mp h with rfl | h
    · rw [if_pos rfl]
    · rw [if_neg fun k => nd.1 (by rw [k]; exact List.mem_map.mpr ⟨_, h, rfl⟩)]
      exact getS_of nd.2 h
theorem addS_keys : ∀ (ps : SN) (s : List Nat) (n : Nat), (addS ps s n).map (·.1) = if s ∈ ps.map (·.1) then ps.map (·.1) else ps.map (·.1) ++ [s]
  | [], s, n => rfl
  | p :: ps, s, n => by
    rw [addS]
    by_cases h : p.1 = s
    · rw [if_pos h, if_pos (by rw [← h]; exact List.mem_cons_self ..)]
      rfl
    · rw [if_neg h, List.map_cons, addS_keys ps s n, List.map_cons]
      by_cases k : s ∈ ps.map (·.1)
      · rw [if_pos k, if_pos (List.mem_cons_of_mem _ k)]
      · rw [if_neg k, if_neg fun z => (List.mem_cons.mp z).elim (fun z => h z.symm) k]
        rfl
theorem addS_nd {ps : SN} {s : List Nat} {n : Nat} (h : (ps.map (·.1)).Nodup) : ((addS ps s n).map (·.1)).Nodup := by
  rw [addS_keys]
  split
  · exact h
  · rw [List.nodup_append]
    refine ⟨h, List.nodup_cons.mpr ⟨(fun z => nomatch z), List.nodup_nil⟩, fun a ha b hb => ?_⟩
    rw [List.mem_singleton.mp hb]
    intro e
    subst e
    contradiction
theorem addS_sub {ps : SN} {s : List Nat} {n : Nat} {t : List Nat} (h : t ∈ (addS ps s n).map (·.1)) : t ∈ ps.map (·.1) ∨ t = s := by
  rw [addS_keys] at h
  split at h
  · exact .inl h
  · rcases List.mem_append.mp h with h | h
    · exact .inl h
    · exact .inr (List.mem_singleton.mp h)
theorem putK_cons {κ : Type} [DecidableEq κ] {p : κ × V} {ps : List (κ × V)} {k : κ} {y : V} (h : ¬ p.1 = k) : putK (p :: ps) k y = p :: putK ps k y := by
  unfold putK
  rw [List.any_cons, decide_eq_false h, Bool.false_or]
  split
  · rw [List.map_cons, if_neg h]
  · rfl
theorem putK_head {κ : Type} [DecidableEq κ] {p : κ × V} {ps : List (κ × V)} {y : V} (h : p.1 ∉ ps.map (·.1)) : putK (p :: ps) p.1 y = (p.1, y) :: ps := by
  unfold putK
  rw [List.any_cons, decide_eq_true rfl, Bool.true_or, if_pos rfl, List.map_cons, if_pos rfl]
  congr 1
  refine (List.map_congr_left fun q hq => ?_).trans (List.map_id _)
  rw [if_neg fun e => h (by rw [← e]; exact List.mem_map.mpr ⟨q, hq, rfl⟩)]
  rfl
theorem dtS_keys (ps : SN) : (dtS ps).map (·.1) = (ps.map (·.1)).map keyS := by
  unfold dtS
  rw [List.map_map, List.map_map]
  rfl
theorem dtS_add : ∀ {ps : SN} {s : List Nat} {n : Nat}, (ps.map (·.1)).Nodup → putK (dtS ps) (keyS s) (V.int ((((getS ps s).getD 0 + n : Nat)) : Int)) = dtS (addS ps s n)
  | [], s, n, _ => by
    show putK [] (keyS s) (V.int (((0 + n : Nat)) : Int)) = [(keyS s, V.int ((n : Nat) : Int))]
    rw [Nat.zero_add]
    rfl
  | p :: ps, s, n, nd => by
    rw [List.map_cons, List.nodup_cons] at nd
    rw [getS, addS]
    by_cases h : p.1 = s
    · subst h
      rw [if_pos rfl, if_pos rfl]
      show putK ((keyS p.1, V.int ((p.2 : Nat) : Int)) :: dtS ps) (keyS p.1) _ = (keyS p.1, V.int (((p.2 + n : Nat)) : Int)) :: dtS ps
      exact putK_head (p := (keyS p.1, V.int ((p.2 : Nat) : Int))) fun k => by
        rw [dtS_keys] at k
        obtain ⟨t, ht, e⟩ := List.mem_map.mp k
        rw [keyS_inj e] at ht
        exact nd.1 ht
    · rw [if_neg h, if_neg h]
      show putK ((keyS p.1, V.int ((p.2 : Nat) : Int)) :: dtS ps) (keyS s) _ = (keyS p.1, V.int ((p.2 : Nat) : Int)) :: dtS (addS ps s n)
      rw [putK_cons fun k => h (keyS_inj k), dtS_add nd.2]
theorem IL_add : ∀ {ps : SN} {s : List Nat} {n : Nat} (g : OS → Nat), IL (someL (addS ps s n)) g = IL (someL ps) g + n * g (some s)
  | [], s, n, g => by
    show n * g (some s) + 0 = 0 + _
    rw [Nat.zero_add, Nat.add_zero]
  | p :: ps, s, n, g => by
    rw [addS]
    by_cases h : p.1 = s
    · rw [if_pos h]
      show (p.2 + n) * g (some p.1) + IL (someL ps) g = p.2 * g (some p.1) + IL (someL ps) g + n * g (some s)
      rw [h, Nat.add_mul]
      omega
    · rw [if_neg h]
      show p.2 * g (some p.1) + IL (someL (addS ps s n)) g = p.2 * g (some p.1) + IL (someL ps) g + n * g (some s)
      rw [IL_add g]
      omega
end My
set_option maxHeartbeats 1000000
namespace My
open PySem PySem.Spec PyProof.Rows L2
/-! ### a dict with the one key None -/
def ODict0 (P : Program) (w : World) (d : Addr) : HO := .ext fun h => (d == sysModules) = false ∧ h.DictOf (leafKind P w) d []
def ODict (P : Program) (w : World) (d : Addr) (v : V) : HO := .ext fun h => (d == sysModules) = false ∧ ∃ u, RelV v u ∧ h.DictOf (leafKind P w) d [(Leaf.none, u)]
theorem odict0_ok {P : Program} {w : World} {H : Hp} {h : Heap} {d : Addr} (hd : (d == sysModules) = false) (m : h.DictOf (leafKind P w) d []) : ObjOk P w H h d (ODict0 P w d) := by
  have ⟨o, es, ep, h1, r⟩ := m
  refine ⟨⟨hd, m⟩, ⟨o, h1⟩, fun g1 g2 p k => ?_⟩
  obtain ⟨a1, o', es', ep', b1, b2⟩ := p
  exact ⟨a1, o', es', ep', k _ b1, b2⟩
theorem odict_ok {P : Program} {w : World} {H : Hp} {h : Heap} {d : Addr} {v : V} {u : Value} (hd : (d == sysModules) = false) (r : RelV v u) (m : h.DictOf (leafKind P w) d [(Leaf.none, u)]) : ObjOk P w H h d (ODict P w d v) := by
  have ⟨o, es, ep, h1, _⟩ := m
  refine ⟨⟨hd, u, r, m⟩, ⟨o, h1⟩, fun g1 g2 p k => ?_⟩
  obtain ⟨a1, u', r', o', es', ep', b1, b2⟩ := p
  exact ⟨a1, u', r', o', es', ep', k _ b1, b2⟩
def tDispO (P : Program) (w : World) (tk tv : TE) : TE := fun σ H Q => ∀ p, H p = none → tk σ (upd H p (ODict0 P w p)) fun x H1 => tv σ H1 fun y H2 => H2 p = some (ODict0 P w p) ∧ x = .non ∧ Q (.ref p) (upd H2 p (ODict P w p y))
theorem pe_dispO {X : Cx} {pos : Pos} {ke ve : Expr} {tk tv : TE} (hk : PE X ke tk) (hv : PE X ve tv) : PE X (.Dict [some ke] [ve] pos) (tDispO X.prog X.w tk tv) := by
  refine ⟨fun pins s σ H Q I q => ?_⟩
  have hn := I.hok.fresh (Nat.le_refl s.heap.objs.size)
  have hb : sysModules < s.heap.objs.size := Inv.big I
  have hd : (s.heap.objs.size == sysModules) = false := by
    rw [beq_eq_false_iff_ne]
    exact Nat.ne_of_gt hb
  have I1 := I.laid (a := s.heap.objs.size) (t' := s.toks) (fun _ _ q => Heap.get?_push_of_some _ q) (Nat.le_refl _) (odict0_ok (P := X.prog) (w := X.w) (H := upd H s.heap.objs.size (ODict0 X.prog X.w s.heap.objs.size)) hd (Heap.DictOf.new (knd := leafKind X.prog X.w) s.heap))
  rw [arm_eval_Dict, zip_pairTrees [some ke] [ve] X.env pos rfl rfl, dictDisplay_pairs (pairTrees [some ke] [ve] X.env pos) (by intro c; cases c) (by show 1 < 17; decide)]
  refine wpAny_bind (wpAny_standAt (wpAny_bind (wpAny_subDict (knd := leafKind X.prog X.w) (by show 1 ≤ 15; decide) ?_)))
  refine pairTrees_cons_walk (thn (hk.run pins _ σ _ _ I1 (q _ hn)) fun u s1 ⟨x, H1, I2, rx, q1⟩ => thn (hv.run pins s1 σ H1 _ I2 q1) fun w2 s2 ⟨y, H2, I3, ry, e, ex, q2⟩ => pairTrees_nil_walk ?_)
  subst ex
  obtain rfl : u = Value.none := rx
  obtain ⟨⟨_, m⟩, _, _⟩ := (show ObjOk X.prog X.w H2 s2.heap s.heap.objs.size (ODict0 X.prog X.w s.heap.objs.size) from I3.hok _ _ e)
  refine ⟨[(Leaf.none, w2)], ⟨rfl, rfl, trivial⟩, m, fun h' dd' hs => wpAny_pure ⟨.ref s.heap.objs.size, _, ?_, rfl, q2⟩⟩
  have dd2 : h'.DictOf (leafKind X.prog X.w) s.heap.objs.size [(Leaf.none, w2)] := dd'
  have he : ∃ q, h'.get? s.heap.objs.size = some q := let ⟨q, _, _, hq, _⟩ := dd'; ⟨q, hq⟩
  exact d_write I3 (by rw [e]; exact True.intro) hs he (odict_ok hd ry dd2)
/-- what stands under None -/
def RdO (P : Program) (w : World) (H : Hp) (a : Addr) (v : V) : Prop := H a = some (ODict P w a v) ∨ ∃ o, H a = some (.frz o (ODict P w a v))
theorem rdO_at {X : Cx} {pins : List (Addr × Obj)} {σ : L2.St} {H : Hp} {s : Shared} {a : Addr} {v : V} (I : Inv X pins σ H s) (h : RdO X.prog X.w H a v) : ∃ u, RelV v u ∧ s.heap.DictOf (leafKind X.prog X.w) a [(Leaf.none, u)] := by
  rcases h with h | ⟨o, h⟩
  · obtain ⟨⟨_, u, r, m⟩, _, _⟩ := (show ObjOk X.prog X.w H s.heap a (ODict X.prog X.w a v) from I.hok _ _ h)
    exact ⟨u, r, m⟩
  · obtain ⟨_, ⟨_, u, r, m⟩, _, _⟩ := (show ObjOk X.prog X.w H s.heap a (.frz o (ODict X.prog X.w a v)) from I.hok _ _ h)
    exact ⟨u, r, m⟩
def tGetO (P : Program) (w : World) (td ty : TE) : TE := fun σ H Q => td σ H fun x H1 => ty σ H1 fun y H2 => ∃ a v, x = .ref a ∧ (DGet H2 a y (some v) ∨ (y = .non ∧ RdO P w H2 a v)) ∧ Q v H2
theorem pe_getO {X : Cx} {P : Program} {w : World} {o i : Expr} {td ty : TE} {pos : Pos} (hP : X.prog = P) (hw : X.w = w) (hu : X.A.units + 1 < cLine) (ho : PE X o td) (hi : PE X i ty) (hs : NoSl i) : PE X (.Subscript o i pos) (tGetO P w td ty) := by
  subst hP hw
  refine ⟨fun pins s σ H Q I h => ?_⟩
  refine subD_of PySem.F.slot_dict_getitem.lookup hs (thn (ho.run pins s σ H _ I h) fun u s1 ⟨x, H1, I1, rx, q1⟩ => thn (hi.run pins s1 σ H1 _ I1 q1) fun iv s2 ⟨y, H2, I2, ry, a, v, ex, g, q2⟩ => ?_)
  subst ex
  obtain rfl : u = Value.ref a := rx
  rcases g with g | ⟨rfl, g⟩
  · exact ⟨dict_typeIs I2 g, d_getItem hu I2 g ry fun w' s3 I3 rw' => ⟨v, H2, I3, rw', q2⟩⟩
  · obtain ⟨u, ru, m⟩ := rdO_at I2 g
    obtain rfl : iv = Value.none := ry
    exact ⟨m.typeIs, wpAny_getItem_of (knd := leafKind X.prog X.w) (k := Leaf.none) rfl m.mapOf rfl ⟨v, H2, I2.tok _, ru, q2⟩⟩
/-- the one key of the locked dict -/
def ItO (P : Program) (w : World) (d : Addr) (o : Obj) (v : V) : It :=
  ⟨fun i H => H d = some (.frz o (ODict P w d v)) ∧ i < 1, fun i H x H' => H' = H ∧ x = .non, fun i H => H d = some (.frz o (ODict P w d v)) ∧ 1 ≤ i⟩
theorem frzO {X : Cx} {pins : List (Addr × Obj)} {σ : L2.St} {H : Hp} {s : Shared} {d : Addr} {o : Obj} {v : V} (I : Inv X pins σ H s) (h : H d = some (.frz o (ODict X.prog X.w d v))) :
    (d == sysModules) = false ∧ s.heap.get? d = some o ∧ o.ExactDict ∧ ∃ (es : Array DictEntry) (ep : Nat) (en : DictEntry), o.data = .dict es ep ∧ es.size = 1 ∧ es[0]? = some en ∧ en.key = Value.none := by
  obtain ⟨hg, ⟨hs, u, r, o', es, ep, ho, hx, hdt, hk, pr, _⟩, _, _⟩ := (show ObjOk X.prog X.w H s.heap d (.frz o (ODict X.prog X.w d v)) from I.hok _ _ h)
  rw [hg] at ho
  cases ho
  have hl : es.toList.length = 1 := pr.length
  refine ⟨hs, hg, hx, es, ep, ?_⟩
  have : ∃ en : DictEntry, es[0]? = some en ∧ en.key = Value.none := by
    obtain ⟨l⟩ := es
    cases l with
    | nil => cases hl
    | cons en l =>
      refine ⟨en, rfl, ?_⟩
      have pr : Pairs (leafKind X.prog X.w) (en :: l) [(Leaf.none, u)] := pr
      cases pr with
      | cons h _ =>
        have h : Leaf.isOf Leaf.none en.key = true := by first | exact h | exact h.1
        cases hk : en.key <;> rw [hk] at h <;> first | rfl | cases h
  obtain ⟨en, h1, h2⟩ := this
  exact ⟨en, hdt, by rw [← Array.length_toList]; exact hl, h1, h2⟩
section
variable {P : Program} {w : World} {K : PySem.W.Frag} {tg : Expr} {d : Addr} {o : Obj} {es : Array DictEntry} {ep : Nat}
theorem turn_keysO {v : V} (it : Addr) (hod : o.data = .dict es ep) : Turn P w K tg (ItO P w d o v) [it] it (fun i h => h.IsKeyIter it d i 1 ep) where
  mem := by simp
  obj := fun i h st b hb => by
    have e : b = it := by simpa using hb
    subst e
    obtain ⟨oi, e, c, dd⟩ := st
    exact ⟨oi, e, fun v z => by rw [dd] at z; cases z⟩
  keep := fun i h h' st k => st.at fun oi e => k it (by simp) oi e
  item := by
    intro X hP hw hK hc i pins s σ H E I hf st hg
    subst hP hw hK
    obtain ⟨hd, hi⟩ := hg
    obtain rfl : i = 0 := by omega
    obtain ⟨f0, f1, f2, f3, f4, f5⟩ := hf it (by simp)
    obtain ⟨hs, hgd, hx, es', ep', en, hdt, hsz, hen, hkey⟩ := frzO I hd
    obtain ⟨rfl, rfl⟩ := dict_ep hod hdt
    refine next_key_item st hgd hdt hsz hen fun h' st' sb => ?_
    have I1 : Inv X pins σ H { s with heap := h' } := I.turned (t' := s.toks) (fun b ob hb e => (sb.2 b hb).trans e) f0 f1 f3 f4 f5
    obtain ⟨oi, e, c, dd⟩ := id st'
    exact ⟨en.key, rfl, go_of (s := { s with heap := h' }) e c dd (by decide) ⟨.non, H, I1, hkey, ⟨rfl, rfl⟩, st', fun b hb => (hf b hb).1⟩⟩
  done := by
    intro X hP hw hK hc i pins s σ H E I hf st hg
    subst hP hw hK
    obtain ⟨hd, hi⟩ := hg
    obtain ⟨f0, f1, f2, f3, f4, f5⟩ := hf it (by simp)
    obtain ⟨hs, hgd, hx, es', ep', en, hdt, hsz, hen, hkey⟩ := frzO I hd
    obtain ⟨rfl, rfl⟩ := dict_ep hod hdt
    exact next_key_end (I.ok.hd hc) st hgd hdt hsz hi fun h' eb => ⟨rfl, I.turned (t' := s.toks) (fun b ob hb e => eb b ob hb e) f0 f1 f3 f4 f5⟩
  self := fun A i s Q E st h => by
    refine wpAny_pyIter_slot st.typeIs F.slot_dict_keyiterator_iter (wpAny_call_entry F.slot_dict_keyiterator_iter st.typeIs F.entry_dict_keyiterator_iter ?_ (F.args_dict_keyiterator_iter_1 _))
    show wpAny _ _ (ret (.ref it)) _ _ s
    exact wpAny_pure ⟨_, rfl, "dict_keyiterator", _, st.typeIs, F.slot_dict_keyiterator_next.lookup, h⟩
end
/-- over the keys of a locked dict: of tuples, or the one with the key None -/
def iKeysO (P : Program) (w : World) (td : TE) : L2.TI := fun σ H R => td σ H fun x H1 => ∃ d o, x = .ref d ∧ ((∃ kvs, H1 d = some (.frz o (.dT kvs)) ∧ R (Itkt d o kvs) H1) ∨ ∃ v, H1 d = some (.frz o (ODict P w d v)) ∧ R (ItO P w d o v) H1)
theorem pi_keysO {X : Cx} {P : Program} {w : World} {tg e : Expr} {td : TE} (hP : X.prog = P) (hw : X.w = w) (he : PE X e td) : PI X tg e (iKeysO P w td) := by
  subst hP hw
  refine ⟨fun pins s σ H R I h => ?_⟩
  refine thn (he.run pins s σ H _ I h) fun u s1 ⟨x, H1, I1, rx, d, o, ex, q⟩ => ?_
  subst ex
  obtain rfl : u = Value.ref d := rx
  rcases q with ⟨kvs, hd, q⟩ | ⟨v, hd, q⟩
  · obtain ⟨hs, hgd, hx, es, ep, hdt, hsz, ent⟩ := I1.frzT hd
    refine iter_keys hs hgd hx hdt (pi_one (tk := s1.toks) I1 _ (turn_keysT _ hdt) ⟨_, Heap.get?_push_size _ rfl, rfl, ?_⟩ q)
    rw [hsz] <;> rfl
  · obtain ⟨hs, hgd, hx, es, ep, en, hdt, hsz, hen, hkey⟩ := frzO I1 hd
    refine iter_keys hs hgd hx hdt (pi_one (tk := s1.toks) I1 _ (turn_keysO _ hdt) ⟨_, Heap.get?_push_size _ rfl, rfl, ?_⟩ q)
    rw [hsz] <;> rfl
theorem walk_keysO {P : Program} {w : World} {d : Addr} {o : Obj} {v : V} : Walk (ItO P w d o v) 1 (fun H => H d = some (.frz o (ODict P w d v))) (fun i H x H' => H' = H ∧ x = .non) :=
  ⟨fun _ _ hi q => ⟨q, hi⟩, fun _ q => ⟨q, Nat.le_refl _⟩, fun _ _ _ _ _ _ y => y⟩
end My
namespace My
open PySem PySem.Spec PyProof.Rows L2
/-! ### where a sign stands in a text -/
def rIdxS : V → List V → Hp → VK → Prop := fun x xs H Q => ∃ (a b : Str) (k : Nat), x = .str a ∧ xs = [.str b] ∧ (∃ rest, Builtin.Str.occurrences a b 0 a.length 1 = k :: rest) ∧ Q (.int (k : Nat)) H
theorem mt_idxS {X : Cx} : MtR X "str.index" rIdxS := by
  intro pins s σ H x xs v us Q I rx rs h
  obtain ⟨a, b, k, rfl, rfl, ⟨rest, q⟩, h⟩ := h
  obtain ⟨t, rfl⟩ := rx
  cases rs with
  | cons r1 rs =>
    cases rs
    obtain ⟨u, rfl⟩ := r1
    exact PySem.SC.index q ⟨.int (k : Nat), H, I.tok _, ⟨_, rfl⟩, h⟩
theorem ip_addS {X : Cx} : PIp X .Add (fun x y H Q => ∃ i j, x = .str i ∧ y = .str j ∧ i.length + j.length ≤ sizeLine ∧ Q (.str (i ++ j)) H) := by
  intro pins s σ H x y v u Q I rx ry h
  obtain ⟨i, j, rfl, rfl, hz, q⟩ := h
  obtain ⟨t, rfl⟩ := rx
  obtain ⟨t', rfl⟩ := ry
  exact iadd_str (fun t' tk => ⟨.str (i ++ j), H, I.tok _, ⟨_, rfl⟩, q⟩) hz
/-- a list or a tuple -/
def iSeqC (K : PySem.W.Frag) (tl : TE) : L2.TI := fun σ H R => iList K tl σ H R ∨ iTup K tl σ H R
theorem pi_seqC {X : Cx} {tg l : Expr} {tl : TE} (hl : PE X l tl) : PI X tg l (iSeqC X.K tl) := by
  refine ⟨fun pins s σ H R I h => ?_⟩
  rcases h with h | h
  · exact (pi_list hl).run pins s σ H R I h
  · exact (pi_tup hl).run pins s σ H R I h
theorem pt_truthK {X : Cx} {K : PySem.W.Frag} {a : Expr} {ta : TE} (hK : X.K = K) (ha : PE X a ta) (he : ∀ whole, isTrue a X.env whole = (do let v ← whole; standAt a.pos; holding [v] (truthy v))) : PT X a (fun σ H Q => ta σ H fun x H' => ∃ k, TruV K x H' k ∧ Q k H') := by
  subst hK
  exact pt_truth ha he
def IsSq (K : PySem.W.Frag) (a : Addr) (H : Hp) (xs : List V) (J : It) : Prop := (J = Itl K a ∧ H a = some (.lst xs)) ∨ (J = Itt K a ∧ H a = some (.tup xs))
theorem seqC_go {K : PySem.W.Frag} {a : Addr} {H : Hp} {xs : List V} {tl : TE} {σ : L2.St} {R : It → Hp → Prop} (h : H a = some (.lst xs) ∨ H a = some (.tup xs)) (htl : ∀ Q : VK, Q (.ref a) H → tl σ H Q) (hR : ∀ J, IsSq K a H xs J → R J H) : iSeqC K tl σ H R := by
  rcases h with h | h
  · exact .inl (htl _ ⟨a, rfl, ⟨_, SqL.of h⟩, hR _ (.inl ⟨rfl, h⟩)⟩)
  · exact .inr (htl _ ⟨a, rfl, ⟨_, SqT.of h⟩, hR _ (.inr ⟨rfl, h⟩)⟩)
theorem lc_sq {K : PySem.W.Frag} {a : Addr} {H : Hp} {xs : List V} {J : It} (hJ : IsSq K a H xs J) {g : TG} {tt : TT} {te : TE} {vs : List Nat} {σ : L2.St} {H1 : Hp} {D : Addr} {Qd : Hp → Prop} (Pv : Nat → Hp → Prop) (h0 : Pv 0 (upd H1 D (.lst []))) (hl : ∀ i H', i ≤ xs.length → Pv i H' → ∀ u, H a = some u → H' a = some u)
    (hs : ∀ i x H, xs[i]? = some x → Pv i H → g x (wipe σ vs) H fun σ2 H2 => wipe σ2 vs = wipe σ vs ∧ tt σ2 H2 fun b H3 =>
      if b = true then te σ2 H3 fun y H4 => ∃ acc, H4 D = some (.lst acc) ∧ acc.length < sizeLine ∧ Pv (i + 1) (upd H4 D (.lst (acc ++ [y]))) else Pv (i + 1) H3) (hd : ∀ H, Pv xs.length H → Qd H) :
    ∃ W : Nat → Nat → Hp → Prop, (∃ m, W 0 m (upd H1 D (.lst []))) ∧ ∀ i m H, W i m H →
      (J.stop i H ∧ Qd H) ∨ (J.go i H ∧ ∃ Nx : Hp → Prop, (∀ H', Nx H' → ∃ m', m' < m ∧ W (i + 1) m' H') ∧ ∀ x H', J.yld i H x H' → g x (wipe σ vs) H' fun σ2 H2 => wipe σ2 vs = wipe σ vs ∧ tt σ2 H2 fun b H3 =>
        if b = true then te σ2 H3 fun y H4 => ∃ acc, H4 D = some (.lst acc) ∧ acc.length < sizeLine ∧ Nx (upd H4 D (.lst (acc ++ [y]))) else Nx H3) := by
  rcases hJ with ⟨rfl, h⟩ | ⟨rfl, h⟩
  · exact lc_list Pv h0 (fun i H' hi p => SqL.of (hl i H' hi p _ h)) hs hd
  · exact lc_tup Pv h0 (fun i H' hi p => SqT.of (hl i H' hi p _ h)) hs hd
end My
namespace My
open PySem PySem.Spec PyProof.Rows L2
/-! ### defs that errors leave -/
structure ClX (P : Program) (w : World) (K : PySem.W.Frag) (mg : Str → Option Value) (base : Heap) (k : Nat) (x : Str) (ps : List Str) (sp : Sp) : Prop where
  ex : ∃ (f : Addr) (fd : FuncData), FnOk P w K mg base (L2.CX P w) k f fd ps sp ∧ Binds K fd ps [] ∧ mg x = some (.ref f) ∧ PySem.W.keepIn K (.ref f) = true
theorem Df.clX {P : Program} {w : World} {K : PySem.W.Frag} {mg : Str → Option Value} {base : Heap} {x : Str} {st : Stmt} {ps : List Str} {f : Addr} {fd : FuncData} {k : Nat} {sp : Sp} (D : Df K mg x st ps f fd) (h : FnOk P w K mg base (L2.CX P w) k f fd ps sp) : ClX P w K mg base k x ps sp :=
  ⟨f, fd, h, D.b, D.g, D.F.kp⟩
theorem pe_clS {X : Cx} {W : WX} {k : Nat} {x : Str} {ps : List Str} {sp : Sp} {p pos : Pos} {e : Expr} {es : List Expr} {t : TA} (C : ClX X.prog X.w X.K X.mg X.base k x ps sp) (tk : Takes X W) (hr : Room k X.A) (hg : L2.Gl X x) (ha : PA X (e :: es) t)
    (hdb : (x == ("__debug__" : Str)) = false := by decide) (he : starEach (e :: es) X.env = (false, eval e X.env) :: starEach es X.env := by rfl) (hpl : (backTo pos (starEach es X.env)).any (·.1) = false := by rfl) :
    PE X (.Call (.Name x p) (e :: es) [] pos) (tCallS sp (WE W) t) := by
  obtain ⟨f, fd, F, b, m, kp⟩ := C.ex
  exact pe_callS F hr hg m kp b (fun σ => passAt tk σ) ha hdb he hpl
end My
namespace My
open PySem PySem.Spec PyProof.Rows L2
/-! ### a promise at a lower level serves at a higher one -/
theorem Cl.up {P : Program} {w : World} {K : PySem.W.Frag} {mg : Str → Option Value} {base : Heap} {k k' : Nat} {x : Str} {ps : List Str} {sp : Sp} (c : Cl P w K mg base k x ps sp) (h : k ≤ k') : Cl P w K mg base k' x ps sp := by
  obtain ⟨f, fd, F, b, m, kp⟩ := c.ex
  exact ⟨f, fd, ⟨F.len, fun A outer s H args us vs Q E hr => F.run A outer s H args us vs Q E (hr.mono h)⟩, b, m, kp⟩
theorem ClX.up {P : Program} {w : World} {K : PySem.W.Frag} {mg : Str → Option Value} {base : Heap} {k k' : Nat} {x : Str} {ps : List Str} {sp : Sp} (c : ClX P w K mg base k x ps sp) (h : k ≤ k') : ClX P w K mg base k' x ps sp := by
  obtain ⟨f, fd, F, b, m, kp⟩ := c.ex
  exact ⟨f, fd, ⟨F.len, fun A outer s H args us vs Q E hr => F.run A outer s H args us vs Q E (hr.mono h)⟩, b, m, kp⟩
end My
namespace My
open PySem PySem.Spec PyProof.Rows L2
def topS (i : Nat) : Stmt := PySem.Challenge.pw_nodoubt_k30_counted_words.main.body.getD i (.Pass ⟨0, 0, 0, 0⟩)
abbrev s__wall : Stmt := topS 0
abbrev s_steps_of : Stmt := topS 6
abbrev s__ends_of : Stmt := topS 7
abbrev s__ends_of_leaf : Stmt := topS 8
abbrev s__ends_of_join : Stmt := topS 9
abbrev s__ends_of_or : Stmt := topS 10
abbrev s__link : Stmt := topS 11
abbrev s_is_number : Stmt := topS 12
abbrev s_by_letter : Stmt := topS 13
abbrev s_places_behind : Stmt := topS 14
abbrev s_is_expression : Stmt := topS 18
abbrev s_is_letter : Stmt := topS 19
abbrev s_check_expression : Stmt := topS 20
abbrev s_sizes_within : Stmt := topS 21
abbrev s__parts_of : Stmt := topS 22
abbrev s__is_row : Stmt := topS 23
abbrev s__begins_with : Stmt := topS 24
abbrev s_machine_of : Stmt := topS 29
abbrev s_has_last : Stmt := topS 30
abbrev s_sets_of : Stmt := topS 31
abbrev s__classes : Stmt := topS 32
abbrev s__numbered : Stmt := topS 33
abbrev s_count_words : Stmt := topS 34
abbrev s_counts_of : Stmt := topS 35
abbrev s__law_stream : Stmt := topS 37
abbrev s__law_next : Stmt := topS 38
abbrev s__law_is_integer : Stmt := topS 39
abbrev s__law_equal : Stmt := topS 40
abbrev s__law_put : Stmt := topS 41
abbrev s__law_expression : Stmt := topS 42
abbrev s__law_depth : Stmt := topS 43
abbrev s__law_parts : Stmt := topS 44
abbrev s__law_some : Stmt := topS 45
abbrev s__law_ends : Stmt := topS 46
abbrev s__law_is_right : Stmt := topS 47
abbrev s__law_texts : Stmt := topS 48
abbrev s__law_numbered : Stmt := topS 49
abbrev s__law_across : Stmt := topS 50
abbrev s__law_tables : Stmt := topS 51
abbrev s__law_behind : Stmt := topS 52
abbrev s__law_ending : Stmt := topS 53
abbrev s__law_counted : Stmt := topS 54
abbrev s_law : Stmt := topS 55
abbrev s_BadValue___init__ : Stmt := inClass (topS 3) 0
abbrev s_Steps___init__ : Stmt := inClass (topS 5) 0
abbrev s_Machine___init__ : Stmt := inClass (topS 28) 0
abbrev s_Machine_move : Stmt := inClass (topS 28) 1
abbrev s_Machine_run : Stmt := inClass (topS 28) 2
abbrev s_Machine_accepts : Stmt := inClass (topS 28) 3
abbrev s_Machine_takes : Stmt := inClass (topS 28) 4
theorem boot_isinstance : bootBuiltins "isinstance" = some (.builtin "isinstance") := by decide +kernel
theorem boot_all : bootBuiltins "all" = some (.builtin "all") := by decide +kernel
theorem boot_any : bootBuiltins "any" = some (.builtin "any") := by decide +kernel
theorem boot_sum : bootBuiltins "sum" = some (.builtin "sum") := by decide +kernel
theorem boot_len : bootBuiltins "len" = some (.builtin "len") := by decide +kernel
theorem boot_abs : bootBuiltins "abs" = some (.builtin "abs") := by decide +kernel
theorem boot_min : bootBuiltins "min" = some (.builtin "min") := by decide +kernel
theorem boot_max : bootBuiltins "max" = some (.builtin "max") := by decide +kernel
theorem boot_int : bootBuiltins "int" = some (.type "int") := by decide +kernel
theorem boot_str : bootBuiltins "str" = some (.type "str") := by decide +kernel
theorem boot_bool : bootBuiltins "bool" = some (.type "bool") := by decide +kernel
theorem boot_list : bootBuiltins "list" = some (.type "list") := by decide +kernel
theorem boot_tuple : bootBuiltins "tuple" = some (.type "tuple") := by decide +kernel
/-- the built-ins' names as the module leaves them, its constants -/
structure Bt (K : PySem.W.Frag) (mg : Str → Option Value) (a_BOUNDS a_LONG_BOUNDS : Addr) (tL tM : Tok) : Prop where
  b_ValueError : mg "ValueError" = none
  b_abs : mg "abs" = none
  b_all : mg "all" = none
  b_any : mg "any" = none
  b_bool : mg "bool" = none
  b_enumerate : mg "enumerate" = none
  b_int : mg "int" = none
  b_isinstance : mg "isinstance" = none
  b_len : mg "len" = none
  b_list : mg "list" = none
  b_max : mg "max" = none
  b_range : mg "range" = none
  b_set : mg "set" = none
  b_sorted : mg "sorted" = none
  b_str : mg "str" = none
  b_sum : mg "sum" = none
  b_super : mg "super" = none
  b_tuple : mg "tuple" = none
  g_LETTERS : mg "LETTERS" = some (.str "abcd" tL)
  g_BOUNDS : mg "BOUNDS" = some (.ref a_BOUNDS)
  tE : ∀ H : Hp, SqT K H a_BOUNDS [.int 8, .int 6, .int 24]
  e_MOST_COUNTED : ∃ t, mg "MOST_COUNTED" = some (.int 60 t)
  e_NO_STATE : ∃ t, mg "NO_STATE" = some (.int (-1) t)
theorem Bt.g_MOST_COUNTED {K : PySem.W.Frag} {mg : Str → Option Value} {a_BOUNDS a_LONG_BOUNDS : Addr} {tL tM : Tok} (B : Bt K mg a_BOUNDS a_LONG_BOUNDS tL tM) : mg "MOST_COUNTED" = some (.int 60 B.e_MOST_COUNTED.choose) := B.e_MOST_COUNTED.choose_spec
theorem Bt.g_NO_STATE {K : PySem.W.Frag} {mg : Str → Option Value} {a_BOUNDS a_LONG_BOUNDS : Addr} {tL tM : Tok} (B : Bt K mg a_BOUNDS a_LONG_BOUNDS tL tM) : mg "NO_STATE" = some (.int (-1) B.e_NO_STATE.choose) := B.e_NO_STATE.choose_spec
section
variable {P : Program} {w : World} {K : PySem.W.Frag} {mg : Str → Option Value} {base : Heap} {a_BOUNDS a_LONG_BOUNDS : Addr} {tL tM : Tok}
abbrev N__law_stream : List Str := ["script"]
theorem sc__law_stream : FnScope ["script"] ["script"] (defScope s__law_stream) := ⟨rfl, rfl, rfl, by decide +kernel, rfl, by decide +kernel, by decide +kernel⟩
theorem ok_stream {f : Addr} {fd : FuncData} (B : Bt K mg a_BOUNDS a_LONG_BOUNDS tL tM) (D : Df K mg "_law_stream" s__law_stream ["script"] f fd) : FnOk P w K mg base CX0 1 f fd ["script"] (spStream K) := by
  refine D.F.ok sc__law_stream (fun vs H Q E h => ?_) (fun cdv A outer s H vs Q E hr h => ?_)
  · obtain ⟨a, ns, rfl, _⟩ := h
    rfl
  obtain ⟨a, ns, rfl, hS, h63, q⟩ := h
  refine ⟨_, (pss_one (ps_ret (pe_lst (pa_cons (pe_callTy call_list_of rfl B.b_list boot_list (pa_cons (pv 0) pa_nil)) (pa_cons pe_int (pa_cons pe_int pa_nil)))))), ?_⟩
  refine ⟨_, rfl, a, _, rfl, .inl hS, fun l hl => ⟨by show 3 ≤ sizeLine; decide, fun p hp => ?_⟩⟩
  have n : l ≠ p := fun e => by
    rw [← e, upd_same] at hp
    cases hp
  exact q p _ ((same_upd hl).trans (same_upd hp)) ((same_upd hl).free hp) ⟨l, 0, 0, ns, upd_same, by rw [upd_ne n]; exact upd_same, n, Int.le_refl 0⟩
abbrev N__law_next : List Str := ["stream", "many", "k", "cell", "digit"]
theorem sc__law_next : FnScope ["stream", "many", "k", "cell", "digit"] ["stream", "many"] (defScope s__law_next) := ⟨rfl, rfl, rfl, by decide +kernel, rfl, by decide +kernel, by decide +kernel⟩
theorem ok_next {f : Addr} {fd : FuncData} (B : Bt K mg a_BOUNDS a_LONG_BOUNDS tL tM) (D : Df K mg "_law_next" s__law_next ["stream", "many"] f fd) : FnOk P w K mg base CX0 1 f fd ["stream", "many"] spNext := by
  refine D.F.ok sc__law_next (fun vs H Q E h => ?_) (fun cdv A outer s H vs Q E hr h => ?_)
  · obtain ⟨a, m, rfl, _⟩ := h
    rfl
  obtain ⟨a, m, rfl, hS, hm0, hm1, q⟩ := h
  obtain ⟨l, c, k, ns, h1, h2, h3, h4⟩ := id hS
  refine ⟨_, (C8.pss_cut (ps_if (pt_cmpR op_eq (pe_ix (r := rIxL K) ix_list (pv 0) pe_int (fun _ _ => rfl)) pe_int (nomark _)) (pss_cons (ps_set (i := 2) sc__law_next.nd rfl (Or.inl rfl) (pe_ix (r := rIxL K) ix_list (pv 0) pe_int (fun _ _ => rfl)))
    (pss_cons (ps_set (i := 3) sc__law_next.nd rfl (Or.inl rfl) (pe_op op_add pe_int (pv 2)))
    (C8.pss_cut (ps_if (pt_cmpR op_lt (pv 2) (pe_callB call_len rfl B.b_len boot_len (pa_cons (pe_ix (r := rIxL K) ix_list (pv 0) pe_int (fun _ _ => rfl)) pa_nil)) (nomark _)) (pss_one (ps_set (i := 3) sc__law_next.nd rfl (Or.inl rfl) (pe_callB call_abs rfl B.b_abs boot_abs (pa_cons (pe_ix (r := rIxL K) ix_list (pe_ix (r := rIxL K) ix_list (pv 0) pe_int (fun _ _ => rfl)) (pv 2) (fun _ _ => rfl)) pa_nil)))) pss_nil)
    (C8.pss_cut (ps_if (pt_cmpR op_lt (pv 3) (pe_op op_pow pe_int pe_int) (nomark _)) (pss_cons (ps_set (i := 3) sc__law_next.nd rfl (Or.inl rfl) (pe_op op_mod (pe_callTy call_int1 rfl B.b_int boot_int (pa_cons (pe_op op_add (pe_op op_add (pe_op op_mul (pv 3) pe_int) (pe_op op_mul (pv 2) pe_int)) pe_int) pa_nil)) pe_int))
    (pss_one (ps_set (i := 3) sc__law_next.nd rfl (Or.inl rfl) (pe_op op_add (pe_op op_mul (pe_op op_mod (pe_callTy call_int1 rfl B.b_int boot_int (pa_cons (pe_op op_add (pe_op op_mul (pv 3) pe_int) pe_int) pa_nil)) pe_int) pe_int) (pv 3))))) pss_nil)
    (pss_cons (ps_asg (pv 3) (pg_sub (pv 0) pe_int set_list))
    (pss_one (ps_asg (pe_op op_add (pv 2) pe_int) (pg_sub (pv 0) pe_int set_list)))))))) pss_nil)
    (pss_cons (ps_set (i := 4) sc__law_next.nd rfl (Or.inl rfl) (pe_op op_mod (pe_callTy call_int1 rfl B.b_int boot_int (pa_cons (pe_ix (r := rIxL K) ix_list (pv 0) pe_int (fun _ _ => rfl)) pa_nil)) (pv 1)))
    (pss_cons (ps_asg (pe_op op_fdiv (pe_ix (r := rIxL K) ix_list (pv 0) pe_int (fun _ _ => rfl)) (pv 1)) (pg_sub (pv 0) pe_int set_list))
    (pss_one (ps_ret (pv 4)))))), ?_⟩
  have m0 : ¬ m = 0 := by omega
  have at0 : ∀ (x y z : V), atI [x, y, z] 0 = some x := fun x y z => rfl
  have at1 : ∀ (x y z : V), atI [x, y, z] 1 = some y := fun x y z => rfl
  have at2 : ∀ (x y z : V), atI [x, y, z] 2 = some z := fun x y z => rfl
  refine ⟨fun σ' H' => ∃ kk cc c k, σ' = [some (.ref a), some (.int m), kk, cc, none] ∧ StrmW H' a l c k ns ∧ Keep a H H', ?_, ?_⟩
  · refine ⟨_, rfl, a, _, _, _, rfl, rfl, SqL.of h1, at1 _ _ _, rfl, _, rfl, ite2 (fun e => ?_) (fun e => ?_)⟩
    · -- a new cell
      refine ⟨_, rfl, a, _, _, _, rfl, rfl, SqL.of h1, at2 _ _ _, ?_⟩
      refine ⟨_, rfl, _, _, rfl, rfl, ?_⟩
      refine ⟨fun σ' H' => ∃ cc : Int, σ' = [some (.ref a), some (.int m), some (.int k), some (.int cc), none] ∧ H' = H, ?_, ?_⟩
      · refine ⟨_, rfl, _, rfl, a, _, _, _, rfl, rfl, SqL.of h1, at0 _ _ _, _, _, rfl, .inl ⟨_, SqL.of h2, rfl⟩, _, _, rfl, rfl, _, rfl, ite2 (fun e2 => ?_) (fun e2 => ?_)⟩
        · have e3 : k < ((ns.map V.int).length : Int) := of_decide_eq_true e2
          rw [List.length_map] at e3
          have hk : k.toNat < ns.length := by omega
          refine ⟨_, rfl, a, _, _, _, rfl, rfl, SqL.of h1, at0 _ _ _, _, rfl, l, _, k, .int ns[k.toNat], rfl, rfl, SqL.of h2, at_of (j := k.toNat) (by omega) (by rw [List.getElem?_map, List.getElem?_eq_getElem hk] <;> rfl), _, rfl, ?_⟩
          exact ⟨_, rfl, rfl⟩
        · exact ⟨_, rfl, rfl⟩
      · rintro σ' H' ⟨cc, rfl, rfl⟩
        refine ⟨fun σ' H'' => ∃ cc : Int, σ' = [some (.ref a), some (.int m), some (.int k), some (.int cc), none] ∧ H'' = H', ?_, ?_⟩
        · refine ⟨_, rfl, _, _, rfl, rfl, ⟨by decide, by decide, by decide⟩, _, _, rfl, rfl, _, rfl, ite2 (fun e2 => ?_) (fun e2 => ?_)⟩
          · refine ⟨_, rfl, _, _, rfl, rfl, .inr ⟨by decide, by decide⟩, _, rfl, _, _, rfl, rfl, .inr ⟨by decide, by decide⟩, _, _, rfl, rfl, _, _, rfl, rfl, .inl ⟨_, rfl, _, _, rfl, rfl, (by show (0 : Int) < 2147483647; decide), ?_⟩⟩
            refine ⟨_, rfl, _, _, rfl, rfl, .inr ⟨by decide, by decide⟩, _, _, rfl, rfl, .inl ⟨_, rfl, _, _, rfl, rfl, (by show (0 : Int) < 2147483647; decide), _, _, rfl, rfl, .inr ⟨by decide, by decide⟩, _, rfl, _, _, rfl, rfl, ?_⟩⟩
            exact ⟨_, rfl, rfl⟩
          · exact ⟨_, rfl, rfl⟩
        · rintro σ' H'' ⟨cc, rfl, rfl⟩
          refine ⟨_, rfl, _, rfl, a, _, _, _, rfl, rfl, h1, rfl, ?_⟩
          have u1 : ([.ref l, .int c, .int k] : List V).set 1 (.int cc) = [.ref l, .int cc, .int k] := rfl
          refine ⟨_, rfl, _, _, rfl, rfl, _, rfl, a, _, _, _, rfl, rfl, upd_same, rfl, ?_⟩
          exact ⟨_, _, cc, k + 1, rfl, ⟨upd_same, by rw [upd_ne h3, upd_ne h3]; exact h2, h3, by omega⟩, Keep.store.trans Keep.store⟩
    · exact ⟨_, _, c, k, rfl, ⟨h1, h2, h3, h4⟩, Keep.refl a H⟩
  · rintro σ' H' ⟨kk, cc, c, k, rfl, ⟨g1, g2, g3, g4⟩, kp⟩
    refine ⟨_, rfl, a, _, _, _, rfl, rfl, SqL.of g1, at1 _ _ _, .inl ⟨_, rfl, _, rfl, _, _, rfl, rfl, hm0, ?_⟩⟩
    refine ⟨_, rfl, a, _, _, _, rfl, rfl, SqL.of g1, at1 _ _ _, _, rfl, _, _, rfl, rfl, ⟨hm0, by omega⟩, _, rfl, a, _, _, _, rfl, rfl, g1, rfl, ?_⟩
    exact ⟨_, rfl, q _ _ (Int.emod_nonneg _ m0) (Int.emod_lt_of_pos _ hm0) ⟨kp.trans Keep.store, hS, fun l' c' k' ns' h' => by
      have e := h1.symm.trans h'.1
      cases e
      exact ⟨_, _, ns, upd_same, by rw [upd_ne g3]; exact g2, g3, g4⟩⟩⟩
end


/-! ### the looks at a datum -/
def spLetter : Sp := fun vs H Q _ => ∃ z : Str, vs = [.str z] ∧ z.length ≤ 1000 ∧ Q (.bl (isLet z)) H
def spBegins : Sp := fun vs H Q _ => ∃ v w d, vs = [v, .str w] ∧ Rep H v d ∧ headFlat d = true ∧ Q (.bl (begins w d)) H
def spIsRow : Sp := fun vs H Q _ => ∃ v w d, vs = [.str w, v] ∧ Rep H v d ∧ rowFlat d = true ∧ ∀ H', Same H H' → Q (.bl (rowOk w d)) H'
def PartsR (H : Hp) (r : V) : Option (List D) → Prop
  | none => r = .non
  | some ys => ∃ p vs, r = .ref p ∧ H p = some (.tup vs) ∧ Two (Rep H) vs ys
def spPartsOf : Sp := fun vs H Q _ => ∃ v d, vs = [v] ∧ Rep H v d ∧ Fl d ∧ ∀ r H', Same H H' → PartsR H' r (inner d) → Q r H'
def SizeR (H : Hp) (r : V) : Option Bnd → Prop
  | none => r = .non
  | some a => ∃ q, r = .ref q ∧ H q = some (.tup [.int a.1, .int a.2.1, .int a.2.2])
def spSizes (K : PySem.W.Frag) : Sp := fun vs H Q _ => ∃ (v : V) (d : D) (b : Addr) (B : Bnd), vs = [v, .ref b] ∧ Rep H v d ∧ Fl d ∧ d.size ≤ 1000000 ∧ SqT K H b [.int B.1, .int B.2.1, .int B.2.2] ∧ ∀ r H', Same H H' → SizeR H' r (sizesOf B d) → Q r H'
def spIs (B : Bnd) : Sp := fun vs H Q _ => ∃ (v : V) (d : D), vs = [v] ∧ Rep H v d ∧ Fl d ∧ d.size ≤ 1000000 ∧ ∀ H', Same H H' → Q (.bl (sizesOf B d).isSome) H'
section
variable {P : Program} {w : World} {K : PySem.W.Frag} {mg : Str → Option Value} {base : Heap} {a_BOUNDS a_LONG_BOUNDS : Addr} {tL tM : Tok}
theorem abcd_in (c : Nat) : (c ∈ (Str.ofString "abcd").cps.toList) ↔ 97 ≤ c ∧ c ≤ 100 := by
  have e : (Str.ofString "abcd").cps.toList = [97, 98, 99, 100] := by decide +kernel
  rw [e]
  simp
  omega
theorem isLet_one (c : Nat) : isLet ⟨#[c]⟩ = decide (c ∈ (Str.ofString "abcd").cps.toList) := by
  have e : isLet ⟨#[c]⟩ = (decide (97 ≤ c) && decide (c ≤ 100)) := rfl
  rw [e, ← Bool.decide_and]
  exact decide_eq_decide.mpr (abcd_in c).symm
abbrev N_is_letter : List Str := ["value"]
theorem sc_is_letter : FnScope ["value"] ["value"] (defScope s_is_letter) := ⟨rfl, rfl, rfl, by decide +kernel, rfl, by decide +kernel, by decide +kernel⟩
theorem ok_letter {f : Addr} {fd : FuncData} (B : Bt K mg a_BOUNDS a_LONG_BOUNDS tL tM) (D : Df K mg "is_letter" s_is_letter ["value"] f fd) : FnOk P w K mg base CX0 1 f fd ["value"] spLetter := by
  refine D.F.ok sc_is_letter (fun vs H Q E h => ?_) (fun cdv A outer s H vs Q E hr h => ?_)
  · obtain ⟨z, rfl, _⟩ := h
    rfl
  obtain ⟨z, rfl, hz, q⟩ := h
  refine ⟨_, (pss_one (ps_ret (pe_and (pe_callB call_isi rfl B.b_isinstance boot_isinstance (pa_cons (pv 0) (pa_cons (pe_bltn (v := .ty "str") rfl B.b_str boot_str rfl) pa_nil))) (pe_and (pe_cmpR op_eq (pe_callB call_len rfl B.b_len boot_len (pa_cons (pv 0) pa_nil)) pe_int (nomark _)) (pe_one (pe_cmpR op_in_sign (pv 0) (pe_glob (v := .str "abcd") rfl B.g_LETTERS ⟨_, rfl⟩) rfl)))))), ?_⟩
  have T1 : TyX K H (.str z) (.type "str") := .base (.str z)
  refine ⟨_, rfl, _, _, _, _, _, rfl, .ty _, T1, kit_ty (r := true) (by decide +kernel), _, rfl, iteT ?_⟩
  refine ⟨_, rfl, _, _, rfl, ⟨Nat.le_trans hz (by decide), rfl⟩, rfl, _, rfl, ite2 (fun e => ?_) (fun e => ?_)⟩
  · have e1 : V.int (z.length : Int) = V.int 1 := of_decide_eq_true e
    have e2 : z.cps.size = 1 := by
      have e3 : (z.length : Int) = 1 := V.int.inj e1
      have e4 : z.length = z.cps.size := rfl
      omega
    obtain ⟨⟨cs⟩⟩ := z
    match cs, e2 with
    | [c], _ =>
      refine ⟨_, rfl, _, _, rfl, rfl, ?_⟩
      rw [isLet_one] at q
      exact q
  · have e2 : isLet z = false := by
      unfold isLet
      split
      · rename_i c hc
        exfalso
        apply e
        refine decide_eq_true (congrArg V.int ?_)
        have : z.cps.size = 1 := by rw [← Array.length_toList, hc] <;> rfl
        show ((z.cps.size : Nat) : Int) = 1
        omega
      · rfl
    rw [e2] at q
    exact q
abbrev N__begins_with : List Str := ["value", "word"]
theorem sc__begins_with : FnScope ["value", "word"] ["value", "word"] (defScope s__begins_with) := ⟨rfl, rfl, rfl, by decide +kernel, rfl, by decide +kernel, by decide +kernel⟩
theorem ok_begins {f : Addr} {fd : FuncData} (B : Bt K mg a_BOUNDS a_LONG_BOUNDS tL tM) (D : Df K mg "_begins_with" s__begins_with ["value", "word"] f fd) : FnOk P w K mg base CX0 1 f fd ["value", "word"] spBegins := by
  refine D.F.ok sc__begins_with (fun vs H Q E h => ?_) (fun cdv A outer s H vs Q E hr h => ?_)
  · obtain ⟨v, w, d, rfl, _⟩ := h
    rfl
  obtain ⟨v, w, d, rfl, hR, hF, q⟩ := h
  refine ⟨_, (pss_one (ps_ret (pe_and (pe_callB call_isi rfl B.b_isinstance boot_isinstance (pa_cons (pv 0) (pa_cons (pe_bltn (v := .ty "tuple") rfl B.b_tuple boot_tuple rfl) pa_nil))) (pe_and (pe_cmpR op_gt (pe_callB call_len rfl B.b_len boot_len (pa_cons (pv 0) pa_nil)) pe_int (nomark _)) (pe_one (pe_cmpR op_eq (pe_ix (r := rIxT K) ix_tup (pv 0) pe_int (fun _ _ => rfl)) (pv 1) (nomark _))))))), ?_⟩
  obtain ⟨t, ht, _, k2⟩ := hR.ty (K := K)
  refine ⟨_, rfl, _, _, _, _, _, rfl, .ty _, ht, k2, _, rfl, ite2 (fun e => ?_) (fun e => ?_)⟩
  · cases d with
    | tup ds =>
      obtain ⟨p, xs, rfl, hp, hz, hX⟩ := hR.untup
      refine ⟨_, rfl, _, _, rfl, .inr ⟨_, SqT.of hp, rfl⟩, _, _, rfl, rfl, _, rfl, ite2 (fun e3 => ?_) (fun e3 => ?_)⟩
      · have e1 : (0 : Int) < ((xs.length : Nat) : Int) := of_decide_eq_true e3
        cases hX with
        | nil => exact absurd e1 (by decide)
        | @cons x y xs ys hxy ht =>
          refine ⟨_, rfl, p, _, 0, x, rfl, rfl, SqT.of hp, at_zero, _, rfl, ?_⟩
          cases hxy with
          | @str z hz =>
            refine ⟨rfl, ?_⟩
            have q1 : decide (V.str z = V.str w) = begins w (.tup (.str z :: ys)) := by
              rw [begins_tup]
              exact decide_eq_decide.mpr ⟨fun h => by cases h; rfl, fun h => by rw [h]⟩
            rw [q1]
            exact q
          | non => exact ⟨rfl, q⟩
          | bl b => exact ⟨rfl, q⟩
          | int i => exact ⟨rfl, q⟩
          | tup _ _ _ _ => exact absurd hF Bool.false_ne_true
          | lst _ => exact absurd hF Bool.false_ne_true
      · cases hX with
        | nil => exact q
        | @cons x y xs ys hxy ht =>
          exfalso
          apply e3
          refine decide_eq_true ?_
          show (0 : Int) < ((xs.length + 1 : Nat) : Int)
          omega
    | str z => cases e
    | lst => cases e
    | flat => cases e
  · cases d with
    | tup ds => exact absurd rfl e
    | str z => exact q
    | lst => exact q
    | flat => exact q
abbrev N__is_row : List Str := ["word", "value", "part"]
theorem sc__is_row : FnScope ["word", "value", "part"] ["word", "value"] (defScope s__is_row) := ⟨rfl, rfl, rfl, by decide +kernel, rfl, by decide +kernel, by decide +kernel⟩
theorem ok_isrow {f : Addr} {fd : FuncData} (B : Bt K mg a_BOUNDS a_LONG_BOUNDS tL tM) (D : Df K mg "_is_row" s__is_row ["word", "value"] f fd) (G_begins_with : Cl P w K mg base 1 "_begins_with" ["value", "word"] spBegins) : FnOk P w K mg base CX0 2 f fd ["word", "value"] spIsRow := by
  refine D.F.ok sc__is_row (fun vs H Q E h => ?_) (fun cdv A outer s H vs Q E hr h => ?_)
  · obtain ⟨v, w, d, rfl, _⟩ := h
    rfl
  obtain ⟨v, w, d, rfl, hR, hF, q⟩ := h
  refine ⟨_, (pss_cons (ps_if (PW.pt (pw_or (pt_not (pt_val (pe_callB call_isi rfl B.b_isinstance boot_isinstance (pa_cons (pv 1) (pa_cons (pe_bltn (v := .ty "tuple") rfl B.b_tuple boot_tuple rfl) pa_nil))))) (pw_or1 (pt_cmpR op_lt (pe_callB call_len rfl B.b_len boot_len (pa_cons (pv 1) pa_nil)) pe_int (nomark _))))) (pss_one (ps_ret pe_bl)) pss_nil)
    (pss_one (ps_ret (pe_not (pe_callB (cr_any rfl) rfl B.b_any boot_any (pa_cons (pe_lc (own := [("part", 2)]) (g := gName 2) (tt := tYes) rfl sc__is_row.nd (pi_tup (pv 1)) (blkOk_by (N := N__is_row) (sc := defScope s__is_row) (by decide +kernel)) (fun _ _ _ _ _ => pg_name (i := 2) sc__is_row.nd rfl (Or.inl rfl)) (fun _ _ _ _ _ => pts_nil) (fun _ _ _ _ _ => (pe_cl G_begins_with (hr.mono (by omega)) rfl (pa_cons (pv 2) (pa_cons (pv 0) pa_nil))))) pa_nil)))))), ?_⟩
  obtain ⟨t, ht, _, k2⟩ := hR.ty (K := K)
  cases d with
  | str z => exact ⟨_, rfl, _, _, _, _, _, rfl, .ty _, ht, k2, _, rfl, iteT (iteT (q _ (Same.refl _)))⟩
  | lst => exact ⟨_, rfl, _, _, _, _, _, rfl, .ty _, ht, k2, _, rfl, iteT (iteT (q _ (Same.refl _)))⟩
  | flat => exact ⟨_, rfl, _, _, _, _, _, rfl, .ty _, ht, k2, _, rfl, iteT (iteT (q _ (Same.refl _)))⟩
  | tup ds =>
    obtain ⟨p, xs, rfl, hp, hz, hX⟩ := hR.untup
    have hl := hX.len
    refine ⟨_, rfl, _, _, _, _, _, rfl, .ty _, ht, k2, _, rfl, iteF ?_⟩
    refine ⟨_, rfl, _, _, rfl, .inr ⟨_, SqT.of hp, rfl⟩, _, _, rfl, rfl, _, rfl, ite2 (fun e => ?_) (fun e => ?_)⟩
    · have e1 : ((xs.length : Nat) : Int) < 2 := of_decide_eq_true e
      have e2 : rowOk w (.tup ds) = false := by
        rw [rowOk_tup, decide_eq_false (by omega)]
        rfl
      rw [e2] at q
      exact q _ (Same.refl _)
    · have e1 : ¬ ((xs.length : Nat) : Int) < 2 := fun h => e (decide_eq_true h)
      have e2 : rowOk w (.tup ds) = !(ds.any (begins w)) := by
        rw [rowOk_tup, decide_eq_true (by omega)]
        rfl
      rw [e2] at q
      refine ⟨_, rfl, p, rfl, ⟨_, SqT.of hp⟩, fun L hL => ?_⟩
      refine lc_tup (K := K) (a := p) (xs := xs) (fun i H' => Same H H' ∧ H' L = some (.lst (((ds.take i).map (begins w)).map V.bl))) ⟨same_upd hL, upd_same⟩ (fun i H' _ h => SqT.of (h.1 _ _ hp)) (fun i x H' hx h => ?_) (fun H' h => ?_)
      · obtain ⟨d, hd, hxd⟩ := hX.get hx
        have hd' : headFlat d = true := by
          have : ds.all headFlat = true := hF
          exact List.all_eq_true.mp this d (List.mem_of_getElem? hd)
        refine ⟨rfl, tyes ?_⟩
        refine ⟨_, rfl, _, rfl, x, w, d, rfl, hxd.pers (Pers.same h.1), hd', _, h.2, ?_, ?_, ?_⟩
        · rw [List.length_map, List.length_map, List.length_take]
          have : i < ds.length := (List.getElem?_eq_some_iff.mp hd).1
          exact Nat.lt_of_le_of_lt (Nat.min_le_right _ _) (Nat.lt_of_le_of_lt (hl ▸ hz) (by decide))
        · exact fun b o e => by rw [upd_ne (ne_of_none e hL)]; exact h.1 b o e
        · rw [upd_same, List.take_add_one, hd, List.map_append, List.map_append]
          rfl
      · obtain ⟨h1, h2⟩ := h
        rw [hl, List.take_length] at h2
        refine ⟨L, _, rfl, SqL.of h2, _, rfl, ?_⟩
        have e3 : ((ds.map (begins w)).any id) = ds.any (begins w) := by
          rw [List.any_map]
          rfl
        rw [e3]
        exact q _ h1
abbrev N__parts_of : List Str := ["value", "word", "inner"]
theorem sc__parts_of : FnScope ["value", "word", "inner"] ["value"] (defScope s__parts_of) := ⟨rfl, rfl, rfl, by decide +kernel, rfl, by decide +kernel, by decide +kernel⟩
theorem ok_parts {f : Addr} {fd : FuncData} (B : Bt K mg a_BOUNDS a_LONG_BOUNDS tL tM) (D : Df K mg "_parts_of" s__parts_of ["value"] f fd) (Gis_letter : Cl P w K mg base 1 "is_letter" ["value"] spLetter) (G_is_row : Cl P w K mg base 2 "_is_row" ["word", "value"] spIsRow) : FnOk P w K mg base CX0 3 f fd ["value"] spPartsOf := by
  refine D.F.ok sc__parts_of (fun vs H Q E h => ?_) (fun cdv A outer s H vs Q E hr h => ?_)
  · obtain ⟨v, d, rfl, _⟩ := h
    rfl
  obtain ⟨v, d, rfl, hR, hF, q⟩ := h
  refine ⟨_, (pss_cons (ps_if (pt_val (pe_callB call_isi rfl B.b_isinstance boot_isinstance (pa_cons (pv 0) (pa_cons (pe_bltn (v := .ty "str") rfl B.b_str boot_str rfl) pa_nil)))) (pss_one (ps_ret (pe_ifExp (PW.pt (pw_or (pt_cmpR op_eq (pv 0) pe_str (nomark _)) (pw_or1 (pt_val (pe_cl Gis_letter (hr.mono (by omega)) rfl (pa_cons (pv 0) pa_nil)))))) (pe_tup pa_nil) pe_non))) pss_nil)
    (pss_cons (ps_if (PW.pt (pw_or (pt_not (pt_val (pe_callB call_isi rfl B.b_isinstance boot_isinstance (pa_cons (pv 0) (pa_cons (pe_bltn (v := .ty "tuple") rfl B.b_tuple boot_tuple rfl) pa_nil))))) (pw_or (pt_cmpR op_ne (pe_callB call_len rfl B.b_len boot_len (pa_cons (pv 0) pa_nil)) pe_int (nomark _)) (pw_or1 (pt_not (pt_val (pe_callB call_isi rfl B.b_isinstance boot_isinstance (pa_cons (pe_ix (r := rIxT K) ix_tup (pv 0) pe_int (fun _ _ => rfl)) (pa_cons (pe_bltn (v := .ty "str") rfl B.b_str boot_str rfl) pa_nil))))))))) (pss_one (ps_ret pe_non)) pss_nil)
    (pss_cons (ps_asg (pv 0) (pg_tup rfl (pgs_cons (pg_name (i := 1) sc__parts_of.nd rfl (Or.inl rfl)) (pgs_cons (pg_name (i := 2) sc__parts_of.nd rfl (Or.inl rfl)) pgs_nil))))
    (pss_cons (ps_if (PW.pt (pw_or (pt_cmpR op_eq (pv 1) pe_str (nomark _)) (pw_or1 (pt_cmpR op_eq (pv 1) pe_str (nomark _))))) (pss_one (ps_ret (pe_tup (pa_cons (pv 2) pa_nil)))) pss_nil)
    (pss_cons (ps_if (PW.pt (pw_and (PW.pt (pw_or (pt_cmpR op_eq (pv 1) pe_str (nomark _)) (pw_or1 (pt_cmpR op_eq (pv 1) pe_str (nomark _))))) (pw_and1 (pt_val (pe_cl G_is_row (hr.mono (by omega)) rfl (pa_cons (pv 1) (pa_cons (pv 2) pa_nil))))))) (pss_one (ps_ret (pv 2))) pss_nil)
    (pss_one (ps_ret pe_non))))))), ?_⟩
  obtain ⟨t, ht, k1, k2⟩ := hR.ty (K := K)
  refine ⟨_, rfl, _, _, _, _, _, rfl, .ty _, ht, k1, _, rfl, ite2 (fun e => ?_) (fun e => ?_)⟩
  · cases d with
    | tup ds => cases e
    | lst => cases e
    | flat => cases e
    | str z =>
      cases hR with
      | str hz =>
        have yes : (z = sNo ∨ isLet z = true) → ∀ p, H p = none → Q (.ref p) (upd H p (.tup [])) := fun c p hp => q _ _ (same_upd hp) (by
          rw [inner, if_pos c]
          exact ⟨p, [], rfl, upd_same, .nil⟩)
        refine ⟨_, rfl, rfl, _, rfl, ite2 (fun e1 => iteT ?_) (fun e1 => ?_)⟩
        · exact ⟨by decide, yes (.inl (vstr e1))⟩
        · refine ⟨_, rfl, z, rfl, hz, _, rfl, ite2 (fun e2 => ?_) (fun e2 => ?_)⟩
          · exact ⟨by decide, yes (.inr e2)⟩
          · refine q _ _ (Same.refl _) ?_
            rw [inner, if_neg fun c => c.elim (vstrN e1) e2]
            rfl
  · cases d with
    | str z => exact absurd rfl e
    | lst => exact ⟨_, rfl, _, _, _, _, _, rfl, .ty _, ht, k2, _, rfl, iteT (iteT (q _ _ (Same.refl _) rfl))⟩
    | flat => exact ⟨_, rfl, _, _, _, _, _, rfl, .ty _, ht, k2, _, rfl, iteT (iteT (q _ _ (Same.refl _) rfl))⟩
    | tup ds =>
      obtain ⟨p, xs, rfl, hp, hz, hX⟩ := hR.untup
      have hl := hX.len
      have none_ : inner (.tup ds) = none → Q .non H := fun c => q _ _ (Same.refl _) (by rw [c]; rfl)
      refine ⟨_, rfl, _, _, _, _, _, rfl, .ty _, ht, k2, _, rfl, iteF ?_⟩
      refine ⟨_, rfl, _, _, rfl, .inr ⟨_, SqT.of hp, rfl⟩, rfl, _, rfl, ite2 (fun e => ?_) (fun e => ?_)⟩
      · have e1 : ¬ xs.length = 2 := by
          intro c
          rw [c] at e
          exact absurd e (by decide)
        refine iteT (none_ ?_)
        unfold inner
        split
        · rename_i h; cases h
        · rename_i h
          cases h
          exact absurd hl e1
        · rfl
      · have e1 : xs.length = 2 := by
          have e2 : ¬ ¬ ((xs.length : Nat) : Int) = 2 := fun c => e (by
            show (!decide (V.int ((xs.length : Nat) : Int) = V.int 2)) = true
            rw [decide_eq_false (fun z => c (V.int.inj z))]
            rfl)
          omega
        match xs, ds, hX, e1 with
        | [x, y], [dx, dy], hX, _ =>
          cases hX with
          | cons hx hX =>
          cases hX with
          | cons hy _ =>
          obtain ⟨tx, htx, kx, _⟩ := hx.ty (K := K)
          refine ⟨_, rfl, p, _, 0, x, rfl, rfl, SqT.of hp, at_zero, _, _, _, _, _, rfl, .ty _, htx, kx, _, rfl, ite2 (fun e => ?_) (fun e => ?_)⟩
          · refine none_ ?_
            cases dx with
            | str z => cases e
            | tup _ => rfl
            | lst => rfl
            | flat => rfl
          · cases dx with
            | tup _ => exact absurd rfl e
            | lst => exact absurd rfl e
            | flat => exact absurd rfl e
            | str w =>
              cases hx with
              | str hw =>
              refine ⟨_, rfl, p, _, rfl, SqT.of hp, rfl, _, _, rfl, _, _, rfl, rfl, ?_⟩
              have yes : (w = sMaybe ∨ w = sMany) → ∀ p, H p = none → Q (.ref p) (upd H p (.tup [y])) := fun c p hp => q _ _ (same_upd hp) (by
                rw [inner_pair, innerPair, if_pos c]
                exact ⟨p, [y], rfl, upd_same, .cons (hy.pers (Pers.new hp)) .nil⟩)
              refine ⟨_, rfl, rfl, _, rfl, ite2 (fun e1 => iteT ?_) (fun e1 => ?_)⟩
              · exact ⟨_, rfl, by show 1 ≤ sizeLine; decide, yes (.inl (vstr e1))⟩
              refine ⟨_, rfl, rfl, _, rfl, ite2 (fun e2 => ?_) (fun e2 => ?_)⟩
              · exact ⟨_, rfl, by show 1 ≤ sizeLine; decide, yes (.inr (vstr e2))⟩
              have no1 : ¬ (w = sMaybe ∨ w = sMany) := fun c => c.elim (vstrN e1) (vstrN e2)
              have hfl : w = sJoin ∨ w = sOr → rowFlat dy = true := fun c => by
                cases hF with
                | tup h _ => exact h _ _ rfl c
              have row : (w = sJoin ∨ w = sOr) → ∀ H', Same H H' → (rowOk w dy = true → Q y H') ∧ (¬ rowOk w dy = true → Q .non H') := fun c H' hs => ⟨fun r => q _ _ hs (by
                rw [inner_pair, innerPair, if_neg no1, if_pos ⟨c, r⟩]
                cases dy with
                | tup ds =>
                  obtain ⟨p, xs, rfl, hp, hz, hX⟩ := hy.untup
                  exact ⟨p, xs, rfl, hs _ _ hp, Rep.pers2 (Pers.same hs) hX⟩
                | str z => cases r
                | lst => cases r
                | flat => cases r), fun r => q _ _ hs (by rw [inner_pair, innerPair, if_neg no1, if_neg fun z => r z.2] <;> rfl)⟩
              refine ⟨_, rfl, rfl, _, rfl, ite2 (fun e3 => iteT ?_) (fun e3 => ?_)⟩
              · have c : w = sJoin ∨ w = sOr := .inl (vstr e3)
                refine ⟨_, rfl, _, rfl, y, w, dy, rfl, hy, hfl c, fun H' hs => ⟨_, rfl, ite2 (fun e4 => ?_) (fun e4 => ?_)⟩⟩
                · exact ⟨_, rfl, (row c H' hs).1 e4⟩
                · exact (row c H' hs).2 e4
              refine ⟨_, rfl, rfl, _, rfl, ite2 (fun e4 => ?_) (fun e4 => ?_)⟩
              · have c : w = sJoin ∨ w = sOr := .inr (vstr e4)
                refine ⟨_, rfl, _, rfl, y, w, dy, rfl, hy, hfl c, fun H' hs => ⟨_, rfl, ite2 (fun e4 => ?_) (fun e4 => ?_)⟩⟩
                · exact ⟨_, rfl, (row c H' hs).1 e4⟩
                · exact (row c H' hs).2 e4
              · refine iteF (none_ ?_)
                rw [inner_pair, innerPair, if_neg no1, if_neg fun z => z.1.elim (vstrN e3) (vstrN e4)]
def StkRep (H : Hp) (x : V) (p : D × Nat) : Prop := ∃ t y, x = .ref t ∧ H t = some (.tup [y, .int p.2]) ∧ Rep H y p.1
theorem StkRep.pers {H H' : Hp} (k : Pers H H') {x : V} {p : D × Nat} (h : StkRep H x p) : StkRep H' x p := by
  obtain ⟨t, y, rfl, h1, h2⟩ := h
  exact ⟨t, y, rfl, k.tup _ _ h1, h2.pers k⟩
theorem fl_inner {d : D} {ys : List D} (h : Fl d) (hi : inner d = some ys) : ∀ y ∈ ys, Fl y := by
  intro y hy
  unfold inner at hi
  split at hi
  · split at hi
    · cases hi; cases hy
    · cases hi
  · rename_i w z
    have hz : Fl z := by
      cases h with
      | tup _ k => exact k z (by simp)
    unfold innerPair at hi
    split at hi
    · cases hi
      rw [List.mem_singleton] at hy
      subst hy
      exact hz
    · split at hi
      · cases hz with
        | tup _ k => cases hi; exact k y hy
        | str => cases hi
        | lst => cases hi
        | flat => cases hi
      · cases hi
  · cases hi
theorem len_msr (st : List (D × Nat)) : st.length ≤ msr st := by
  induction st with
  | nil => exact Nat.le_refl _
  | cons p st ih =>
    have := size_pos p.1
    unfold msr at ih ⊢
    rw [List.map_cons, List.sum_cons, List.length_cons]
    omega
structure Loop (H : Hp) (B : Bnd) (d : D) (v : V) (b wt : Addr) (n : Nat) (st : List (D × Nat)) (a : Bnd) (σ : L2.St) (H' : Hp) : Prop where
  sl : ∃ x9 x10 x11, σ = [some v, some (.ref b), some (.int B.1), some (.int B.2.1), some (.int B.2.2), some (.int a.1), some (.int a.2.1), some (.int a.2.2), some (.ref wt), x9, x10, x11, none]
  same : Same H H'
  new : H wt = none
  stk : ∃ xs, H' wt = some (.lst xs) ∧ Two (StkRep H') xs st.reverse
  fl : ∀ p ∈ st, Fl p.1
  ms : msr st < n
  le : msr st ≤ d.size
  eq : look B n st a = sizesOf B d
abbrev N_sizes_within : List Str := ["value", "bounds", "most_places", "most_deep", "most_parts", "many_places", "deepest", "many_parts", "waiting", "part", "deep", "inner", "each"]
theorem sc_sizes_within : FnScope ["value", "bounds", "most_places", "most_deep", "most_parts", "many_places", "deepest", "many_parts", "waiting", "part", "deep", "inner", "each"] ["value", "bounds"] (defScope s_sizes_within) := ⟨rfl, rfl, rfl, by decide +kernel, rfl, by decide +kernel, by decide +kernel⟩
theorem ok_sizes {f : Addr} {fd : FuncData} (Bt : Bt K mg a_BOUNDS a_LONG_BOUNDS tL tM) (D : Df K mg "sizes_within" s_sizes_within ["value", "bounds"] f fd) (G_parts_of : Cl P w K mg base 3 "_parts_of" ["value"] spPartsOf) : FnOk P w K mg base CX0 4 f fd ["value", "bounds"] (spSizes K) := by
  refine D.F.ok sc_sizes_within (fun vs H Q E h => ?_) (fun cdv A outer s H vs Q E hr h => ?_)
  · obtain ⟨v, d, b, B, rfl, _⟩ := h
    rfl
  obtain ⟨v, d, b, ⟨b1, b2, b3⟩, rfl, hR, hF, hZ, hB, q⟩ := h
  have B := Bt
  refine ⟨_, (pss_cons (ps_asg (pv 1) (pg_tup rfl (pgs_cons (pg_name (i := 2) sc_sizes_within.nd rfl (Or.inl rfl)) (pgs_cons (pg_name (i := 3) sc_sizes_within.nd rfl (Or.inl rfl)) (pgs_cons (pg_name (i := 4) sc_sizes_within.nd rfl (Or.inl rfl)) pgs_nil)))))
    (pss_cons (ps_asg (pe_tup (pa_cons pe_int (pa_cons pe_int (pa_cons pe_int pa_nil)))) (pg_tup rfl (pgs_cons (pg_name (i := 5) sc_sizes_within.nd rfl (Or.inl rfl)) (pgs_cons (pg_name (i := 6) sc_sizes_within.nd rfl (Or.inl rfl)) (pgs_cons (pg_name (i := 7) sc_sizes_within.nd rfl (Or.inl rfl)) pgs_nil)))))
    (pss_cons (ps_set (i := 8) sc_sizes_within.nd rfl (Or.inl rfl) (pe_lst (pa_cons (pe_tup (pa_cons (pv 0) (pa_cons pe_int pa_nil))) pa_nil)))
    (pss_cons (ps_while PassesOwn.never (pt_truth (pv 8) (by intro _; rfl)) (pss_cons (ps_asg (pe_bm0 PySem.F.plainAttrs_list PySem.F.slot_list_pop PySem.F.type_list_pop mt_pop (pv 8)) (pg_tup rfl (pgs_cons (pg_name (i := 9) sc_sizes_within.nd rfl (Or.inl rfl)) (pgs_cons (pg_name (i := 10) sc_sizes_within.nd rfl (Or.inr rfl)) pgs_nil))))
    (pss_cons (ps_set (i := 11) sc_sizes_within.nd rfl (Or.inl rfl) (pe_cl G_parts_of (hr.mono (by omega)) rfl (pa_cons (pv 9) pa_nil)))
    (pss_cons (ps_if (pt_cmpR op_isN (pv 11) pe_non (nomark _)) (pss_one (ps_ret pe_non)) pss_nil)
    (C8.pss_cut (ps_if (pt_val (pe_callB call_isi rfl B.b_isinstance boot_isinstance (pa_cons (pv 9) (pa_cons (pe_bltn (v := .ty "str") rfl B.b_str boot_str rfl) pa_nil)))) (pss_one (ps_aug (i := 5) sc_sizes_within.nd rfl (Or.inl rfl) (pe_callB call_len rfl B.b_len boot_len (pa_cons (pv 9) pa_nil)) ip_add)) pss_nil)
    (pss_cons (ps_set (i := 6) sc_sizes_within.nd rfl (Or.inl rfl) (pe_callB (call_max2 rfl) rfl B.b_max boot_max (pa_cons (pv 6) (pa_cons (pv 10) pa_nil))))
    (pss_cons (ps_aug (i := 7) sc_sizes_within.nd rfl (Or.inl rfl) (pe_callB call_len rfl B.b_len boot_len (pa_cons (pv 11) pa_nil)) ip_add)
    (pss_cons (ps_if (PW.pt (pw_or (pt_cmpR op_gt (pv 5) (pv 2) (nomark _)) (pw_or (pt_cmpR op_gt (pv 6) (pv 3) (nomark _)) (pw_or1 (pt_cmpR op_gt (pv 7) (pv 4) (nomark _)))))) (pss_one (ps_ret pe_non)) pss_nil)
    (pss_one (ps_expr (pe_bm PySem.F.plainAttrs_list PySem.F.slot_list_extend PySem.F.type_list_extend mt_extend (pv 8) (pa_cons (pe_lc (own := [("each", 12)]) (g := gName 12) (tt := tYes) rfl sc_sizes_within.nd (pi_tup (pv 11)) (blkOk_by (N := N_sizes_within) (sc := defScope s_sizes_within) (by decide +kernel)) (fun _ _ _ _ _ => pg_name (i := 12) sc_sizes_within.nd rfl (Or.inl rfl)) (fun _ _ _ _ _ => pts_nil) (fun _ _ _ _ _ => (pe_tup (pa_cons (pv 12) (pa_cons (pe_op op_add (pv 10) pe_int) pa_nil))))) pa_nil))))))))))))
    (pss_one (ps_ret (pe_tup (pa_cons (pv 5) (pa_cons (pv 6) (pa_cons (pv 7) pa_nil)))))))))), ?_⟩
  refine ⟨_, rfl, b, _, rfl, hB, rfl, _, _, rfl, _, _, rfl, _, _, rfl, rfl, (by show 3 ≤ sizeLine; decide), fun t0 ht0 => ⟨t0, _, rfl, SqT.of upd_same, rfl, _, _, rfl, _, _, rfl, _, _, rfl, rfl, ?_⟩⟩
  refine ⟨_, rfl, (by show 2 ≤ sizeLine; decide), fun t ht => ⟨(by show 1 ≤ sizeLine; decide), fun wt hwt => ?_⟩⟩
  have ntw : t ≠ wt := fun e => by
    rw [← e, upd_same] at hwt
    cases hwt
  have s1 : Same H (upd (upd (upd H t0 _) t (.tup [v, .int 0])) wt (.lst [.ref t])) := (same_upd ht0).trans ((same_upd ht).trans (same_upd hwt))
  refine ⟨fun n σ' H' => ∃ st a, Loop H (b1, b2, b3) d v b wt n st a σ' H', ⟨d.size + 1, [(d, 0)], (0, 0, 1), ⟨none, none, none, rfl⟩, s1, ((same_upd ht0).trans (same_upd ht)).free hwt, ⟨_, upd_same, ?_⟩, ?_, ?_, ?_, rfl⟩, ?_⟩
  · exact .cons ⟨t, v, rfl, by rw [upd_ne ntw, upd_same] <;> rfl, hR.pers (Pers.same s1)⟩ .nil
  · intro p hp
    rw [List.mem_singleton] at hp
    subst hp
    exact hF
  · show msr [(d, 0)] < d.size + 1
    unfold msr
    simp
  · show msr [(d, 0)] ≤ d.size
    unfold msr
    simp
  rintro n σ' H' ⟨st, a, ⟨x9, x10, x11, rfl⟩, sm, new, ⟨xs, hw, hX⟩, fl, ms, le, eq⟩
  have hlX := hX.len
  refine ⟨_, rfl, _, .inl ⟨_, SqL.of hw, rfl⟩, ite2 (fun e => ?_) (fun e => ?_)⟩
  · -- a turn
    cases st with
    | nil =>
      cases xs with
      | nil => cases e
      | cons x r => cases hX
    | cons p st =>
    obtain ⟨dp, k⟩ := p
    rw [List.reverse_cons] at hX
    obtain ⟨xs', x, rfl, hX', t1, y, rfl, ht1, hy⟩ := hX.unsnoc
    cases n with
    | zero => exact absurd ms (Nat.not_lt_zero _)
    | succ n =>
    have hFd : Fl dp := fl (dp, k) (List.mem_cons_self ..)
    have nt1 : t1 ≠ wt := fun e => by
      rw [e, hw] at ht1
      cases ht1
    refine ⟨fun σ2 H2 => ∃ st a, Loop H (b1, b2, b3) d v b wt n st a σ2 H2, fun σ2 H2 h => ⟨n, Nat.lt_succ_self n, h⟩, ?_⟩
    -- part, deep = waiting.pop()
    have hpop : (xs' ++ [V.ref t1])[(xs' ++ [V.ref t1]).length - 1]? = some (.ref t1) := by
      rw [List.length_append, List.length_singleton, Nat.add_sub_cancel, List.getElem?_append_right (Nat.le_refl _), Nat.sub_self]
      rfl
    have hdrop : (xs' ++ [V.ref t1]).dropLast = xs' := List.dropLast_concat ..
    refine ⟨_, rfl, .inl ⟨rfl, _, SqL.of hw⟩, wt, _, _, rfl, rfl, hw, hpop, t1, _, rfl, SqT.of (by rw [upd_ne nt1]; exact ht1), rfl, _, _, rfl, _, _, rfl, rfl, ?_⟩
    rw [hdrop]
    have P1 : Pers H' (upd H' wt (.lst xs')) := Pers.store hw
    -- inner = _parts_of(part)
    refine ⟨_, rfl, y, dp, rfl, hy.pers P1, hFd, fun r H2 s2 hr2 => ?_⟩
    have P2 : Pers H' H2 := P1.trans (Pers.same s2)
    have hw2 : H2 wt = some (.lst xs') := s2 _ _ upd_same
    have sm2 : Same H H2 := fun b o e => s2 _ _ (by rw [upd_ne (ne_of_none e new)]; exact sm b o e)
    have lk : look (b1, b2, b3) (n + 1) ((dp, k) :: st) a = (match inner dp with | none => none | some ys => if within (b1, b2, b3) (a.1 + places1 dp, max a.2.1 k, a.2.2 + ys.length) = true then look (b1, b2, b3) n ((ys.map fun y => (y, k + 1)).reverse ++ st) (a.1 + places1 dp, max a.2.1 k, a.2.2 + ys.length) else none) := rfl
    rw [eq] at lk
    cases hi : inner dp with
    | none =>
      rw [hi] at lk hr2
      have hr3 : r = .non := hr2
      subst hr3
      refine ⟨_, rfl, rfl, _, rfl, iteT (q _ _ sm2 ?_)⟩
      rw [lk]
      rfl
    | some ys =>
      rw [hi] at lk hr2
      obtain ⟨p, vs, rfl, hp, hV⟩ := hr2
      have hl := hV.len
      have hsz := inner_size hi
      have mst : msr ((dp, k) :: st) = dp.size + msr st := by
        unfold msr
        rw [List.map_cons, List.sum_cons]
      refine ⟨_, rfl, rfl, _, rfl, iteF ?_⟩
      -- if isinstance(part, str): many_places += len(part)
      obtain ⟨ty, hty, k1, _⟩ := (hy.pers P2).ty (K := K)
      refine ⟨fun σ3 H3 => σ3 = [some v, some (.ref b), some (.int b1), some (.int b2), some (.int b3), some (.int ((a.1 + places1 dp : Nat) : Int)), some (.int a.2.1), some (.int a.2.2), some (.ref wt), some y, some (.int k), some (.ref p), none] ∧ H3 = H2, ?_, ?_⟩
      · refine ⟨_, rfl, _, _, _, _, _, rfl, .ty _, hty, k1, _, rfl, ite2 (fun e => ?_) (fun e => ?_)⟩
        · cases dp with
          | str z =>
            cases hy with
            | str hz => exact ⟨_, rfl, _, rfl, _, _, rfl, ⟨Nat.le_trans hz (by decide), rfl⟩, _, _, rfl, rfl, rfl, rfl⟩
          | tup _ => cases e
          | lst => cases e
          | flat => cases e
        · cases dp with
          | str z => exact absurd rfl e
          | tup _ => exact ⟨rfl, rfl⟩
          | lst => exact ⟨rfl, rfl⟩
          | flat => exact ⟨rfl, rfl⟩
      rintro σ3 H3 ⟨rfl, rfl⟩
      -- deepest = max(deepest, deep); many_parts += len(inner)
      refine ⟨_, rfl, _, rfl, _, _, rfl, ?_⟩
      have emax : (if (k : Int) > (a.2.1 : Int) then (k : Int) else (a.2.1 : Int)) = ((max a.2.1 k : Nat) : Int) := by
        split <;> omega
      rw [emax]
      refine ⟨_, rfl, _, rfl, _, ys.length, rfl, .inr ⟨_, SqT.of hp, hl.symm⟩, _, _, rfl, rfl, ?_⟩
      have bad : ¬ within (b1, b2, b3) (a.1 + places1 dp, max a.2.1 k, a.2.2 + ys.length) = true → Q .non H3 := fun c => q _ _ sm2 (by
        rw [lk]
        show SizeR H3 .non (if within (b1, b2, b3) (a.1 + places1 dp, max a.2.1 k, a.2.2 + ys.length) = true then _ else none)
        rw [if_neg c]
        rfl)
      refine ⟨_, rfl, _, rfl, _, _, rfl, rfl, _, rfl, ite2 (fun e1 => ?_) (fun e1 => ?_)⟩
      · refine iteT (bad fun c => ?_)
        have := (within_iff.mp c).1
        have e2 : ((b1 : Nat) : Int) < ((a.1 + places1 dp : Nat) : Int) := of_decide_eq_true e1
        have e3 : a.1 + places1 dp ≤ b1 := this
        omega
      refine ⟨_, rfl, _, rfl, _, _, rfl, rfl, _, rfl, ite2 (fun e2 => ?_) (fun e2 => ?_)⟩
      · refine iteT (bad fun c => ?_)
        have e3 : max a.2.1 k ≤ b2 := (within_iff.mp c).2.1
        have e4 : ((b2 : Nat) : Int) < ((max a.2.1 k : Nat) : Int) := of_decide_eq_true e2
        omega
      refine ⟨_, rfl, _, rfl, _, _, rfl, rfl, _, rfl, ite2 (fun e3 => ?_) (fun e3 => ?_)⟩
      · refine bad fun c => ?_
        have e4 : a.2.2 + ys.length ≤ b3 := (within_iff.mp c).2.2
        have e5 : ((b3 : Nat) : Int) < ((a.2.2 + ys.length : Nat) : Int) := of_decide_eq_true e3
        omega
      have win : within (b1, b2, b3) (a.1 + places1 dp, max a.2.1 k, a.2.2 + ys.length) = true := by
        refine within_iff.mpr ⟨?_, ?_, ?_⟩
        · have e4 : ¬ ((b1 : Nat) : Int) < ((a.1 + places1 dp : Nat) : Int) := fun h => e1 (decide_eq_true h)
          show a.1 + places1 dp ≤ b1
          omega
        · have e4 : ¬ ((b2 : Nat) : Int) < ((max a.2.1 k : Nat) : Int) := fun h => e2 (decide_eq_true h)
          show max a.2.1 k ≤ b2
          omega
        · have e4 : ¬ ((b3 : Nat) : Int) < ((a.2.2 + ys.length : Nat) : Int) := fun h => e3 (decide_eq_true h)
          show a.2.2 + ys.length ≤ b3
          omega
      have lk2 : look (b1, b2, b3) n ((ys.map fun y => (y, k + 1)).reverse ++ st) (a.1 + places1 dp, max a.2.1 k, a.2.2 + ys.length) = sizesOf (b1, b2, b3) d := by
        have lk3 : sizesOf (b1, b2, b3) d = (if within (b1, b2, b3) (a.1 + places1 dp, max a.2.1 k, a.2.2 + ys.length) = true then look (b1, b2, b3) n ((ys.map fun y => (y, k + 1)).reverse ++ st) (a.1 + places1 dp, max a.2.1 k, a.2.2 + ys.length) else none) := lk
        rw [if_pos win] at lk3
        exact lk3.symm
      have ms2 := msr_step (k := k) (st := st) hi
      have lsz : ys.length ≤ (ys.map My.D.size).sum := by
        have := len_msr (ys.map fun y => (y, k + 1))
        unfold msr at this
        rw [List.length_map, List.map_map] at this
        exact this
      -- waiting.extend([(each, deep + 1) for each in inner])
      refine ⟨_, rfl, .inl ⟨rfl, _, SqL.of hw2⟩, _, rfl, p, rfl, ⟨_, SqT.of hp⟩, fun L hL => ?_⟩
      have nL : wt ≠ L := ne_of_none hw2 hL
      refine lc_tup (K := K) (a := p) (xs := vs) (fun i H4 => Same H3 H4 ∧ ∃ zs, H4 L = some (.lst zs) ∧ Two (StkRep H4) zs ((ys.take i).map fun y => (y, k + 1))) ⟨same_upd hL, [], upd_same, .nil⟩ (fun i H4 _ h => SqT.of (h.1 _ _ hp)) (fun i x H4 hx h => ?_) (fun H4 h => ?_)
      · obtain ⟨h1, zs, h2, h3⟩ := h
        obtain ⟨dy, hd, hxd⟩ := hV.get hx
        have hlz := h3.len
        rw [List.length_map, List.length_take] at hlz
        refine ⟨rfl, tyes ⟨_, rfl, _, rfl, _, _, rfl, rfl, (by show 2 ≤ sizeLine; decide), fun t ht => ⟨zs, ?_, ?_, ?_, ?_⟩⟩⟩
        · rw [upd_ne (ne_of_none h2 ht)]
          exact h2
        · have : zs.length ≤ 1000000 := by omega
          exact Nat.lt_of_le_of_lt this (by decide)
        · intro b o e
          rw [upd_ne (ne_of_none e hL), upd_ne (ne_of_none (h1 _ _ e) ht)]
          exact h1 _ _ e
        · refine ⟨_, upd_same, ?_⟩
          have P4 : Pers H4 (upd (upd H4 t (.tup [x, .int ((k : Int) + 1)])) L (.lst (zs ++ [.ref t]))) := (Pers.new ht).trans (Pers.store (by rw [upd_ne (ne_of_none h2 ht)]; exact h2))
          rw [List.take_add_one, hd, List.map_append]
          refine (h3.mono fun _ _ => StkRep.pers P4).app (.cons ⟨t, x, rfl, ?_, hxd.pers ((Pers.same h1).trans P4)⟩ .nil)
          have nt : t ≠ L := fun e => by
            rw [e] at ht
            rw [h2] at ht
            cases ht
          rw [upd_ne nt, upd_same]
          rfl
      · obtain ⟨h1, zs, h2, h3⟩ := h
        rw [hl, List.take_length] at h3
        have hlz := h3.len
        rw [List.length_map] at hlz
        have hw4 := h1 _ _ hw2
        have hlx := hX'.len
        have lst := len_msr st
        rw [List.length_reverse] at hlx
        refine ⟨wt, L, _, _, rfl, rfl, hw4, h2, ?_, ?_⟩
        · have : xs'.length + zs.length ≤ 1000000 := by omega
          exact Nat.le_trans this (by decide)
        · have P4 : Pers H4 (upd H4 wt (.lst (xs' ++ zs))) := Pers.store hw4
          refine ⟨_, _, ⟨_, _, _, rfl⟩, fun b o e => by rw [upd_ne (ne_of_none e new)]; exact h1 _ _ (sm2 b o e), new, ⟨_, upd_same, ?_⟩, ?_, ?_, ?_, lk2⟩
          · rw [List.reverse_append, List.reverse_reverse]
            exact (hX'.mono fun _ _ => StkRep.pers (P2.trans ((Pers.same h1).trans P4))).app (h3.mono fun _ _ => StkRep.pers P4)
          · intro q hq
            rcases List.mem_append.mp hq with hq | hq
            · rw [List.mem_reverse, List.mem_map] at hq
              obtain ⟨y, hy, rfl⟩ := hq
              exact fl_inner hFd hi y hy
            · exact fl q (List.mem_cons_of_mem _ hq)
          · omega
          · omega
  · -- the end
    have e1 : st = [] := by
      cases xs with
      | nil =>
        have : st.reverse.length = 0 := hlX.symm
        rw [List.length_reverse] at this
        exact List.eq_nil_of_length_eq_zero this
      | cons x r => exact absurd rfl e
    subst e1
    have e2 : sizesOf (b1, b2, b3) d = some a := by
      cases n with
      | zero => exact absurd ms (Nat.not_lt_zero _)
      | succ n => exact eq.symm
    refine ⟨_, rfl, _, rfl, _, rfl, (by show 3 ≤ sizeLine; decide), fun p hp => q _ _ (sm.trans (same_upd hp)) ?_⟩
    rw [e2]
    exact ⟨p, rfl, upd_same⟩
abbrev N_is_expression : List Str := ["value"]
theorem sc_is_expression : FnScope ["value"] ["value"] (defScope s_is_expression) := ⟨rfl, rfl, rfl, by decide +kernel, rfl, by decide +kernel, by decide +kernel⟩
theorem ok_isexpr {f : Addr} {fd : FuncData} (B : Bt K mg a_BOUNDS a_LONG_BOUNDS tL tM) (D : Df K mg "is_expression" s_is_expression ["value"] f fd) (Gsizes_within : Cl P w K mg base 4 "sizes_within" ["value", "bounds"] (spSizes K)) : FnOk P w K mg base CX0 5 f fd ["value"] (spIs (8, 6, 24)) := by
  refine D.F.ok sc_is_expression (fun vs H Q E h => ?_) (fun cdv A outer s H vs Q E hr h => ?_)
  · obtain ⟨v, d, rfl, _⟩ := h
    rfl
  obtain ⟨v, d, rfl, hR, hF, hZ, q⟩ := h
  refine ⟨_, (pss_one (ps_ret (pe_cmpR op_notN (pe_cl Gsizes_within (hr.mono (by omega)) rfl (pa_cons (pv 0) (pa_cons (pe_glob (v := .ref a_BOUNDS) rfl B.g_BOUNDS rfl) pa_nil))) pe_non (nomark _)))), ?_⟩
  refine ⟨_, rfl, v, d, a_BOUNDS, (8, 6, 24), rfl, hR, hF, hZ, B.tE _, fun r H' hs hr2 => ⟨rfl, ?_⟩⟩
  have e : (!decide (r = V.non)) = (sizesOf (8, 6, 24) d).isSome := by
    cases h : sizesOf (8, 6, 24) d with
    | none =>
      rw [h] at hr2
      have : r = .non := hr2
      subst this
      rfl
    | some a =>
      rw [h] at hr2
      obtain ⟨p, rfl, _⟩ := hr2
      rfl
  rw [e]
  exact q _ hs
def isTextD (m : Nat) : My.D → Bool
  | .str z => decide (z.length ≤ m) && z.cps.toList.all (fun c => decide (c ∈ (Str.ofString "abcd").cps.toList))
  | _ => false
def isWord (d : My.D) : Bool := isTextD 24 d
def spIsText : Sp := fun vs H Q _ => ∃ (v : V) (d : My.D) (m : Nat), vs = [v, .int m] ∧ Rep H v d ∧ ∀ H', Same H H' → Q (.bl (isTextD m d)) H'
def spIsWord : Sp := fun vs H Q _ => ∃ (v : V) (d : My.D), vs = [v] ∧ Rep H v d ∧ ∀ H', Same H H' → Q (.bl (isWord d)) H'
end
end My
namespace My
open PySem PySem.Spec PyProof.Rows L2
def spCheck : Sp := fun vs H Q _ => ∃ (v : V) (d : My.D), vs = [v] ∧ Rep H v d ∧ Fl d ∧ d.size ≤ 1000000 ∧ (sizesOf (40, 40, 200) d).isSome = true ∧ ∀ H', Same H H' → Q .non H'
section
variable {P : Program} {w : World} {K : PySem.W.Frag} {mg : Str → Option Value} {base : Heap} {a_BOUNDS a_LONG_BOUNDS : Addr} {tL tM : Tok}
/-- what stands at an expression that is no letter -/
theorem node_of {H : Hp} {v : V} {e : E} (hok : e.ok = true) (hR : Rep H v e.toD) (hs : ¬ isStr e.toD = true) : ∃ (w : Str) (y : My.D) (p : Addr) (x : V), w.length ≤ 1000 ∧ v = .ref p ∧ H p = some (.tup [.str w, x]) ∧ Rep H x y ∧
    (((w = sMaybe ∧ ∃ k, e = .maybe k ∧ y = k.toD) ∨ (w = sMany ∧ ∃ k, e = .many k ∧ y = k.toD)) ∨ ((w = sJoin ∧ ∃ es, e = .join es ∧ 2 ≤ es.length ∧ y = .tup (es.map E.toD)) ∨ (w = sOr ∧ ∃ es, e = .alt es ∧ 2 ≤ es.length ∧ y = .tup (es.map E.toD)))) := by
  have two : ∀ (w : Str) (y : My.D), e.toD = .tup [.str w, y] → ∃ p x, w.length ≤ 1000 ∧ v = .ref p ∧ H p = some (.tup [.str w, x]) ∧ Rep H x y := fun w y c => by
    rw [c] at hR
    obtain ⟨p, xs, rfl, hp, hz, hX⟩ := hR.untup
    match xs, hX with
    | [_, x], .cons (.str h) (.cons hx .nil) => exact ⟨p, x, h, rfl, hp, hx⟩
  cases e with
  | eps => exact absurd (by rw [E.toD]; rfl) hs
  | sym c => exact absurd (by rw [E.toD]; rfl) hs
  | maybe k =>
    obtain ⟨p, x, h0, h1, h2, h3⟩ := two sMaybe k.toD (by rw [E.toD])
    exact ⟨_, _, p, x, h0, h1, h2, h3, .inl (.inl ⟨rfl, k, rfl, rfl⟩)⟩
  | many k =>
    obtain ⟨p, x, h0, h1, h2, h3⟩ := two sMany k.toD (by rw [E.toD])
    exact ⟨_, _, p, x, h0, h1, h2, h3, .inl (.inr ⟨rfl, k, rfl, rfl⟩)⟩
  | join es =>
    rw [E.ok, oks_eq] at hok
    simp only [Bool.and_eq_true, decide_eq_true_eq] at hok
    obtain ⟨p, x, h0, h1, h2, h3⟩ := two sJoin (.tup (es.map E.toD)) (by rw [E.toD, toDs_eq])
    exact ⟨_, _, p, x, h0, h1, h2, h3, .inr (.inl ⟨rfl, es, rfl, hok.1.1, rfl⟩)⟩
  | alt es =>
    rw [E.ok, oks_eq] at hok
    simp only [Bool.and_eq_true, decide_eq_true_eq] at hok
    obtain ⟨p, x, h0, h1, h2, h3⟩ := two sOr (.tup (es.map E.toD)) (by rw [E.toD, toDs_eq])
    exact ⟨_, _, p, x, h0, h1, h2, h3, .inr (.inr ⟨rfl, es, rfl, hok.1.1, rfl⟩)⟩
/-- an expression within the lesser bounds -/
structure Esh (e : E) : Prop where
  ok : e.ok = true
  dep : e.depth ≤ 6
  pl : e.places ≤ 8
  pt : e.parts ≤ 24
  sz : e.toD.size ≤ 1000000
theorem short_top {e : E} (h : Esh e) : (sizesOf (8, 6, 24) e.toD).isSome = true := by
  rw [sizes_ok h.ok (by decide), if_pos (within_iff.mpr ⟨h.pl, h.dep, h.pt⟩)]
  rfl
def spChkE : Sp := fun vs H Q _ => ∃ (v : V) (e : E) (nm : Str), vs = [v, .str nm] ∧ Esh e ∧ Rep H v e.toD ∧ ∀ H', Same H H' → Q .non H'
abbrev N_check_expression : List Str := ["value", "name"]
theorem sc_check_expression : FnScope ["value", "name"] ["value", "name"] (defScope s_check_expression) := ⟨rfl, rfl, rfl, by decide +kernel, rfl, by decide +kernel, by decide +kernel⟩
theorem ok_checkexpr {f : Addr} {fd : FuncData} (B : Bt K mg a_BOUNDS a_LONG_BOUNDS tL tM) (Dd : DfD K mg "check_expression" s_check_expression ["value", "name"] [V.str "expression"] f fd) (Gis_expression : Cl P w K mg base 5 "is_expression" ["value"] (spIs (8, 6, 24))) : FnOk P w K mg base CX0 6 f fd ["value", "name"] spChkE := by
  refine Dd.ok sc_check_expression (fun vs H Q Ex h => ?_) (fun cdv A outer s H vs Q Ex hr h => ?_)
  · obtain ⟨v, e, nm, rfl, _⟩ := h
    rfl
  obtain ⟨v, e, nm, rfl, hE, hR, q⟩ := h
  refine ⟨_, (pss_one (ps_if (pt_not (pt_val (pe_cl Gis_expression (hr.mono (by omega)) rfl (pa_cons (pv 0) pa_nil)))) (pss_one ps_never) pss_nil)), ?_⟩
  refine ⟨_, rfl, v, _, rfl, hR, fl_toD e, hE.sz, fun H1 s1 => ?_⟩
  rw [short_top hE]
  exact ⟨_, rfl, iteF (q H1 s1)⟩
end
end My
namespace My
open PySem PySem.Spec PyProof.Rows L2
def LetAt (H : Hp) (la : Addr) (cs : List Nat) : Prop := H la = some (.lst (cs.map fun c => V.str ⟨#[c]⟩))
abbrev Rl := Nat → Nat → Prop
structure RowsAt (H0 H : Hp) (ra : Addr) (n : Nat) (F : Rl) : Prop where
  ex : ∃ ds : List Addr, H ra = some (.lst (ds.map V.ref)) ∧ ds.length = n ∧ ds.Nodup ∧ ∀ i d, ds[i]? = some d → ∃ ms : List Int, H d = some (.dK (keysD ms)) ∧ ms.Nodup ∧ ∀ x, x ∈ ms ↔ ∃ j : Nat, x = (j : Int) ∧ F i j
  bd : ∀ i j, F i j → j < 40
  dm : ∀ i j, F i j → i < n
  nw : ∀ ds : List Addr, H ra = some (.lst (ds.map V.ref)) → ∀ d ∈ ds, H0 d = none
/-- all but the two lists and the dicts is as it was -/
def Fr (la ra : Addr) (H H' : Hp) : Prop := ∀ b o, H b = some o → b ≠ la → b ≠ ra → (∀ kvs, o ≠ .dK kvs) → H' b = some o
theorem Fr.refl (la ra : Addr) (H : Hp) : Fr la ra H H := fun _ _ h _ _ _ => h
theorem Fr.trans {la ra : Addr} {H H1 H2 : Hp} (x : Fr la ra H H1) (y : Fr la ra H1 H2) : Fr la ra H H2 := fun b o h h1 h2 h3 => y b o (x b o h h1 h2 h3) h1 h2 h3
theorem Fr.same {la ra : Addr} {H H' : Hp} (s : Same H H') : Fr la ra H H' := fun b o h _ _ _ => s b o h
theorem RowsAt.eqv {H0 H : Hp} {ra : Addr} {n : Nat} {F F' : Rl} (h : RowsAt H0 H ra n F) (e : ∀ i j, F i j ↔ F' i j) : RowsAt H0 H ra n F' where
  ex := by
    obtain ⟨ds, h1, h2, h3, h4⟩ := h.ex
    refine ⟨ds, h1, h2, h3, fun i d hd => ?_⟩
    obtain ⟨ms, a, b, c⟩ := h4 i d hd
    exact ⟨ms, a, b, fun x => (c x).trans (exists_congr fun j => and_congr_right fun _ => e i j)⟩
  bd i j hf := h.bd i j ((e i j).mpr hf)
  dm i j hf := h.dm i j ((e i j).mpr hf)
  nw := h.nw
theorem RowsAt.same {H0 H H' : Hp} {ra : Addr} {n : Nat} {F : Rl} (h : RowsAt H0 H ra n F) (s : Same H H') : RowsAt H0 H' ra n F where
  ex := by
    obtain ⟨ds, h1, h2, h3, h4⟩ := h.ex
    refine ⟨ds, s _ _ h1, h2, h3, fun i d hd => ?_⟩
    obtain ⟨ms, a, b⟩ := h4 i d hd
    exact ⟨ms, s _ _ a, b⟩
  bd := h.bd
  dm := h.dm
  nw ds hds := by
    obtain ⟨ds', h1, _⟩ := h.ex
    have e := (s _ _ h1).symm.trans hds
    refine h.nw ds ?_
    rw [h1, Option.some.inj e]
theorem keysD_ne {ms : List Int} {H : Hp} {d b : Addr} (h : H d = some (.dK (keysD ms))) {o : HO} (hb : H b = some o) (n : ∀ kvs, o ≠ .dK kvs) : b ≠ d := fun e => by
  rw [e, h] at hb
  cases hb
  exact n _ rfl
/-- one more key in one row -/
theorem RowsAt.put {H0 H : Hp} {ra : Addr} {n : Nat} {F : Rl} (h : RowsAt H0 H ra n F) {i j : Nat} (hi : i < n) (hj : j < 40) : ∃ (ds : List Addr) (d : Addr) (ms : List Int), H ra = some (.lst (ds.map V.ref)) ∧ ds[i]? = some d ∧ H d = some (.dK (keysD ms)) ∧ (keysD ms).length < sizeLine ∧
    RowsAt H0 (upd H d (.dK (putK (keysD ms) (Sum.inl (j : Int) : Key) (V.bl true)))) ra n (fun a b => F a b ∨ (a = i ∧ b = j)) ∧ (∀ b o, H b = some o → (∀ kvs, o ≠ .dK kvs) → (upd H d (.dK (putK (keysD ms) (Sum.inl (j : Int) : Key) (V.bl true)))) b = some o) ∧ H0 d = none := by
  obtain ⟨ds, h1, h2, h3, h4⟩ := h.ex
  have hd : ds[i]? = some ds[i] := List.getElem?_eq_getElem (by omega)
  obtain ⟨ms, a, b, c⟩ := h4 i _ hd
  have hlen : ms.length ≤ 40 := nodup_len 40 ms b fun x hx => by
    obtain ⟨j', rfl, hf⟩ := (c x).mp hx
    have := h.bd i j' hf
    omega
  refine ⟨ds, ds[i], ms, h1, hd, a, by rw [keysD_len]; exact Nat.lt_of_le_of_lt hlen (by decide), ⟨⟨ds, ?_, h2, h3, fun i' d' hd' => ?_⟩, fun i' j' hf => ?_, fun i' j' hf => ?_, fun ds2 hds2 => ?_⟩, fun b' o hb hn => ?_, h.nw ds h1 _ (List.getElem_mem _)⟩
  · rw [upd_ne (keysD_ne a h1 fun kvs e => by cases e)]
    exact h1
  · by_cases e : i' = i
    · subst e
      have e2 : d' = ds[i'] := Option.some.inj (hd'.symm.trans hd)
      subst e2
      refine ⟨addK ms j, by rw [upd_same, putK_keys]; rfl, nodup_addK b, fun x => ?_⟩
      rw [mem_addK, c]
      constructor
      · rintro (⟨j', rfl, hf⟩ | rfl)
        · exact ⟨j', rfl, .inl hf⟩
        · exact ⟨j, rfl, .inr ⟨rfl, rfl⟩⟩
      · rintro ⟨j', rfl, hf | ⟨_, rfl⟩⟩
        · exact .inl ⟨j', rfl, hf⟩
        · exact .inr rfl
    · have n' : d' ≠ ds[i] := fun z => e (nd_ix h3 hd' (by rw [z]; exact hd))
      obtain ⟨ms', a', b', c'⟩ := h4 i' d' hd'
      refine ⟨ms', by rw [upd_ne n']; exact a', b', fun x => (c' x).trans ?_⟩
      constructor
      · rintro ⟨j', rfl, hf⟩
        exact ⟨j', rfl, .inl hf⟩
      · rintro ⟨j', rfl, hf | ⟨z, _⟩⟩
        · exact ⟨j', rfl, hf⟩
        · exact absurd z e
  · rcases hf with hf | ⟨_, rfl⟩
    · exact h.bd i' j' hf
    · exact hj
  · rcases hf with hf | ⟨rfl, _⟩
    · exact h.dm i' j' hf
    · exact hi
  · rw [upd_ne (keysD_ne a h1 fun kvs e => by cases e)] at hds2
    exact h.nw ds2 hds2
  · rw [upd_ne (keysD_ne a hb hn)]
    exact hb
def spLink (K : PySem.W.Frag) : Sp := fun vs H Q _ => ∃ (H0 : Hp) (ra f g : Addr) (n : Nat) (F : Rl) (xs ys : List Nat), vs = [.ref ra, .ref f, .ref g] ∧ RowsAt H0 H ra n F ∧ H f = some (.lst (natsV xs)) ∧ H g = some (.lst (natsV ys)) ∧ (∀ i ∈ xs, i < n) ∧ (∀ j ∈ ys, j < 40) ∧
  ∀ H', (∀ b o, H b = some o → (∀ kvs, o ≠ .dK kvs) → H' b = some o) → (∀ b o, H0 b = some o → H b = some o → H' b = some o) → RowsAt H0 H' ra n (fun i j => F i j ∨ (i ∈ xs ∧ j ∈ ys)) → Q .non H'
theorem mem_take_nat {xs : List Nat} {i z : Nat} (h : xs[i]? = some z) (x : Nat) : x ∈ xs.take (i + 1) ↔ x ∈ xs.take i ∨ x = z := by
  rw [take_snoc h, List.mem_append, List.mem_singleton]
section
variable {P : Program} {w : World} {K : PySem.W.Frag} {mg : Str → Option Value} {base : Heap} {a_BOUNDS a_LONG_BOUNDS : Addr} {tL tM : Tok}
abbrev N__link : List Str := ["rows", "ends", "begins", "end", "begin"]
theorem sc__link : FnScope ["rows", "ends", "begins", "end", "begin"] ["rows", "ends", "begins"] (defScope s__link) := ⟨rfl, rfl, rfl, by decide +kernel, rfl, by decide +kernel, by decide +kernel⟩
theorem ok_link {f : Addr} {fd : FuncData} (B : Bt K mg a_BOUNDS a_LONG_BOUNDS tL tM) (Dd : Df K mg "_link" s__link ["rows", "ends", "begins"] f fd) : FnOk P w K mg base CX0 1 f fd ["rows", "ends", "begins"] (spLink K) := by
  refine Dd.F.ok sc__link (fun vs H Q Ex h => ?_) (fun cdv A outer s H vs Q Ex hr h => ?_)
  · obtain ⟨H0, ra, f, g, n, F, xs, ys, rfl, _⟩ := h
    rfl
  obtain ⟨H0, ra, fa, ga, n, F, xs, ys, rfl, hRw, hF, hG, hx, hy, q⟩ := h
  refine ⟨_, (pss_one (ps_for PassesOwn.never rfl (pi_list (pv 1)) (pg_name (i := 3) sc__link.nd rfl (Or.inl rfl)) (pss_one (ps_for PassesOwn.never rfl (pi_list (pv 2)) (pg_name (i := 4) sc__link.nd rfl (Or.inl rfl)) (pss_one (ps_dput (hu_of hr) (pe_ix (r := rIxL K) ix_list (pv 0) (pv 3) (fun _ _ => rfl)) (pv 4) pe_bl rfl)))))), ?_⟩
  have nd : ∀ (xs : List V) kvs, HO.lst xs ≠ .dK kvs := fun _ _ e => by cases e
  refine ⟨_, rfl, fa, rfl, ⟨_, SqL.of hF⟩, for_list (K := K) (a := fa) (xs := natsV xs) (fun i σ' H' => ∃ o1 o2 : Option V, σ' = [some (.ref ra), some (.ref fa), some (.ref ga), o1, o2] ∧ (∀ b o, H b = some o → (∀ kvs, o ≠ .dK kvs) → H' b = some o) ∧ (∀ b o, H0 b = some o → H b = some o → H' b = some o) ∧ RowsAt H0 H' ra n (fun a b => F a b ∨ (a ∈ xs.take i ∧ b ∈ ys)))
    ⟨none, none, rfl, fun b o h _ => h, fun b o _ h => h, hRw.eqv fun i j => by simp⟩ (fun i σ' H' _ h => ?_) (fun i y σ' H' hi h => ?_) (fun σ' H' h => ?_)⟩
  · obtain ⟨_, _, _, h1, _⟩ := h
    exact SqL.of (h1 _ _ hF (nd _))
  · obtain ⟨o1, o2, rfl, h1, h0, h2⟩ := h
    unfold natsV at hi
    rw [List.getElem?_map] at hi
    obtain ⟨z, hz, rfl⟩ := Option.map_eq_some_iff.mp hi
    have hzm := List.mem_of_getElem? hz
    refine ⟨_, rfl, ga, rfl, ⟨_, SqL.of (h1 _ _ hG (nd _))⟩, for_list (K := K) (a := ga) (xs := natsV ys) (fun j σ' H' => ∃ o2 : Option V, σ' = [some (.ref ra), some (.ref fa), some (.ref ga), some (.int z), o2] ∧ (∀ b o, H b = some o → (∀ kvs, o ≠ .dK kvs) → H' b = some o) ∧ (∀ b o, H0 b = some o → H b = some o → H' b = some o) ∧ RowsAt H0 H' ra n (fun a b => F a b ∨ (a ∈ xs.take i ∧ b ∈ ys) ∨ (a = z ∧ b ∈ ys.take j)))
      ⟨o2, rfl, h1, h0, h2.eqv fun i j => by simp⟩ (fun j σ' H' _ h => ?_) (fun j y σ' H' hj h => ?_) (fun σ' H' h => ?_)⟩
    · obtain ⟨_, _, h1, _⟩ := h
      exact SqL.of (h1 _ _ hG (nd _))
    · obtain ⟨o2, rfl, g1, g0, g2⟩ := h
      unfold natsV at hj
      rw [List.getElem?_map] at hj
      obtain ⟨u, hu, rfl⟩ := Option.map_eq_some_iff.mp hj
      have hum := List.mem_of_getElem? hu
      obtain ⟨ds, d, ms, p1, p2, p3, p4, p5, p6, p7⟩ := g2.put (hx z hzm) (hy u hum)
      refine ⟨_, rfl, _, rfl, ra, _, (z : Int), .ref d, rfl, rfl, SqL.of p1, at_of (j := z) rfl (by rw [List.getElem?_map, p2]; rfl), _, rfl, d, _, rfl, DPut.k (k := Sum.inl (u : Int)) p3 p4, _, rfl, fun b o hb hn => p6 b o (g1 b o hb hn) hn, fun b o h0 hb => by rw [upd_ne (ne_of_none h0 p7)]; exact g0 b o h0 hb, p5.eqv fun a b => ?_⟩
      rw [mem_take_nat hu]
      constructor
      · rintro ((h | h | ⟨h, h'⟩) | ⟨h, h'⟩)
        · exact .inl h
        · exact .inr (.inl h)
        · exact .inr (.inr ⟨h, .inl h'⟩)
        · exact .inr (.inr ⟨h, .inr h'⟩)
      · rintro (h | h | ⟨h, h' | h'⟩)
        · exact .inl (.inl h)
        · exact .inl (.inr (.inl h))
        · exact .inl (.inr (.inr ⟨h, h'⟩))
        · exact .inr ⟨h, h'⟩
    · obtain ⟨o2, rfl, g1, g0, g2⟩ := h
      have e2 : (natsV ys).length = ys.length := List.length_map _
      rw [e2, List.take_length] at g2
      refine ⟨_, _, rfl, g1, g0, g2.eqv fun a b => ?_⟩
      rw [mem_take_nat hz]
      constructor
      · rintro (h | ⟨h, h'⟩ | ⟨h, h'⟩)
        · exact .inl h
        · exact .inr ⟨.inl h, h'⟩
        · exact .inr ⟨.inr h, h'⟩
      · rintro (h | ⟨h | h, h'⟩)
        · exact .inl h
        · exact .inr (.inl ⟨h, h'⟩)
        · exact .inr (.inr ⟨h, h'⟩)
  · obtain ⟨o1, o2, rfl, h1, h0, h2⟩ := h
    have e2 : (natsV xs).length = xs.length := List.length_map _
    rw [e2, List.take_length] at h2
    exact q H' h1 h0 h2
end
end My
namespace My
open PySem PySem.Spec PyProof.Rows L2
theorem map_ref_inj : ∀ {as bs : List Addr}, as.map V.ref = bs.map V.ref → as = bs
  | [], [], _ => rfl
  | [], _ :: _, h => by cases h
  | _ :: _, [], h => by cases h
  | a :: as, b :: bs, h => by
    rw [List.map_cons, List.map_cons] at h
    have h1 := List.cons.inj h
    rw [V.ref.inj h1.1, map_ref_inj h1.2]
structure EndsR (H0 H H' : Hp) (la ra : Addr) (cs ls : List Nat) (pl : Nat) (F : Rl) (g : Gl) (f l : Addr) : Prop where
  fr : Fr la ra H H'
  le : LetAt H' la (cs ++ ls)
  k0 : Same H0 H'
  rw : RowsAt H0 H' ra (cs.length + pl) (fun i j => F i j ∨ (i, j) ∈ g.fol)
  fst : H' f = some (.lst (natsV g.fst))
  lst : H' l = some (.lst (natsV g.lst))
  f1 : f ≠ la
  f2 : f ≠ ra
  l1 : l ≠ la
  l2 : l ≠ ra
theorem EndsR.eqv {H0 H H' : Hp} {la ra : Addr} {cs ls : List Nat} {pl : Nat} {F : Rl} {g g' : Gl} {f l : Addr} (e : Eqv g g') (h : EndsR H0 H H' la ra cs ls pl F g f l) : EndsR H0 H H' la ra cs ls pl F g' f l :=
  ⟨h.fr, h.le, h.k0, h.rw.eqv fun i j => or_congr Iff.rfl (e.fol (i, j)), by rw [← e.fst]; exact h.fst, by rw [← e.lst]; exact h.lst, h.f1, h.f2, h.l1, h.l2⟩
theorem EndsR.same {H0 H H' H'' : Hp} {la ra : Addr} {cs ls : List Nat} {pl : Nat} {F : Rl} {g : Gl} {f l : Addr} (s : Same H' H'') (h : EndsR H0 H H' la ra cs ls pl F g f l) : EndsR H0 H H'' la ra cs ls pl F g f l :=
  ⟨h.fr.trans (Fr.same s), s _ _ h.le, h.k0.trans s, h.rw.same s, s _ _ h.fst, s _ _ h.lst, h.f1, h.f2, h.l1, h.l2⟩
theorem Fr.pers {la ra : Addr} {H H' : Hp} (x : Fr la ra H H') (h1 : ∃ xs, H la = some (.lst xs)) (h2 : ∃ xs, H ra = some (.lst xs)) (h3 : ∃ xs, H' la = some (.lst xs)) (h4 : ∃ xs, H' ra = some (.lst xs)) : Pers H H' := by
  obtain ⟨x1, h1⟩ := h1
  obtain ⟨x2, h2⟩ := h2
  refine ⟨fun b xs h => x b _ h (fun e => ?_) (fun e => ?_) (fun kvs e => by cases e), fun b xs h => ?_⟩
  · rw [e, h1] at h
    cases h
  · rw [e, h2] at h
    cases h
  · by_cases e1 : b = la
    · subst e1
      exact h3
    · by_cases e2 : b = ra
      · subst e2
        exact h4
      · exact ⟨xs, x b _ h e1 e2 fun kvs e => by cases e⟩
theorem RowsAt.isl {H0 H : Hp} {ra : Addr} {n : Nat} {F : Rl} (h : RowsAt H0 H ra n F) : ∃ xs, H ra = some (.lst xs) := by
  obtain ⟨ds, h1, _⟩ := h.ex
  exact ⟨_, h1⟩
theorem natsV_app (xs ys : List Nat) : natsV xs ++ natsV ys = natsV (xs ++ ys) := List.map_append.symm
theorem natsV_len (xs : List Nat) : (natsV xs).length = xs.length := List.length_map _
/-- what the three ask and promise -/
structure EndsP (H0 H : Hp) (la ra : Addr) (cs : List Nat) (F : Rl) (n : Nat) : Prop where
  ne : la ≠ ra
  le : LetAt H la cs
  rw : RowsAt H0 H ra cs.length F
  k0 : Same H0 H
  nl : H0 la = none
  nr : H0 ra = none
  sz : cs.length + n ≤ 40
def spEnds (n : Nat) : Sp := fun vs H Q _ => ∃ (H0 : Hp) (v : V) (la ra : Addr) (e : E) (cs : List Nat) (F : Rl), vs = [v, .ref la, .ref ra] ∧ e.ok = true ∧ e.depth < n ∧ Rep H v e.toD ∧ EndsP H0 H la ra cs F e.places ∧
  ∀ (t f l : Addr) (H' : Hp), H' t = some (.tup [.bl (gl e cs.length).nul, .ref f, .ref l]) → EndsR H0 H H' la ra cs e.letters e.places F (gl e cs.length) f l → Q (.ref t) H'
def spLeaf : Sp := fun vs H Q _ => ∃ (H0 : Hp) (z : Str) (la ra : Addr) (e : E) (cs : List Nat) (F : Rl), vs = [.str z, .ref la, .ref ra] ∧ ((z = sNo ∧ e = .eps) ∨ ∃ c, z = ⟨#[c]⟩ ∧ e = .sym c) ∧ EndsP H0 H la ra cs F e.places ∧
  ∀ (t f l : Addr) (H' : Hp), H' t = some (.tup [.bl (gl e cs.length).nul, .ref f, .ref l]) → EndsR H0 H H' la ra cs e.letters e.places F (gl e cs.length) f l → Q (.ref t) H'
def spRow (n : Nat) (G : List E → Nat → Gl) : Sp := fun vs H Q _ => ∃ (H0 : Hp) (p la ra : Addr) (xs : List V) (es : List E) (cs : List Nat) (F : Rl), vs = [.ref p, .ref la, .ref ra] ∧ H p = some (.tup xs) ∧ Two (Rep H) xs (es.map E.toD) ∧ (∀ e ∈ es, e.ok = true ∧ e.depth < n) ∧ EndsP H0 H la ra cs F (E.places.placess es) ∧
  ∀ (t f l : Addr) (H' : Hp), H' t = some (.tup [.bl (G es cs.length).nul, .ref f, .ref l]) → EndsR H0 H H' la ra cs (E.letters.letterss es) (E.places.placess es) F (G es cs.length) f l → Q (.ref t) H'
section
variable {P : Program} {w : World} {K : PySem.W.Frag} {mg : Str → Option Value} {base : Heap} {a_BOUNDS a_LONG_BOUNDS : Addr} {tL tM : Tok}
abbrev N__ends_of_leaf : List Str := ["part", "letters", "rows", "place"]
theorem sc__ends_of_leaf : FnScope ["part", "letters", "rows", "place"] ["part", "letters", "rows"] (defScope s__ends_of_leaf) := ⟨rfl, rfl, rfl, by decide +kernel, rfl, by decide +kernel, by decide +kernel⟩
theorem ok_leaf {f : Addr} {fd : FuncData} (B : Bt K mg a_BOUNDS a_LONG_BOUNDS tL tM) (Dd : Df K mg "_ends_of_leaf" s__ends_of_leaf ["part", "letters", "rows"] f fd) : FnOk P w K mg base CX0 1 f fd ["part", "letters", "rows"] spLeaf := by
  refine Dd.F.ok sc__ends_of_leaf (fun vs H Q Ex h => ?_) (fun cdv A outer s H vs Q Ex hr h => ?_)
  · obtain ⟨H0, z, la, ra, e, cs, F, rfl, _⟩ := h
    rfl
  obtain ⟨H0, z, la, ra, e, cs, F, rfl, he, hP, q⟩ := h
  refine ⟨_, (pss_cons (ps_if (pt_cmpR op_eq (pv 0) pe_str (nomark _)) (pss_one (ps_ret (pe_tup (pa_cons pe_bl (pa_cons (pe_lst pa_nil) (pa_cons (pe_lst pa_nil) pa_nil)))))) pss_nil)
    (pss_cons (ps_set (i := 3) sc__ends_of_leaf.nd rfl (Or.inl rfl) (pe_callB call_len rfl B.b_len boot_len (pa_cons (pv 1) pa_nil)))
    (pss_cons (ps_expr (pe_bm PySem.F.plainAttrs_list PySem.F.slot_list_append PySem.F.type_list_append mt_append (pv 1) (pa_cons (pv 0) pa_nil)))
    (pss_cons (ps_expr (pe_bm PySem.F.plainAttrs_list PySem.F.slot_list_append PySem.F.type_list_append mt_append (pv 2) (pa_cons pe_dnewK pa_nil)))
    (pss_one (ps_ret (pe_tup (pa_cons pe_bl (pa_cons (pe_lst (pa_cons (pv 3) pa_nil)) (pa_cons (pe_lst (pa_cons (pv 3) pa_nil)) pa_nil)))))))))), ?_⟩
  obtain ⟨hne, hLe, hRw, hk0, hnl, hnr, hsz⟩ := hP
  refine ⟨_, rfl, rfl, _, rfl, ite2 (fun e1 => ?_) (fun e1 => ?_)⟩
  · have hz := vstr e1
    rcases he with ⟨rfl, rfl⟩ | ⟨c, rfl, rfl⟩
    · refine ⟨Nat.zero_le _, fun f hf => ⟨Nat.zero_le _, fun l hl => ⟨(by show 3 ≤ sizeLine; decide), fun t ht => ?_⟩⟩⟩
      have s2 := (same_upd (o := .lst []) hf).trans (same_upd (o := .lst []) hl)
      have s3 := s2.trans (same_upd (o := .tup [.bl true, .ref f, .ref l]) ht)
      have hfl : f ≠ l := fun c => by rw [← c, upd_same] at hl; cases hl
      obtain ⟨xr, hxr⟩ := hRw.isl
      refine q t f l _ upd_same ⟨Fr.same s3, s3 _ _ (by rw [E.letters, List.append_nil]; exact hLe), hk0.trans s3, (hRw.same s3).eqv fun i j => ⟨.inl, fun h => h.elim id fun h => by cases h⟩, ?_, ?_, ?_, ?_, ?_, ?_⟩
      · exact (same_upd ht) _ _ ((same_upd hl) _ _ upd_same)
      · exact (same_upd ht) _ _ upd_same
      · exact (ne_of_none hLe hf).symm
      · exact (ne_of_none hxr hf).symm
      · exact (ne_of_none ((same_upd hf) _ _ hLe) hl).symm
      · exact (ne_of_none ((same_upd hf) _ _ hxr) hl).symm
    · have := congrArg Str.length hz
      have l0 : (Str.ofString "").length = 0 := lE
      rw [l0] at this
      cases this
  · have hz := vstrN e1
    rcases he with ⟨h, _⟩ | ⟨c, rfl, rfl⟩
    · exact absurd h hz
    · rw [E.places] at hsz
      obtain ⟨ds, r1, r2, r3, r4⟩ := hRw.ex
      refine ⟨_, rfl, _, cs.length, rfl, .inl ⟨_, SqL.of hLe, by rw [List.length_map]⟩, ?_⟩
      refine ⟨_, rfl, .inl ⟨rfl, _, SqL.of hLe⟩, _, rfl, la, _, _, rfl, rfl, hLe, ?_, ?_⟩
      · rw [List.length_map]
        exact Nat.lt_of_le_of_lt (m := 40) (by omega) (by decide)
      have hra1 : (upd H la (.lst (cs.map (fun c => V.str ⟨#[c]⟩) ++ [V.str ⟨#[c]⟩]))) ra = some (.lst (ds.map V.ref)) := by rw [upd_ne hne.symm]; exact r1
      refine ⟨_, rfl, .inl ⟨rfl, _, SqL.of hra1⟩, fun d hd => ⟨ra, _, _, rfl, rfl, (same_upd hd) _ _ hra1, ?_, ?_⟩⟩
      · rw [List.length_map]
        exact Nat.lt_of_le_of_lt (m := 40) (by omega) (by decide)
      have dla : d ≠ la := fun c => by rw [c, upd_same] at hd; cases hd
      have dra : d ≠ ra := (ne_of_none hra1 hd).symm
      have dH : H d = none := by rw [upd_ne dla] at hd; exact hd
      have hla2 : (upd (upd (upd H la (.lst (cs.map (fun c => V.str ⟨#[c]⟩) ++ [V.str ⟨#[c]⟩]))) d (.dK [])) ra (.lst (ds.map V.ref ++ [V.ref d]))) la = some (.lst ((cs ++ [c]).map (fun c => V.str ⟨#[c]⟩))) := by
        rw [upd_ne hne, upd_ne dla.symm, upd_same, List.map_append]
        rfl
      have hFr : Fr la ra H (upd (upd (upd H la (.lst (cs.map (fun c => V.str ⟨#[c]⟩) ++ [V.str ⟨#[c]⟩]))) d (.dK [])) ra (.lst (ds.map V.ref ++ [V.ref d]))) := fun b o hb h1 h2 _ => by
        rw [upd_ne h2, upd_ne (ne_of_none hb dH), upd_ne h1]
        exact hb
      have hS0 : Same H0 (upd (upd (upd H la (.lst (cs.map (fun c => V.str ⟨#[c]⟩) ++ [V.str ⟨#[c]⟩]))) d (.dK [])) ra (.lst (ds.map V.ref ++ [V.ref d]))) := fun b o hb => by
        rw [upd_ne (ne_of_none hb hnr), upd_ne (ne_of_none (hk0 _ _ hb) dH), upd_ne (ne_of_none hb hnl)]
        exact hk0 _ _ hb
      have hRow : RowsAt H0 (upd (upd (upd H la (.lst (cs.map (fun c => V.str ⟨#[c]⟩) ++ [V.str ⟨#[c]⟩]))) d (.dK [])) ra (.lst (ds.map V.ref ++ [V.ref d]))) ra (cs.length + 1) F := by
        have noF : ∀ j, ¬ F cs.length j := fun j hf => absurd (hRw.dm _ j hf) (Nat.lt_irrefl _)
        refine ⟨⟨ds ++ [d], by rw [upd_same, List.map_append]; rfl, by rw [List.length_append, r2]; rfl, ?_, fun i d' hd' => ?_⟩, hRw.bd, fun i j hf => Nat.lt_succ_of_lt (hRw.dm i j hf), fun ds2 hds2 x hx => ?_⟩
        · rw [List.nodup_append]
          refine ⟨r3, by simp, fun a ha b hb e => ?_⟩
          rw [List.mem_singleton] at hb
          obtain ⟨i, hi⟩ := List.getElem?_of_mem ha
          obtain ⟨ms, h1, _⟩ := r4 i a hi
          rw [e, hb, dH] at h1
          cases h1
        · rcases Nat.lt_or_ge i ds.length with hi | hi
          · rw [List.getElem?_append_left hi] at hd'
            obtain ⟨ms, h1, h2⟩ := r4 i d' hd'
            refine ⟨ms, ?_, h2⟩
            have n1 : d' ≠ ra := fun c => by rw [c, r1] at h1; cases h1
            have n2 : d' ≠ la := fun c => by
              have : H la = some (.lst (cs.map fun c => V.str ⟨#[c]⟩)) := hLe
              rw [c, this] at h1
              cases h1
            rw [upd_ne n1, upd_ne (ne_of_none h1 dH), upd_ne n2]
            exact h1
          · rw [List.getElem?_append_right hi] at hd'
            have hi2 : i - ds.length = 0 := by
              have := (List.getElem?_eq_some_iff.mp hd').1
              simp at this
              omega
            rw [hi2] at hd'
            cases hd'
            have hi3 : i = cs.length := by omega
            subst hi3
            refine ⟨[], by rw [upd_ne dra, upd_same]; rfl, List.nodup_nil, fun x => ⟨(fun h => by cases h), fun ⟨j, _, hf⟩ => absurd hf (noF j)⟩⟩
        · rw [upd_same] at hds2
          have e3 : ds.map V.ref ++ [V.ref d] = ds2.map V.ref := HO.lst.inj (Option.some.inj hds2)
          have e4 : ds ++ [d] = ds2 := map_ref_inj (by rw [List.map_append]; exact e3)
          rw [← e4] at hx
          rcases List.mem_append.mp hx with hx | hx
          · exact hRw.nw ds r1 x hx
          · rw [List.mem_singleton] at hx
            subst hx
            exact hk0.free dH
      refine ⟨_, rfl, (by show 1 ≤ sizeLine; decide), fun f hf => ⟨_, rfl, (by show 1 ≤ sizeLine; decide), fun l hl => ⟨(by show 3 ≤ sizeLine; decide), fun t ht => ?_⟩⟩⟩
      have s3 := (same_upd (o := .lst [V.int (cs.length : Int)]) hf).trans ((same_upd (o := .lst [V.int (cs.length : Int)]) hl).trans (same_upd (o := .tup [.bl false, .ref f, .ref l]) ht))
      obtain ⟨xr, hxr⟩ := hRow.isl
      refine q t f l _ upd_same ⟨hFr.trans (Fr.same s3), s3 _ _ hla2, hS0.trans s3, (hRow.same s3).eqv fun i j => ⟨.inl, fun h => h.elim id fun h => by cases h⟩, ?_, ?_, ?_, ?_, ?_, ?_⟩
      · exact (same_upd ht) _ _ ((same_upd hl) _ _ upd_same)
      · exact (same_upd ht) _ _ upd_same
      · exact (ne_of_none hla2 hf).symm
      · exact (ne_of_none hxr hf).symm
      · exact (ne_of_none ((same_upd hf) _ _ hla2) hl).symm
      · exact (ne_of_none ((same_upd hf) _ _ hxr) hl).symm
end
end My
namespace My
open PySem PySem.Spec PyProof.Rows L2
theorem placess_snoc (es : List E) (e : E) : E.places.placess (es ++ [e]) = E.places.placess es + e.places := by
  rw [placess_eq, placess_eq, List.map_append, List.sum_append]
  show _ + (e.places + 0) = _
  omega
theorem placess_take (es : List E) (i : Nat) : E.places.placess (es.take i) ≤ E.places.placess es := by
  have e := List.take_append_drop i es
  have : E.places.placess es = E.places.placess (es.take i) + E.places.placess (es.drop i) := by
    rw [placess_eq, placess_eq, placess_eq, ← List.sum_append, ← List.map_append, e]
  omega
section
variable {P : Program} {w : World} {K : PySem.W.Frag} {mg : Str → Option Value} {base : Heap} {a_BOUNDS a_LONG_BOUNDS : Addr} {tL tM : Tok}
abbrev N__ends_of_join : List Str := ["parts", "letters", "rows", "empty", "first", "last", "part", "part_empty", "part_first", "part_last"]
theorem sc__ends_of_join : FnScope ["parts", "letters", "rows", "empty", "first", "last", "part", "part_empty", "part_first", "part_last"] ["parts", "letters", "rows"] (defScope s__ends_of_join) := ⟨rfl, rfl, rfl, by decide +kernel, rfl, by decide +kernel, by decide +kernel⟩
set_option maxHeartbeats 1000000 in
theorem ok_joinends {f : Addr} {fd : FuncData} (B : Bt K mg a_BOUNDS a_LONG_BOUNDS tL tM) (Dd : Df K mg "_ends_of_join" s__ends_of_join ["parts", "letters", "rows"] f fd) (G_link : Cl P w K mg base 1 "_link" ["rows", "ends", "begins"] (spLink K)) (n k : Nat) (hk1 : 1 ≤ k) (G_ends_of : Cl P w K mg base k "_ends_of" ["part", "letters", "rows"] (spEnds n)) : FnOk P w K mg base CX0 (k + 1) f fd ["parts", "letters", "rows"] (spRow n gl.glJ) := by
  refine Dd.F.ok sc__ends_of_join (fun vs H Q Ex h => ?_) (fun cdv A outer s H vs Q Ex hr h => ?_)
  · obtain ⟨H0, p, la, ra, xs, es, cs, F, rfl, _⟩ := h
    rfl
  obtain ⟨H0, p, la, ra, xs, es, cs, F, rfl, hp, hX, hes, hP, q⟩ := h
  obtain ⟨hne, hLe, hRw, hk0, hnl, hnr, hsz⟩ := hP
  refine ⟨_, (pss_cons (ps_par3 (i := 3) (j := 4) (l := 5) rfl sc__ends_of_join.nd rfl rfl rfl (by decide) (by decide) (by decide) rfl rfl rfl (pa_cons pe_bl (pa_cons (pe_lst pa_nil) (pa_cons (pe_lst pa_nil) pa_nil))) (by rfl))
    (pss_cons (ps_for PassesOwn.never rfl (pi_tup (pv 0)) (pg_name (i := 6) sc__ends_of_join.nd rfl (Or.inl rfl)) (pss_cons (ps_asg (pe_cl G_ends_of (hr.mono (by omega)) rfl (pa_cons (pv 6) (pa_cons (pv 1) (pa_cons (pv 2) pa_nil)))) (pg_tup rfl (pgs_cons (pg_name (i := 7) sc__ends_of_join.nd rfl (Or.inl rfl)) (pgs_cons (pg_name (i := 8) sc__ends_of_join.nd rfl (Or.inl rfl)) (pgs_cons (pg_name (i := 9) sc__ends_of_join.nd rfl (Or.inl rfl)) pgs_nil)))))
    (pss_cons (ps_expr (pe_cl G_link (hr.mono (by omega)) rfl (pa_cons (pv 2) (pa_cons (pv 5) (pa_cons (pv 8) pa_nil)))))
    (C8.pss_cut (ps_if (pt_truth (pv 3) (by intro _; rfl)) (pss_one (ps_set (i := 4) sc__ends_of_join.nd rfl (Or.inl rfl) (pe_op op_cat (pv 4) (pv 8)))) pss_nil)
    (C8.pss_cut (ps_set (i := 5) sc__ends_of_join.nd rfl (Or.inl rfl) (pe_ifExp (pt_truth (pv 7) (by intro _; rfl)) (pe_op op_cat (pv 5) (pv 9)) (pv 9)))
    (pss_one (ps_set (i := 3) sc__ends_of_join.nd rfl (Or.inl rfl) (pe_and (pv 3) (pe_one (pv 7))))))))))
    (pss_one (ps_ret (pe_tup (pa_cons (pv 3) (pa_cons (pv 4) (pa_cons (pv 5) pa_nil)))))))), ?_⟩
  have hl := hX.len
  rw [List.length_map] at hl
  obtain ⟨xr, hxr⟩ := hRw.isl
  refine ⟨Nat.zero_le _, fun f0 hf0 => ⟨Nat.zero_le _, fun l0 hl0 => ⟨_, _, _, rfl, ?_⟩⟩⟩
  have s0 := (same_upd (o := .lst []) hf0).trans (same_upd (o := .lst []) hl0)
  refine ⟨_, rfl, p, rfl, ⟨_, SqT.of (s0 _ _ hp)⟩, for_tup (K := K) (a := p) (xs := xs) (fun i σ' H' => ∃ (f l : Addr) (o1 o2 o3 o4 : Option V), σ' = [some (.ref p), some (.ref la), some (.ref ra), some (.bl (gl.glJ (es.take i) cs.length).nul), some (.ref f), some (.ref l), o1, o2, o3, o4] ∧ EndsR H0 H H' la ra cs (E.letters.letterss (es.take i)) (E.places.placess (es.take i)) F (gl.glJ (es.take i) cs.length) f l)
    ⟨f0, l0, none, none, none, none, rfl, ⟨Fr.same s0, s0 _ _ (by show H la = _; rw [List.take_zero]; show H la = some (.lst ((cs ++ []).map _)); rw [List.append_nil]; exact hLe), hk0.trans s0, (hRw.same s0).eqv fun i j => ⟨.inl, fun h => h.elim id fun h => by cases h⟩, (same_upd hl0) _ _ upd_same, upd_same, (ne_of_none hLe hf0).symm, (ne_of_none hxr hf0).symm, (ne_of_none ((same_upd hf0) _ _ hLe) hl0).symm, (ne_of_none ((same_upd hf0) _ _ hxr) hl0).symm⟩⟩
    (fun i σ' H' _ h => ?_) (fun i y σ' H' hi h => ?_) (fun σ' H' h => ?_)⟩
  · obtain ⟨f, l, o1, o2, o3, o4, _, hR⟩ := h
    refine SqT.of (hR.fr _ _ hp (fun c => ?_) (fun c => ?_) fun kvs c => by cases c)
    · rw [c] at hp
      have : H la = some (.lst (cs.map fun c => V.str ⟨#[c]⟩)) := hLe
      rw [this] at hp
      cases hp
    · rw [c, hxr] at hp
      cases hp
  · obtain ⟨f, l, o1, o2, o3, o4, rfl, hR⟩ := h
    obtain ⟨d, hd1, hxd⟩ := hX.get hi
    rw [List.getElem?_map] at hd1
    obtain ⟨e, he, rfl⟩ := Option.map_eq_some_iff.mp hd1
    have hem := List.mem_of_getElem? he
    have hPers : Pers H H' := hR.fr.pers ⟨_, hLe⟩ ⟨_, hxr⟩ ⟨_, hR.le⟩ hR.rw.isl
    have hpl : E.places.placess (es.take (i + 1)) = E.places.placess (es.take i) + e.places := by rw [take_snoc he, placess_snoc]
    have hpt := placess_take es (i + 1)
    have hcl : (cs ++ E.letters.letterss (es.take i)).length = cs.length + E.places.placess (es.take i) := by rw [List.length_append, letterss_len]
    -- the part
    refine ⟨_, rfl, _, rfl, _, rfl, H0, y, la, ra, e, cs ++ E.letters.letterss (es.take i), _, rfl, (hes e hem).1, (hes e hem).2, hxd.pers hPers, ⟨hne, hR.le, by rw [hcl]; exact hR.rw, hR.k0, hnl, hnr, by rw [hcl]; omega⟩, fun t2 f2 l2 H2 ht2 hR2 => ?_⟩
    rw [hcl] at ht2 hR2
    refine ⟨t2, _, rfl, SqT.of ht2, rfl, _, _, rfl, _, _, rfl, _, _, rfl, rfl, ?_⟩
    -- the frame so far
    have W1 : Within (gl.glJ (es.take i) cs.length) cs.length (E.places.placess (es.take i)) := glJ_within _ _
    have W2 : Within (gl e (cs.length + E.places.placess (es.take i))) (cs.length + E.places.placess (es.take i)) e.places := gl_within _ _
    have hfst : H2 f = some (.lst (natsV (gl.glJ (es.take i) cs.length).fst)) := hR2.fr _ _ hR.fst hR.f1 hR.f2 fun kvs c => by cases c
    have hlst : H2 l = some (.lst (natsV (gl.glJ (es.take i) cs.length).lst)) := hR2.fr _ _ hR.lst hR.l1 hR.l2 fun kvs c => by cases c
    refine ⟨_, rfl, _, rfl, _, rfl, H0, ra, l, f2, _, _, _, _, rfl, hR2.rw, hlst, hR2.fst, fun x hx => by have := W1.lst x hx; omega, fun x hx => by have := W2.fst x hx; omega, fun H3 h3 h30 hRw3 => ?_⟩
    have nd : ∀ (xs : List V) kvs, HO.lst xs ≠ .dK kvs := fun _ _ c => by cases c
    have fst3 := h3 _ _ hfst (nd _)
    have lst3 := h3 _ _ hlst (nd _)
    have f23 := h3 _ _ hR2.fst (nd _)
    have l23 := h3 _ _ hR2.lst (nd _)
    have le3 : LetAt H3 la ((cs ++ E.letters.letterss (es.take i)) ++ e.letters) := h3 _ _ hR2.le (nd _)
    have fr3 : Fr la ra H H3 := (hR.fr.trans hR2.fr).trans fun b o hb h1 h2 h4 => h3 b o hb h4
    obtain ⟨x3, hx3⟩ := hRw3.isl
    have k03 : Same H0 H3 := fun b o hb => h30 b o hb (hR2.k0 b o hb)
    -- first
    refine ⟨fun σ' H' => ∃ f3 : Addr, σ' = [some (.ref p), some (.ref la), some (.ref ra), some (.bl (gl.glJ (es.take i) cs.length).nul), some (.ref f3), some (.ref l), some y, some (.bl (gl e (cs.length + E.places.placess (es.take i))).nul), some (.ref f2), some (.ref l2)] ∧ Same H3 H' ∧ f3 ≠ la ∧ f3 ≠ ra ∧ H' f3 = some (.lst (natsV ((gl.glJ (es.take i) cs.length).seq (gl e (cs.length + E.places.placess (es.take i)))).fst)), ?_, ?_⟩
    · refine ⟨_, rfl, _, rfl, ite2 (fun c => ?_) (fun c => ?_)⟩
      · refine ⟨_, rfl, _, rfl, f, f2, _, _, rfl, rfl, fst3, f23, ?_, fun f3 hf3 => ⟨f3, rfl, same_upd hf3, (ne_of_none le3 hf3).symm, (ne_of_none hx3 hf3).symm, ?_⟩⟩
        · rw [natsV_len, natsV_len]
          have a1 := (glJ_len (es.take i) cs.length).fst
          have a2 := (gl_len e (cs.length + E.places.placess (es.take i))).fst
          exact Nat.le_trans (m := 40) (by omega) (by decide)
        · rw [upd_same, natsV_app]
          unfold Gl.seq
          rw [if_pos c]
      · refine ⟨f, rfl, Same.refl H3, hR.f1, hR.f2, ?_⟩
        rw [fst3]
        unfold Gl.seq
        rw [if_neg c, List.append_nil]
    rintro σ' H4 ⟨f3, rfl, s4, f3l, f3r, hf3⟩
    have lst4 := s4 _ _ lst3
    have l24 := s4 _ _ l23
    have le4 := s4 _ _ le3
    have hx4 := s4 _ _ hx3
    -- last
    refine ⟨fun σ' H' => ∃ l3 : Addr, σ' = [some (.ref p), some (.ref la), some (.ref ra), some (.bl (gl.glJ (es.take i) cs.length).nul), some (.ref f3), some (.ref l3), some y, some (.bl (gl e (cs.length + E.places.placess (es.take i))).nul), some (.ref f2), some (.ref l2)] ∧ Same H4 H' ∧ l3 ≠ la ∧ l3 ≠ ra ∧ H' l3 = some (.lst (natsV ((gl.glJ (es.take i) cs.length).seq (gl e (cs.length + E.places.placess (es.take i)))).lst)), ?_, ?_⟩
    · refine ⟨_, rfl, _, rfl, ite2 (fun c => ?_) (fun c => ?_)⟩
      · refine ⟨_, rfl, _, rfl, l, l2, _, _, rfl, rfl, lst4, l24, ?_, fun l3 hl3 => ⟨l3, rfl, same_upd hl3, (ne_of_none le4 hl3).symm, (ne_of_none hx4 hl3).symm, ?_⟩⟩
        · rw [natsV_len, natsV_len]
          have a1 := (glJ_len (es.take i) cs.length).lst
          have a2 := (gl_len e (cs.length + E.places.placess (es.take i))).lst
          exact Nat.le_trans (m := 40) (by omega) (by decide)
        · rw [upd_same, natsV_app]
          unfold Gl.seq
          rw [if_pos c]
      · refine ⟨_, rfl, l2, rfl, Same.refl H4, hR2.l1, hR2.l2, ?_⟩
        rw [l24]
        unfold Gl.seq
        rw [if_neg c, List.nil_append]
    rintro σ' H5 ⟨l3, rfl, s5, l3l, l3r, hl3⟩
    have S5 := s4.trans s5
    -- empty
    have fin : ∀ b : Bool, b = ((gl.glJ (es.take i) cs.length).seq (gl e (cs.length + E.places.placess (es.take i)))).nul → ∃ (f l : Addr) (o1 o2 o3 o4 : Option V), ([some (.ref p), some (.ref la), some (.ref ra), some (.bl b), some (.ref f3), some (.ref l3), some y, some (.bl (gl e (cs.length + E.places.placess (es.take i))).nul), some (.ref f2), some (.ref l2)] : L2.St) = [some (.ref p), some (.ref la), some (.ref ra), some (.bl (gl.glJ (es.take (i + 1)) cs.length).nul), some (.ref f), some (.ref l), o1, o2, o3, o4] ∧ EndsR H0 H H5 la ra cs (E.letters.letterss (es.take (i + 1))) (E.places.placess (es.take (i + 1))) F (gl.glJ (es.take (i + 1)) cs.length) f l := fun b hb => by
      have ev : Eqv ((gl.glJ (es.take i) cs.length).seq (gl e (cs.length + E.places.placess (es.take i)))) (gl.glJ (es.take (i + 1)) cs.length) := by
        have h := glJ_snoc (es.take i) e cs.length
        rw [← take_snoc he, ← placess_eq] at h
        exact ⟨h.nul.symm, h.fst.symm, h.lst.symm, fun x => (h.fol x).symm⟩
      refine ⟨f3, l3, _, _, _, _, by rw [hb, ev.nul], EndsR.eqv ev ⟨fr3.trans (Fr.same S5), ?_, k03.trans S5, ?_, s5 _ _ hf3, hl3, f3l, f3r, l3l, l3r⟩⟩
      · rw [take_snoc he, letterss_snoc, ← List.append_assoc]
        exact S5 _ _ le3
      · rw [hpl, ← Nat.add_assoc]
        rw [hcl] at hRw3
        refine (hRw3.same S5).eqv fun a b => ?_
        unfold Gl.seq
        simp only [List.mem_append, mem_prodL]
        constructor
        · rintro ((((h | h) | h) | h))
          · exact .inl h
          · exact .inr (.inl h)
          · exact .inr (.inr (.inr h))
          · exact .inr (.inr (.inl h))
        · rintro (h | h | h | h)
          · exact .inl (.inl (.inl h))
          · exact .inl (.inl (.inr h))
          · exact .inr h
          · exact .inl (.inr h)
    refine ⟨_, rfl, _, rfl, ite2 (fun c => ?_) (fun c => ?_)⟩
    · refine ⟨_, rfl, fin _ ?_⟩
      show _ = ((gl.glJ (es.take i) cs.length).nul && (gl e (cs.length + E.places.placess (es.take i))).nul)
      rw [c, Bool.true_and]
    · refine fin _ ?_
      show false = ((gl.glJ (es.take i) cs.length).nul && (gl e (cs.length + E.places.placess (es.take i))).nul)
      rw [Bool.eq_false_iff.mpr c, Bool.false_and]
  · obtain ⟨f, l, o1, o2, o3, o4, rfl, hR⟩ := h
    rw [hl, List.take_length] at hR
    refine ⟨_, rfl, _, rfl, _, rfl, (by show 3 ≤ sizeLine; decide), fun t ht => ?_⟩
    refine q t f l _ ?_ (hR.same (same_upd ht))
    rw [upd_same, hl, List.take_length]
abbrev N__ends_of_or : List Str := ["parts", "letters", "rows", "empty", "first", "last", "part", "part_empty", "part_first", "part_last"]
theorem sc__ends_of_or : FnScope ["parts", "letters", "rows", "empty", "first", "last", "part", "part_empty", "part_first", "part_last"] ["parts", "letters", "rows"] (defScope s__ends_of_or) := ⟨rfl, rfl, rfl, by decide +kernel, rfl, by decide +kernel, by decide +kernel⟩
set_option maxHeartbeats 1000000 in
theorem ok_orends {f : Addr} {fd : FuncData} (B : Bt K mg a_BOUNDS a_LONG_BOUNDS tL tM) (Dd : Df K mg "_ends_of_or" s__ends_of_or ["parts", "letters", "rows"] f fd) (n k : Nat) (G_ends_of : Cl P w K mg base k "_ends_of" ["part", "letters", "rows"] (spEnds n)) : FnOk P w K mg base CX0 (k + 1) f fd ["parts", "letters", "rows"] (spRow n gl.glA) := by
  refine Dd.F.ok sc__ends_of_or (fun vs H Q Ex h => ?_) (fun cdv A outer s H vs Q Ex hr h => ?_)
  · obtain ⟨H0, p, la, ra, xs, es, cs, F, rfl, _⟩ := h
    rfl
  obtain ⟨H0, p, la, ra, xs, es, cs, F, rfl, hp, hX, hes, hP, q⟩ := h
  obtain ⟨hne, hLe, hRw, hk0, hnl, hnr, hsz⟩ := hP
  refine ⟨_, (pss_cons (ps_par3 (i := 3) (j := 4) (l := 5) rfl sc__ends_of_or.nd rfl rfl rfl (by decide) (by decide) (by decide) rfl rfl rfl (pa_cons pe_bl (pa_cons (pe_lst pa_nil) (pa_cons (pe_lst pa_nil) pa_nil))) (by rfl))
    (pss_cons (ps_for PassesOwn.never rfl (pi_tup (pv 0)) (pg_name (i := 6) sc__ends_of_or.nd rfl (Or.inl rfl)) (pss_cons (ps_asg (pe_cl G_ends_of (hr.mono (by omega)) rfl (pa_cons (pv 6) (pa_cons (pv 1) (pa_cons (pv 2) pa_nil)))) (pg_tup rfl (pgs_cons (pg_name (i := 7) sc__ends_of_or.nd rfl (Or.inl rfl)) (pgs_cons (pg_name (i := 8) sc__ends_of_or.nd rfl (Or.inl rfl)) (pgs_cons (pg_name (i := 9) sc__ends_of_or.nd rfl (Or.inl rfl)) pgs_nil)))))
    (pss_cons (ps_set (i := 4) sc__ends_of_or.nd rfl (Or.inl rfl) (pe_op op_cat (pv 4) (pv 8)))
    (pss_cons (ps_set (i := 5) sc__ends_of_or.nd rfl (Or.inl rfl) (pe_op op_cat (pv 5) (pv 9)))
    (pss_one (ps_set (i := 3) sc__ends_of_or.nd rfl (Or.inl rfl) (pe_or (pv 3) (pe_one (pv 7)))))))))
    (pss_one (ps_ret (pe_tup (pa_cons (pv 3) (pa_cons (pv 4) (pa_cons (pv 5) pa_nil)))))))), ?_⟩
  have hl := hX.len
  rw [List.length_map] at hl
  obtain ⟨xr, hxr⟩ := hRw.isl
  refine ⟨Nat.zero_le _, fun f0 hf0 => ⟨Nat.zero_le _, fun l0 hl0 => ⟨_, _, _, rfl, ?_⟩⟩⟩
  have s0 := (same_upd (o := .lst []) hf0).trans (same_upd (o := .lst []) hl0)
  refine ⟨_, rfl, p, rfl, ⟨_, SqT.of (s0 _ _ hp)⟩, for_tup (K := K) (a := p) (xs := xs) (fun i σ' H' => ∃ (f l : Addr) (o1 o2 o3 o4 : Option V), σ' = [some (.ref p), some (.ref la), some (.ref ra), some (.bl (gl.glA (es.take i) cs.length).nul), some (.ref f), some (.ref l), o1, o2, o3, o4] ∧ EndsR H0 H H' la ra cs (E.letters.letterss (es.take i)) (E.places.placess (es.take i)) F (gl.glA (es.take i) cs.length) f l)
    ⟨f0, l0, none, none, none, none, rfl, ⟨Fr.same s0, s0 _ _ (by show H la = _; rw [List.take_zero]; show H la = some (.lst ((cs ++ []).map _)); rw [List.append_nil]; exact hLe), hk0.trans s0, (hRw.same s0).eqv fun i j => ⟨.inl, fun h => h.elim id fun h => by cases h⟩, (same_upd hl0) _ _ upd_same, upd_same, (ne_of_none hLe hf0).symm, (ne_of_none hxr hf0).symm, (ne_of_none ((same_upd hf0) _ _ hLe) hl0).symm, (ne_of_none ((same_upd hf0) _ _ hxr) hl0).symm⟩⟩
    (fun i σ' H' _ h => ?_) (fun i y σ' H' hi h => ?_) (fun σ' H' h => ?_)⟩
  · obtain ⟨f, l, o1, o2, o3, o4, _, hR⟩ := h
    refine SqT.of (hR.fr _ _ hp (fun c => ?_) (fun c => ?_) fun kvs c => by cases c)
    · rw [c] at hp
      have : H la = some (.lst (cs.map fun c => V.str ⟨#[c]⟩)) := hLe
      rw [this] at hp
      cases hp
    · rw [c, hxr] at hp
      cases hp
  · obtain ⟨f, l, o1, o2, o3, o4, rfl, hR⟩ := h
    obtain ⟨d, hd1, hxd⟩ := hX.get hi
    rw [List.getElem?_map] at hd1
    obtain ⟨e, he, rfl⟩ := Option.map_eq_some_iff.mp hd1
    have hem := List.mem_of_getElem? he
    have hPers : Pers H H' := hR.fr.pers ⟨_, hLe⟩ ⟨_, hxr⟩ ⟨_, hR.le⟩ hR.rw.isl
    have hpl : E.places.placess (es.take (i + 1)) = E.places.placess (es.take i) + e.places := by rw [take_snoc he, placess_snoc]
    have hpt := placess_take es (i + 1)
    have hcl : (cs ++ E.letters.letterss (es.take i)).length = cs.length + E.places.placess (es.take i) := by rw [List.length_append, letterss_len]
    refine ⟨_, rfl, _, rfl, _, rfl, H0, y, la, ra, e, cs ++ E.letters.letterss (es.take i), _, rfl, (hes e hem).1, (hes e hem).2, hxd.pers hPers, ⟨hne, hR.le, by rw [hcl]; exact hR.rw, hR.k0, hnl, hnr, by rw [hcl]; omega⟩, fun t2 f2 l2 H2 ht2 hR2 => ?_⟩
    rw [hcl] at ht2 hR2
    refine ⟨t2, _, rfl, SqT.of ht2, rfl, _, _, rfl, _, _, rfl, _, _, rfl, rfl, ?_⟩
    have hfst : H2 f = some (.lst (natsV (gl.glA (es.take i) cs.length).fst)) := hR2.fr _ _ hR.fst hR.f1 hR.f2 fun kvs c => by cases c
    have hlst : H2 l = some (.lst (natsV (gl.glA (es.take i) cs.length).lst)) := hR2.fr _ _ hR.lst hR.l1 hR.l2 fun kvs c => by cases c
    obtain ⟨x2, hx2⟩ := hR2.rw.isl
    refine ⟨_, rfl, _, rfl, f, f2, _, _, rfl, rfl, hfst, hR2.fst, ?_, fun f3 hf3 => ?_⟩
    · rw [natsV_len, natsV_len]
      have a1 := (glA_len (es.take i) cs.length).fst
      have a2 := (gl_len e (cs.length + E.places.placess (es.take i))).fst
      exact Nat.le_trans (m := 40) (by omega) (by decide)
    have s3 := same_upd (o := .lst (natsV (gl.glA (es.take i) cs.length).fst ++ natsV (gl e (cs.length + E.places.placess (es.take i))).fst)) hf3
    refine ⟨_, rfl, _, rfl, l, l2, _, _, rfl, rfl, s3 _ _ hlst, s3 _ _ hR2.lst, ?_, fun l3 hl3 => ?_⟩
    · rw [natsV_len, natsV_len]
      have a1 := (glA_len (es.take i) cs.length).lst
      have a2 := (gl_len e (cs.length + E.places.placess (es.take i))).lst
      exact Nat.le_trans (m := 40) (by omega) (by decide)
    have S3 := s3.trans (same_upd (o := .lst (natsV (gl.glA (es.take i) cs.length).lst ++ natsV (gl e (cs.length + E.places.placess (es.take i))).lst)) hl3)
    have fin : ∀ b : Bool, b = ((gl.glA (es.take i) cs.length).par (gl e (cs.length + E.places.placess (es.take i)))).nul → ∃ (f l : Addr) (o1 o2 o3 o4 : Option V), ([some (.ref p), some (.ref la), some (.ref ra), some (.bl b), some (.ref f3), some (.ref l3), some y, some (.bl (gl e (cs.length + E.places.placess (es.take i))).nul), some (.ref f2), some (.ref l2)] : L2.St) = [some (.ref p), some (.ref la), some (.ref ra), some (.bl (gl.glA (es.take (i + 1)) cs.length).nul), some (.ref f), some (.ref l), o1, o2, o3, o4] ∧ EndsR H0 H _ la ra cs (E.letters.letterss (es.take (i + 1))) (E.places.placess (es.take (i + 1))) F (gl.glA (es.take (i + 1)) cs.length) f l := fun b hb => by
      have ev : (gl.glA (es.take i) cs.length).par (gl e (cs.length + E.places.placess (es.take i))) = gl.glA (es.take (i + 1)) cs.length := by
        have h := glA_snoc (es.take i) e cs.length
        rw [← take_snoc he, ← placess_eq] at h
        exact h.symm
      rw [ev] at hb
      refine ⟨f3, l3, _, _, _, _, by rw [hb], ⟨(hR.fr.trans hR2.fr).trans (Fr.same S3), ?_, hR2.k0.trans S3, ?_, ?_, ?_, (ne_of_none hR2.le hf3).symm, (ne_of_none hx2 hf3).symm, (ne_of_none (s3 _ _ hR2.le) hl3).symm, (ne_of_none (s3 _ _ hx2) hl3).symm⟩⟩
      · rw [take_snoc he, letterss_snoc, ← List.append_assoc]
        exact S3 _ _ hR2.le
      · rw [hpl, ← Nat.add_assoc, ← ev]
        have hrw2 := hR2.rw
        rw [hcl] at hrw2
        refine (hrw2.same S3).eqv fun a b => ?_
        unfold Gl.par
        simp only [List.mem_append]
        constructor
        · rintro ((h | h) | h)
          · exact .inl h
          · exact .inr (.inl h)
          · exact .inr (.inr h)
        · rintro (h | h | h)
          · exact .inl (.inl h)
          · exact .inl (.inr h)
          · exact .inr h
      · rw [← ev]
        show _ = some (HO.lst (natsV ((gl.glA (es.take i) cs.length).fst ++ (gl e (cs.length + E.places.placess (es.take i))).fst)))
        rw [← natsV_app]
        exact (same_upd hl3) _ _ upd_same
      · rw [← ev]
        show _ = some (HO.lst (natsV ((gl.glA (es.take i) cs.length).lst ++ (gl e (cs.length + E.places.placess (es.take i))).lst)))
        rw [← natsV_app]
        exact upd_same
    refine ⟨_, rfl, _, rfl, ite2 (fun c => ?_) (fun c => ?_)⟩
    · refine fin _ ?_
      show true = ((gl.glA (es.take i) cs.length).nul || (gl e (cs.length + E.places.placess (es.take i))).nul)
      rw [c, Bool.true_or]
    · refine ⟨_, rfl, fin _ ?_⟩
      show _ = ((gl.glA (es.take i) cs.length).nul || (gl e (cs.length + E.places.placess (es.take i))).nul)
      rw [Bool.eq_false_iff.mpr c, Bool.false_or]
  · obtain ⟨f, l, o1, o2, o3, o4, rfl, hR⟩ := h
    rw [hl, List.take_length] at hR
    refine ⟨_, rfl, _, rfl, _, rfl, (by show 3 ≤ sizeLine; decide), fun t ht => ?_⟩
    refine q t f l _ ?_ (hR.same (same_upd ht))
    rw [upd_same, hl, List.take_length]
abbrev N__ends_of : List Str := ["part", "letters", "rows", "word", "inner", "_", "first", "last"]
theorem sc__ends_of : FnScope ["part", "letters", "rows", "word", "inner", "_", "first", "last"] ["part", "letters", "rows"] (defScope s__ends_of) := ⟨rfl, rfl, rfl, by decide +kernel, rfl, by decide +kernel, by decide +kernel⟩
set_option maxHeartbeats 1000000 in
theorem ok_ends_step {f : Addr} {fd : FuncData} (B : Bt K mg a_BOUNDS a_LONG_BOUNDS tL tM) (Dd : Df K mg "_ends_of" s__ends_of ["part", "letters", "rows"] f fd) (G_link : Cl P w K mg base 1 "_link" ["rows", "ends", "begins"] (spLink K)) (G_ends_of_leaf : Cl P w K mg base 1 "_ends_of_leaf" ["part", "letters", "rows"] spLeaf) (n k : Nat) (hk : 1 ≤ k)
    (G_ends_of : Cl P w K mg base k "_ends_of" ["part", "letters", "rows"] (spEnds n)) (G_ends_of_join : Cl P w K mg base (k + 1) "_ends_of_join" ["parts", "letters", "rows"] (spRow n gl.glJ)) (G_ends_of_or : Cl P w K mg base (k + 1) "_ends_of_or" ["parts", "letters", "rows"] (spRow n gl.glA)) : FnOk P w K mg base CX0 (k + 2) f fd ["part", "letters", "rows"] (spEnds (n + 1)) := by
  refine Dd.F.ok sc__ends_of (fun vs H Q Ex h => ?_) (fun cdv A outer s H vs Q Ex hr h => ?_)
  · obtain ⟨H0, v, la, ra, e, cs, F, rfl, _⟩ := h
    rfl
  obtain ⟨H0, v, la, ra, e, cs, F, rfl, hok, hd, hR, hP, q⟩ := h
  refine ⟨_, (pss_cons (ps_if (pt_val (pe_callB call_isi rfl B.b_isinstance boot_isinstance (pa_cons (pv 0) (pa_cons (pe_bltn (v := .ty "str") rfl B.b_str boot_str rfl) pa_nil)))) (pss_one (ps_ret (pe_cl G_ends_of_leaf (hr.mono (by omega)) rfl (pa_cons (pv 0) (pa_cons (pv 1) (pa_cons (pv 2) pa_nil)))))) pss_nil)
    (pss_cons (ps_asg (pv 0) (pg_tup rfl (pgs_cons (pg_name (i := 3) sc__ends_of.nd rfl (Or.inl rfl)) (pgs_cons (pg_name (i := 4) sc__ends_of.nd rfl (Or.inl rfl)) pgs_nil))))
    (pss_cons (ps_if (pt_cmpR op_eq (pv 3) pe_str (nomark _)) (pss_one (ps_ret (pe_cl G_ends_of_join (hr.mono (by omega)) rfl (pa_cons (pv 4) (pa_cons (pv 1) (pa_cons (pv 2) pa_nil)))))) pss_nil)
    (pss_cons (ps_if (pt_cmpR op_eq (pv 3) pe_str (nomark _)) (pss_one (ps_ret (pe_cl G_ends_of_or (hr.mono (by omega)) rfl (pa_cons (pv 4) (pa_cons (pv 1) (pa_cons (pv 2) pa_nil)))))) pss_nil)
    (pss_cons (ps_asg (pe_cl G_ends_of (hr.mono (by omega)) rfl (pa_cons (pv 4) (pa_cons (pv 1) (pa_cons (pv 2) pa_nil)))) (pg_tup rfl (pgs_cons (pg_name (i := 5) sc__ends_of.nd rfl (Or.inl rfl)) (pgs_cons (pg_name (i := 6) sc__ends_of.nd rfl (Or.inl rfl)) (pgs_cons (pg_name (i := 7) sc__ends_of.nd rfl (Or.inl rfl)) pgs_nil)))))
    (pss_cons (ps_if (pt_cmpR op_eq (pv 3) pe_str (nomark _)) (pss_one (ps_expr (pe_cl G_link (hr.mono (by omega)) rfl (pa_cons (pv 2) (pa_cons (pv 7) (pa_cons (pv 6) pa_nil)))))) pss_nil)
    (pss_one (ps_ret (pe_tup (pa_cons pe_bl (pa_cons (pv 6) (pa_cons (pv 7) pa_nil)))))))))))), ?_⟩
  obtain ⟨t, ht, k1, _⟩ := hR.ty (K := K)
  refine ⟨_, rfl, _, _, _, _, _, rfl, .ty _, ht, k1, _, rfl, ite2 (fun e1 => ?_) (fun e1 => ?_)⟩
  · obtain ⟨z, rfl, hz⟩ : ∃ z, v = .str z ∧ ((z = sNo ∧ e = .eps) ∨ ∃ c, z = ⟨#[c]⟩ ∧ e = .sym c) := by
      cases e with
      | eps => rw [E.toD] at hR; cases hR; exact ⟨_, rfl, .inl ⟨rfl, rfl⟩⟩
      | sym c => rw [E.toD] at hR; cases hR; exact ⟨_, rfl, .inr ⟨c, rfl, rfl⟩⟩
      | maybe k => exact absurd e1 (by rw [E.toD]; intro c; cases c)
      | many k => exact absurd e1 (by rw [E.toD]; intro c; cases c)
      | join es => exact absurd e1 (by rw [E.toD]; intro c; cases c)
      | alt es => exact absurd e1 (by rw [E.toD]; intro c; cases c)
    exact ⟨_, rfl, _, rfl, _, rfl, H0, z, la, ra, e, cs, F, rfl, hz, hP, q⟩
  · obtain ⟨w, y, p, x, hlw, rfl, hp, hx, hk'⟩ := node_of hok hR e1
    refine ⟨_, rfl, p, _, rfl, SqT.of hp, rfl, _, _, rfl, _, _, rfl, rfl, ?_⟩
    refine ⟨_, rfl, rfl, _, rfl, ite2 (fun e2 => ?_) (fun e2 => ?_)⟩
    · have hw := vstr e2
      rcases hk' with (⟨h, k, rfl, rfl⟩ | ⟨h, k, rfl, rfl⟩) | ⟨h, es, rfl, hes, rfl⟩ | ⟨h, es, rfl, _, rfl⟩
      · exact absurd (hw.symm.trans h) jm
      · exact absurd (hw.symm.trans h) jn
      · obtain ⟨p2, xs, rfl, hp2, hz2, hX⟩ := hx.untup
        refine ⟨_, rfl, _, rfl, _, rfl, H0, p2, la, ra, xs, es, cs, F, rfl, hp2, hX, fun k hk => ⟨ok_kids hok k hk, ?_⟩, hP, q⟩
        have := depth_kids (.join es) k hk
        omega
      · exact absurd (hw.symm.trans h) jo
    refine ⟨_, rfl, rfl, _, rfl, ite2 (fun e3 => ?_) (fun e3 => ?_)⟩
    · have hw := vstr e3
      rcases hk' with (⟨h, k, rfl, rfl⟩ | ⟨h, k, rfl, rfl⟩) | ⟨h, es, rfl, hes, rfl⟩ | ⟨h, es, rfl, _, rfl⟩
      · exact absurd (hw.symm.trans h) om
      · exact absurd (hw.symm.trans h) on
      · exact absurd (h.symm.trans hw) jo
      · obtain ⟨p2, xs, rfl, hp2, hz2, hX⟩ := hx.untup
        refine ⟨_, rfl, _, rfl, _, rfl, H0, p2, la, ra, xs, es, cs, F, rfl, hp2, hX, fun k hk => ⟨ok_kids hok k hk, ?_⟩, hP, q⟩
        have := depth_kids (.alt es) k hk
        omega
    have hk2 := hk'.resolve_right fun c => c.elim (fun h => vstrN e2 h.1) (fun h => vstrN e3 h.1)
    obtain ⟨k0, hy, hok0, hd0, hpl, hle, hwk⟩ : ∃ k0 : E, y = k0.toD ∧ k0.ok = true ∧ k0.depth < n ∧ e.places = k0.places ∧ e.letters = k0.letters ∧ ((w = sMaybe ∧ e = .maybe k0) ∨ (w = sMany ∧ e = .many k0)) := by
      rcases hk2 with ⟨h, k, rfl, rfl⟩ | ⟨h, k, rfl, rfl⟩
      · rw [E.ok] at hok
        rw [E.depth] at hd
        exact ⟨k, rfl, hok, by omega, by rw [E.places], by rw [E.letters], .inl ⟨h, rfl⟩⟩
      · rw [E.ok] at hok
        rw [E.depth] at hd
        exact ⟨k, rfl, hok, by omega, by rw [E.places], by rw [E.letters], .inr ⟨h, rfl⟩⟩
    subst hy
    rw [hpl] at hP
    refine ⟨_, rfl, _, rfl, _, rfl, H0, x, la, ra, k0, cs, F, rfl, hok0, hd0, hx, hP, fun t2 f2 l2 H2 ht2 hR2 => ?_⟩
    refine ⟨t2, _, rfl, SqT.of ht2, rfl, _, _, rfl, _, _, rfl, _, _, rfl, rfl, ?_⟩
    have fin : ∀ H3, EndsR H0 H H3 la ra cs e.letters e.places F (gl e cs.length) f2 l2 → ([V.bl true, .ref f2, .ref l2].length ≤ sizeLine ∧ ∀ t, H3 t = none → Q (.ref t) (upd H3 t (.tup [V.bl true, .ref f2, .ref l2]))) := fun H3 h3 => ⟨(by show 3 ≤ sizeLine; decide), fun t ht => q t f2 l2 _ (by
      rw [upd_same]
      have : (gl e cs.length).nul = true := by rcases hwk with ⟨_, rfl⟩ | ⟨_, rfl⟩ <;> (rw [gl])
      rw [this]) (h3.same (same_upd ht))⟩
    refine ⟨_, rfl, rfl, _, rfl, ite2 (fun e4 => ?_) (fun e4 => ?_)⟩
    · have hw := vstr e4
      have hem : e = .many k0 := by
        rcases hwk with ⟨h, _⟩ | ⟨_, h⟩
        · exact absurd (h.symm.trans hw) mn
        · exact h
      have W := gl_within k0 cs.length
      have hsz := hP.sz
      refine ⟨_, rfl, _, rfl, _, rfl, H0, ra, l2, f2, _, _, _, _, rfl, hR2.rw, hR2.lst, hR2.fst, fun i hi => (W.lst i hi).2, fun j hj => by have := W.fst j hj; omega, fun H3 h3 h30 hRw3 => ?_⟩
      have nd : ∀ (xs : List V) kvs, HO.lst xs ≠ .dK kvs := fun _ _ c => by cases c
      refine ⟨_, rfl, _, rfl, fin H3 ?_⟩
      rw [hpl, hle]
      subst hem
      refine ⟨hR2.fr.trans fun b o hb h1 h2 h4 => h3 b o hb h4, h3 _ _ hR2.le (nd _), fun b o hb => h30 b o hb (hR2.k0 b o hb), hRw3.eqv fun i j => ?_, ?_, ?_, hR2.f1, hR2.f2, hR2.l1, hR2.l2⟩
      · rw [gl]
        show _ ↔ F i j ∨ (i, j) ∈ (gl k0 cs.length).fol ++ prodL (gl k0 cs.length).lst (gl k0 cs.length).fst
        rw [List.mem_append, mem_prodL, or_assoc]
      · rw [gl]
        exact h3 _ _ hR2.fst (nd _)
      · rw [gl]
        exact h3 _ _ hR2.lst (nd _)
    · have hw := vstrN e4
      have hem : e = .maybe k0 := by
        rcases hwk with ⟨_, h⟩ | ⟨h, _⟩
        · exact h
        · exact absurd h hw
      refine ⟨_, rfl, _, rfl, fin H2 ?_⟩
      rw [hpl, hle]
      subst hem
      refine ⟨hR2.fr, hR2.le, hR2.k0, hR2.rw.eqv fun i j => ?_, ?_, ?_, hR2.f1, hR2.f2, hR2.l1, hR2.l2⟩
      · rw [gl]
      · rw [gl]
        exact hR2.fst
      · rw [gl]
        exact hR2.lst
end
end My
namespace My
open PySem PySem.Spec PyProof.Rows L2
theorem boot_sorted : bootBuiltins "sorted" = some (.builtin "sorted") := by decide +kernel
def rTupOf (K : PySem.W.Frag) : List V → Hp → VK → Prop := fun xs H Q => ∃ p ys, xs = [.ref p] ∧ ((SqL K H p ys ∧ ∀ l, H l = none → Q (.ref l) (upd H l (.tup ys))) ∨ (SqT K H p ys ∧ Q (.ref p) H))
theorem call_tuple_ofK {X : Cx} : CallR X (.type "tuple") (rTupOf X.K) := call_tuple_of
theorem len_toList2 (z : Str) : z.cps.toList.length = z.length := Array.length_toList
theorem join_flat2 (ys : List Str) : (Txt.join sNo ys).cps.toList = (ys.map fun z => z.cps.toList).flatten := by
  rw [TL.join_eq]
  have e := TL.tl_join sNo ys
  have j : ∀ ps : List (List Nat), TL.joinL [] ps = ps.flatten := by
    intro ps
    induction ps with
    | nil => rfl
    | cons p ps ih =>
      cases ps with
      | nil => show p = (p :: []).flatten; simp
      | cons q r =>
        show p ++ ([] ++ TL.joinL [] (q :: r)) = _
        rw [ih]
        rfl
  have n : TL.tl sNo = [] := by decide +kernel
  rw [n, j] at e
  exact e
/-! ### a class's calls -/
structure Ck (P : Program) (w : World) (K : PySem.W.Frag) (mg : Str → Option Value) (base : Heap) (k : Nat) (x : Str) (ps : List Str) (sp : Sp) (C : Addr) : Prop where
  ex : ∃ (f : Addr) (fd : FuncData), Mk K C f ∧ FnOk P w K mg base CX0 k f fd ps sp ∧ Binds K fd ps [] ∧ mg x = some (.ref C)
theorem pe_mk {X : Cx} {k : Nat} {x : Str} {ps : List Str} {sp : Sp} {C : Addr} {p pos : Pos} {e : Expr} {es : List Expr} {t : TA} (h : Ck X.prog X.w X.K X.mg X.base k x ps sp C) (hr : Room (k + 1) X.A) (hg : L2.Gl X x) (ha : PA X (e :: es) t)
    (hdb : (x == ("__debug__" : Str)) = false := by decide) (he : starEach (e :: es) X.env = (false, eval e X.env) :: starEach es X.env := by rfl) (hpl : (backTo pos (starEach es X.env)).any (·.1) = false := by rfl) :
    PE X (.Call (.Name x p) (e :: es) [] pos) (tMake C sp [] E0 t) := by
  obtain ⟨f, fd, M, F, b, m⟩ := h.ex
  exact pe_make M F hr hg m b .nil pass0 ha hdb he hpl
/-! ### the object that tells the steps -/
theorem n1 : ¬ (("letters" : Str) = "empty") := by decide +kernel
theorem n2 : ¬ (("letters" : Str) = "first") := by decide +kernel
theorem n3 : ¬ (("letters" : Str) = "last") := by decide +kernel
theorem n4 : ¬ (("letters" : Str) = "following") := by decide +kernel
theorem n5 : ¬ (("empty" : Str) = "first") := by decide +kernel
theorem n6 : ¬ (("empty" : Str) = "last") := by decide +kernel
theorem n7 : ¬ (("empty" : Str) = "following") := by decide +kernel
theorem n8 : ¬ (("first" : Str) = "last") := by decide +kernel
theorem n9 : ¬ (("first" : Str) = "following") := by decide +kernel
theorem n0 : ¬ (("last" : Str) = "following") := by decide +kernel
def stF (z b f l o : V) : List (Str × V) := putF "following" o (putF "last" l (putF "first" f (putF "empty" b (putF "letters" z []))))
theorem stF_letters (z b f l o : V) : (stF z b f l o).lookup ("letters" : Str) = some z := by
  unfold stF
  rw [lookup_putF, if_neg n4, lookup_putF, if_neg n3, lookup_putF, if_neg n2, lookup_putF, if_neg n1, lookup_putF, if_pos rfl]
theorem stF_first (z b f l o : V) : (stF z b f l o).lookup ("first" : Str) = some f := by
  unfold stF
  rw [lookup_putF, if_neg n9, lookup_putF, if_neg n8, lookup_putF, if_pos rfl]
theorem stF_last (z b f l o : V) : (stF z b f l o).lookup ("last" : Str) = some l := by
  unfold stF
  rw [lookup_putF, if_neg n0, lookup_putF, if_pos rfl]
theorem stF_following (z b f l o : V) : (stF z b f l o).lookup ("following" : Str) = some o := by
  unfold stF
  rw [lookup_putF, if_pos rfl]
theorem putF_len (f : Str) (v : V) : ∀ fs : List (Str × V), (putF f v fs).length ≤ fs.length + 1
  | [] => Nat.le_refl _
  | (g, x) :: r => by
    have := putF_len f v r
    unfold putF
    split
    · exact Nat.le_succ _
    · rw [List.length_cons, List.length_cons]; omega
structure StTxt (K : PySem.W.Frag) (C : Addr) : Prop where
  cl : Cls K C
  a1 : NoAttr K C "letters"
  a2 : NoAttr K C "empty"
  a3 : NoAttr K C "first"
  a4 : NoAttr K C "last"
  a5 : NoAttr K C "following"
def spInit (C : Addr) : Sp := fun vs H Q _ => ∃ (p dx : Addr) (z b f l o : V), vs = [.ref p, z, b, f, l, o] ∧ H p = some (.ins C dx []) ∧ ∀ H' : Hp, H' p = some (.ins C dx (stF z b f l o)) → (∀ q u, H q = some u → q ≠ p → H' q = some u) → Q .non H'
def folAt (e : E) (i : Nat) : List Nat := (List.range e.places).filter fun j => decide ((i, j) ∈ (gl e 0).fol)
structure StepsAt (C : Addr) (H : Hp) (p : Addr) (e : E) : Prop where
  ex : ∃ (dx f l o : Addr) (z : Str) (ts : List V), H p = some (.ins C dx (stF (.str z) (.bl (gl e 0).nul) (.ref f) (.ref l) (.ref o))) ∧ z.cps.toList = e.letters ∧ H f = some (.tup (natsV (gl e 0).fst)) ∧ H l = some (.tup (natsV (gl e 0).lst)) ∧ H o = some (.lst ts) ∧ ts.length = e.places ∧
    ∀ i t, ts[i]? = some t → ∃ q, t = .ref q ∧ H q = some (.tup (natsV (folAt e i)))
theorem StepsAt.same {C : Addr} {H H' : Hp} {p : Addr} {e : E} (s : Same H H') (h : StepsAt C H p e) : StepsAt C H' p e := by
  obtain ⟨dx, f, l, o, z, ts, h1, h2, h3, h4, h5, h6, h7⟩ := h.ex
  refine ⟨dx, f, l, o, z, ts, s _ _ h1, h2, s _ _ h3, s _ _ h4, s _ _ h5, h6, fun i t ht => ?_⟩
  obtain ⟨q, a, b⟩ := h7 i t ht
  exact ⟨q, a, s _ _ b⟩
def spSteps (C : Addr) : Sp := fun vs H Q _ => ∃ (v : V) (e : E), vs = [v] ∧ e.ok = true ∧ e.depth < 42 ∧ e.places ≤ 40 ∧ Rep H v e.toD ∧ ∀ p H', Same H H' → StepsAt C H' p e → Q (.ref p) H'
/-- strictly rising lists with the same members -/
theorem eq_of_rise : ∀ (a b : List Int), a.Pairwise (· < ·) → b.Pairwise (· < ·) → (∀ x, x ∈ a ↔ x ∈ b) → a = b
  | [], [], _, _, _ => rfl
  | [], y :: b, _, _, h => by have := (h y).mpr (List.mem_cons_self ..); cases this
  | x :: a, [], _, _, h => by have := (h x).mp (List.mem_cons_self ..); cases this
  | x :: a, y :: b, ha, hb, h => by
    rw [List.pairwise_cons] at ha hb
    have e : x = y := by
      rcases List.mem_cons.mp ((h x).mp (List.mem_cons_self ..)) with c | c
      · exact c
      · rcases List.mem_cons.mp ((h y).mpr (List.mem_cons_self ..)) with d | d
        · exact d.symm
        · have := hb.1 x c
          have := ha.1 y d
          omega
    subst e
    rw [eq_of_rise a b ha.2 hb.2 fun z => ?_]
    constructor
    · intro hz
      rcases List.mem_cons.mp ((h z).mp (List.mem_cons_of_mem _ hz)) with c | c
      · have := ha.1 z hz
        omega
      · exact c
    · intro hz
      rcases List.mem_cons.mp ((h z).mpr (List.mem_cons_of_mem _ hz)) with c | c
      · have := hb.1 z hz
        omega
      · exact c
theorem rise_of {ks ys : List Int} (h : ys.Perm ks) (s : ys.Pairwise (· ≤ ·)) (n : ks.Nodup) : ys.Pairwise (· < ·) := by
  have n' : ys.Nodup := h.nodup_iff.mpr n
  exact (s.and n').imp fun ⟨a, b⟩ => by omega
theorem fol_rise (e : E) (i : Nat) : ((folAt e i).map fun (j : Nat) => (j : Int)).Pairwise (· < ·) := by
  rw [List.pairwise_map]
  unfold folAt
  refine (List.pairwise_lt_range.filter _).imp fun h => by omega
theorem natsV_int (xs : List Nat) : natsV xs = (xs.map fun (j : Nat) => (j : Int)).map V.int := by
  unfold natsV
  rw [List.map_map]
  rfl
section
variable {P : Program} {w : World} {K : PySem.W.Frag} {mg : Str → Option Value} {base : Heap} {a_BOUNDS a_LONG_BOUNDS : Addr} {tL tM : Tok}
abbrev N_Steps___init__ : List Str := ["self", "letters", "empty", "first", "last", "following"]
theorem sc_Steps___init__ : FnScope ["self", "letters", "empty", "first", "last", "following"] ["self", "letters", "empty", "first", "last", "following"] (defScope s_Steps___init__) := ⟨rfl, rfl, rfl, by decide +kernel, rfl, by decide +kernel, by decide +kernel⟩
theorem ok_stepsinit {C f : Addr} {fd : FuncData} (F : Fun K "__init__" "Steps.__init__" s_Steps___init__ f fd) (T : StTxt K C) : FnOk P w K mg base CX0 1 f fd ["self", "letters", "empty", "first", "last", "following"] (spInit C) := by
  refine F.ok sc_Steps___init__ (fun vs H Q Ex h => ?_) (fun cdv A outer s H vs Q Ex hr h => ?_)
  · obtain ⟨p, dx, z, b, f, l, o, rfl, _⟩ := h
    rfl
  obtain ⟨p, dx, z, b, f, l, o, rfl, hp, q⟩ := h
  refine ⟨_, (pss_cons (ps_fld (pv 0) (pv 1) rfl)
    (pss_cons (ps_fld (pv 0) (pv 2) rfl)
    (pss_cons (ps_fld (pv 0) (pv 3) rfl)
    (pss_cons (ps_fld (pv 0) (pv 4) rfl)
    (pss_one (ps_fld (pv 0) (pv 5) rfl)))))), ?_⟩
  have L0 : (putF "letters" z ([] : List (Str × V))).length ≤ 1 := putF_len _ _ _
  have L1 := putF_len "empty" b (putF "letters" z [])
  have L2' := putF_len "first" f (putF "empty" b (putF "letters" z []))
  have L3 := putF_len "last" l (putF "first" f (putF "empty" b (putF "letters" z [])))
  refine ⟨_, rfl, _, rfl, p, C, dx, _, rfl, hp, T.cl, T.a1, (by show 0 < 1000; decide), ?_⟩
  refine ⟨_, rfl, _, rfl, p, C, dx, _, rfl, upd_same, T.cl, T.a2, (by omega), ?_⟩
  refine ⟨_, rfl, _, rfl, p, C, dx, _, rfl, upd_same, T.cl, T.a3, (by omega), ?_⟩
  refine ⟨_, rfl, _, rfl, p, C, dx, _, rfl, upd_same, T.cl, T.a4, (by omega), ?_⟩
  refine ⟨_, rfl, _, rfl, p, C, dx, _, rfl, upd_same, T.cl, T.a5, (by omega), ?_⟩
  exact q _ upd_same fun x u hx hn => by rw [upd_ne hn, upd_ne hn, upd_ne hn, upd_ne hn, upd_ne hn]; exact hx
abbrev N_steps_of : List Str := ["expression", "letters", "rows", "empty", "first", "last", "following", "row"]
theorem sc_steps_of : FnScope ["expression", "letters", "rows", "empty", "first", "last", "following", "row"] ["expression"] (defScope s_steps_of) := ⟨rfl, rfl, rfl, by decide +kernel, rfl, by decide +kernel, by decide +kernel⟩
set_option maxHeartbeats 1000000 in
theorem ok_stepsof {C f : Addr} {fd : FuncData} (B : Bt K mg a_BOUNDS a_LONG_BOUNDS tL tM) (Dd : Df K mg "steps_of" s_steps_of ["expression"] f fd) (G_ends_of : Cl P w K mg base 86 "_ends_of" ["part", "letters", "rows"] (spEnds 42)) (MSteps : Ck P w K mg base 1 "Steps" ["self", "letters", "empty", "first", "last", "following"] (spInit C) C) : FnOk P w K mg base CX0 87 f fd ["expression"] (spSteps C) := by
  refine Dd.F.ok sc_steps_of (fun vs H Q Ex h => ?_) (fun cdv A outer s H vs Q Ex hr h => ?_)
  · obtain ⟨v, e, rfl, _⟩ := h
    rfl
  obtain ⟨v, e, rfl, hok, hd, hpl, hR, q⟩ := h
  refine ⟨_, (pss_cons (ps_set (i := 1) sc_steps_of.nd rfl (Or.inl rfl) (pe_lst pa_nil))
    (pss_cons (ps_set (i := 2) sc_steps_of.nd rfl (Or.inl rfl) (pe_lst pa_nil))
    (pss_cons (ps_asg (pe_cl G_ends_of (hr.mono (by omega)) rfl (pa_cons (pv 0) (pa_cons (pv 1) (pa_cons (pv 2) pa_nil)))) (pg_tup rfl (pgs_cons (pg_name (i := 3) sc_steps_of.nd rfl (Or.inl rfl)) (pgs_cons (pg_name (i := 4) sc_steps_of.nd rfl (Or.inl rfl)) (pgs_cons (pg_name (i := 5) sc_steps_of.nd rfl (Or.inl rfl)) pgs_nil)))))
    (pss_cons (ps_setLc (i := 6) (own := [("row", 7)]) (g := gName 7) (tt := tYes) rfl sc_steps_of.nd rfl rfl (sw_true rfl rfl rfl (by decide +kernel)) (pi_list (pv 2)) (blkOk_by (N := N_steps_of) (sc := defScope s_steps_of) (by decide +kernel)) (fun _ _ _ _ _ => pg_name (i := 7) sc_steps_of.nd rfl (Or.inl rfl)) (fun _ _ _ _ _ => pts_nil) (fun _ _ _ _ _ => (pe_callTy (r := rTupOf K) call_tuple_ofK rfl B.b_tuple boot_tuple (pa_cons (pe_callB (call_sortedDI rfl) rfl B.b_sorted boot_sorted (pa_cons (pv 7) pa_nil)) pa_nil))))
    (pss_one (ps_ret (pe_mk MSteps (hr.mono (by omega)) rfl (pa_cons (pe_join pe_str (pv 1)) (pa_cons (pv 3) (pa_cons (pe_callTy call_tuple_of rfl B.b_tuple boot_tuple (pa_cons (pv 4) pa_nil)) (pa_cons (pe_callTy call_tuple_of rfl B.b_tuple boot_tuple (pa_cons (pv 5) pa_nil)) (pa_cons (pv 6) pa_nil)))))))))))), ?_⟩
  refine ⟨Nat.zero_le _, fun la hla => ⟨Nat.zero_le _, fun ra hra => ?_⟩⟩
  have s0 := (same_upd (o := .lst []) hla).trans (same_upd (o := .lst []) hra)
  have hne : la ≠ ra := fun c => by rw [← c, upd_same] at hra; cases hra
  have hLe : LetAt (upd (upd H la (.lst [])) ra (.lst [])) la [] := (same_upd hra) _ _ upd_same
  have hRw : RowsAt H (upd (upd H la (.lst [])) ra (.lst [])) ra 0 (fun _ _ => False) := ⟨⟨[], upd_same, rfl, List.nodup_nil, fun i d h => by simp at h⟩, fun i j h => h.elim, fun i j h => h.elim, fun ds hds d hd => by
    rw [upd_same] at hds
    have e1 : ([] : List Addr).map V.ref = ds.map V.ref := HO.lst.inj (Option.some.inj hds)
    have e2 : [] = ds := map_ref_inj e1
    rw [← e2] at hd
    cases hd⟩
  refine ⟨_, rfl, _, rfl, _, rfl, H, v, la, ra, e, [], _, rfl, hok, hd, hR.pers (Pers.same s0), ⟨hne, hLe, hRw, s0, hla, (same_upd hla).free hra, by show 0 + e.places ≤ 40; omega⟩, fun t f0 l0 H2 ht hE => ?_⟩
  refine ⟨t, _, rfl, SqT.of ht, rfl, _, _, rfl, _, _, rfl, _, _, rfl, rfl, ?_⟩
  obtain ⟨ds, d1, d2, d3, d4⟩ := hE.rw.ex
  have W := gl_within e 0
  -- following
  refine ⟨_, rfl, ra, rfl, ⟨_, SqL.of d1⟩, fun L hL => ?_⟩
  refine lc_list (K := K) (a := ra) (xs := ds.map V.ref) (fun i H3 => Same H2 H3 ∧ ∃ ts : List V, ts.length = i ∧ H3 L = some (.lst ts) ∧ ∀ j t, ts[j]? = some t → ∃ q, t = .ref q ∧ q ≠ L ∧ H3 q = some (.tup (natsV (folAt e j)))) ⟨same_upd hL, [], rfl, upd_same, fun j t h => by simp at h⟩ (fun i H3 _ h => SqL.of (h.1 _ _ d1)) (fun i x H3 hx h => ?_) (fun H3 h => ?_)
  · obtain ⟨h1, ts, h2, h3, h4⟩ := h
    rw [List.getElem?_map] at hx
    obtain ⟨d, hdd, rfl⟩ := Option.map_eq_some_iff.mp hx
    have hi := (List.getElem?_eq_some_iff.mp hdd).1
    obtain ⟨ms, m1, m2, m3⟩ := d4 i d hdd
    have hml : ms.length ≤ 40 := nodup_len 40 ms m2 fun x hx => by
      obtain ⟨j, rfl, hf⟩ := (m3 x).mp hx
      have := hE.rw.bd i j hf
      omega
    refine ⟨rfl, tyes ⟨_, rfl, d, keysD ms, ms, rfl, .inl (h1 _ _ m1), ?_, by omega, fun ys p hp1 hp2 hp3 => ⟨p, _, rfl, .inl ⟨SqL.of upd_same, fun q hq => ⟨ts, ?_, ?_, ?_, ts ++ [.ref q], by rw [List.length_append, h2]; rfl, upd_same, fun j t ht => ?_⟩⟩⟩⟩⟩
    · unfold keysD
      rw [List.map_map]
      rfl
    · exact (same_upd hq) _ _ ((same_upd hp3) _ _ h3)
    · have hdl : i < ds.length := hi
      have : ds.length = 0 + e.places := d2
      exact Nat.lt_of_le_of_lt (m := 40) (by omega) (by decide)
    · exact fun b o hb => by rw [upd_ne (ne_of_none hb hL)]; exact (same_upd hq) _ _ ((same_upd hp3) _ _ (h1 _ _ hb))
    · have hqL : q ≠ L := (ne_of_none ((same_upd hp3) _ _ h3) hq).symm
      rcases Nat.lt_or_ge j ts.length with hj | hj
      · rw [List.getElem?_append_left hj] at ht
        obtain ⟨q', a1, a2, a3⟩ := h4 j t ht
        exact ⟨q', a1, a2, by rw [upd_ne a2]; exact (same_upd hq) _ _ ((same_upd hp3) _ _ a3)⟩
      · rw [List.getElem?_append_right hj] at ht
        have hj2 : j - ts.length = 0 := by
          have := (List.getElem?_eq_some_iff.mp ht).1
          simp at this
          omega
        rw [hj2] at ht
        cases ht
        have hji : j = i := by omega
        subst hji
        refine ⟨q, rfl, hqL, ?_⟩
        rw [upd_ne hqL, upd_same]
        have e1 : ys = (folAt e j).map fun (k : Nat) => (k : Int) := by
          refine eq_of_rise _ _ (rise_of hp1 hp2 m2) (fol_rise e j) fun x => ?_
          rw [hp1.mem_iff, m3]
          unfold folAt
          constructor
          · rintro ⟨k, rfl, hf | hf⟩
            · exact hf.elim
            · exact List.mem_map.mpr ⟨k, List.mem_filter.mpr ⟨List.mem_range.mpr (by have := (W.fol j k hf).2; omega), decide_eq_true hf⟩, rfl⟩
          · intro hx
            obtain ⟨k, hk, rfl⟩ := List.mem_map.mp hx
            exact ⟨k, rfl, .inr (of_decide_eq_true (List.mem_filter.mp hk).2)⟩
        rw [e1, natsV_int]
  · obtain ⟨h1, ts, h2, h3, h4⟩ := h
    have hle := h1 _ _ hE.le
    have hcs : ([] ++ e.letters : List Nat).length = e.places := by rw [List.nil_append, letters_len]
    -- Steps(..)
    refine ⟨⟨_, rfl⟩, _, rfl, sNo, la, ([] ++ e.letters).map (fun c => (⟨#[c]⟩ : Str)), rfl, rfl, .inl (SqL.of (by rw [List.map_map]; exact hle)), ?_, ?_⟩
    · have : (([] ++ e.letters).map (fun c => (⟨#[c]⟩ : Str))).map Str.length = List.replicate e.places 1 := by
        rw [List.map_map, ← hcs, ← List.map_const']
        rfl
      show ((([] ++ e.letters).map (fun c => (⟨#[c]⟩ : Str))).map Str.length).sum + _ ≤ _
      rw [this, List.sum_replicate_nat, lE]
      omega
    have hz : (Txt.join sNo (([] ++ e.letters).map (fun c => (⟨#[c]⟩ : Str)))).cps.toList = e.letters := by
      rw [join_flat2, List.map_map, List.nil_append]
      generalize e.letters = cs
      induction cs with
      | nil => rfl
      | cons c cs ih =>
        rw [List.map_cons, List.flatten_cons, ih]
        rfl
    have hf3 := h1 _ _ hE.fst
    have hl3 := h1 _ _ hE.lst
    refine ⟨_, rfl, _, rfl, f0, _, rfl, .inl ⟨SqL.of hf3, fun ft hft => ⟨_, rfl, l0, _, rfl, .inl ⟨SqL.of ((same_upd hft) _ _ hl3), fun lt hlt => ⟨_, rfl, fun x dx hx hdx hdn => ?_⟩⟩⟩⟩⟩
    refine ⟨x, dx, _, _, _, _, _, rfl, upd_same, fun H' hH' kp => ⟨rfl, ?_⟩⟩
    have sft := same_upd (o := .tup (natsV (gl e 0).fst)) hft
    have slt := same_upd (o := .tup (natsV (gl e 0).lst)) hlt
    have keep : ∀ b o, (upd (upd H3 ft (.tup (natsV (gl e 0).fst))) lt (.tup (natsV (gl e 0).lst))) b = some o → H' b = some o := fun b o hb => kp b o (by rw [upd_ne (ne_of_none hb hx), upd_ne (ne_of_none hb hdx)]; exact hb) (ne_of_none hb hx)
    have S3 : Same H3 H' := fun b o hb => keep b o (slt _ _ (sft _ _ hb))
    refine q x H' ((hE.k0.trans h1).trans S3) ⟨dx, ft, lt, L, _, ts, hH', hz, keep _ _ (slt _ _ upd_same), keep _ _ upd_same, S3 _ _ h3, ?_, fun i t ht => ?_⟩
    · rw [h2, List.length_map, d2]
      show 0 + e.places = e.places
      omega
    · obtain ⟨q', a1, a2, a3⟩ := h4 i t ht
      exact ⟨q', a1, S3 _ _ a3⟩
end
end My
namespace My
open PySem PySem.Spec PyProof.Rows L2
theorem boot_set : bootBuiltins "set" = some (.type "set") := by decide +kernel
theorem boot_sorted2 : bootBuiltins "sorted" = some (.builtin "sorted") := by decide +kernel
def spBehind (C : Addr) : Sp := fun vs H Q _ => ∃ (p r : Addr) (e : E) (xs : List Nat), vs = [.ref p, .ref r] ∧ StepsAt C H p e ∧ e.places ≤ 40 ∧ H r = some (.tup (natsV xs)) ∧ (∀ x ∈ xs, x < e.places) ∧ xs.length ≤ 1000 ∧
  ∀ (q : Addr) (ys : List Nat) H', Same H H' → H q = none → H' q = some (.lst (natsV ys)) → ys.Pairwise (· < ·) → (∀ y, y ∈ ys ↔ ∃ x ∈ xs, (x, y) ∈ (gl e 0).fol) → Q (.ref q) H'
/-- a set of places, told by a list of its members -/
def SetM (w : World) (H : Hp) (S : Addr) (ms : List Int) : Prop := ∃ (Sf : Int → Bool) (n : Nat), H S = some (SetO w S Sf n) ∧ (∀ k, Sf k = decide (k ∈ ms)) ∧ n = ms.length ∧ ms.Nodup
theorem mem_fol (e : E) (x y : Nat) : y ∈ folAt e x ↔ (x, y) ∈ (gl e 0).fol := by
  unfold folAt
  rw [List.mem_filter, List.mem_range, decide_eq_true_eq]
  exact ⟨fun h => h.2, fun h => ⟨by have := ((gl_within e 0).fol x y h).2; omega, h⟩⟩
theorem natsV_getB {xs : List Nat} {m : Nat} {y : V} (h : (natsV xs)[m]? = some y) : ∃ i, xs[m]? = some i ∧ y = .int (i : Int) := by
  unfold natsV at h
  rw [List.getElem?_map] at h
  obtain ⟨i, h1, rfl⟩ := Option.map_eq_some_iff.mp h
  exact ⟨i, h1, rfl⟩
section
variable {P : Program} {w : World} {K : PySem.W.Frag} {mg : Str → Option Value} {base : Heap} {a_BOUNDS a_LONG_BOUNDS : Addr} {tL tM : Tok}
abbrev N_places_behind : List Str := ["steps", "row", "found", "place", "other"]
theorem sc_places_behind : FnScope ["steps", "row", "found", "place", "other"] ["steps", "row"] (defScope s_places_behind) := ⟨rfl, rfl, rfl, by decide +kernel, rfl, by decide +kernel, by decide +kernel⟩
theorem ok_behind {C f : Addr} {fd : FuncData} (T : StTxt K C) (B : Bt K mg a_BOUNDS a_LONG_BOUNDS tL tM) (Dd : Df K mg "places_behind" s_places_behind ["steps", "row"] f fd) : FnOk P w K mg base CX0 1 f fd ["steps", "row"] (spBehind C) := by
  refine Dd.F.ok sc_places_behind (fun vs H Q Ex h => ?_) (fun cdv A outer s H vs Q Ex hr h => ?_)
  · obtain ⟨p, r, e, xs, rfl, _⟩ := h
    rfl
  obtain ⟨p, r, e, xs, rfl, hS, h40, hr0, hxs, hxl, q⟩ := h
  refine ⟨_, (pss_cons (ps_set (i := 2) sc_places_behind.nd rfl (Or.inl rfl) (pe_callTy0 cr_set0 rfl B.b_set boot_set))
    (pss_cons (ps_for PassesOwn.never rfl (pi_tup (pv 1)) (pg_name (i := 3) sc_places_behind.nd rfl (Or.inl rfl)) (pss_one (ps_for PassesOwn.never rfl (pi_tup (pe_ix (r := rIxL K) ix_list (pe_fld (pv 0) rfl) (pv 3) (fun _ _ => rfl))) (pg_name (i := 4) sc_places_behind.nd rfl (Or.inl rfl)) (pss_one (ps_expr (pe_sadd (pv 2) (pa_cons (pv 4) pa_nil)))))))
    (pss_one (ps_ret (pe_callB (cr_sortedSet rfl) rfl B.b_sorted boot_sorted (pa_cons (pv 2) pa_nil)))))), ?_⟩
  refine ⟨rfl, fun S hS0 => ?_⟩
  have base0 : SetM w (upd H S (SetO w S (fun _ => false) 0)) S [] := ⟨_, _, upd_same, fun k => (decide_eq_false (by intro h; cases h)).symm, rfl, List.nodup_nil⟩
  have rS : r ≠ S := ne_of_none hr0 hS0
  refine ⟨_, rfl, r, rfl, ⟨_, SqT.of ((same_upd hS0) _ _ hr0)⟩, for_tup (K := K) (a := r) (xs := natsV xs) (fun m σ' H' => ∃ (ms : List Int) (o3 o4 : Option V), σ' = [some (.ref p), some (.ref r), some (.ref S), o3, o4] ∧ Same H H' ∧ SetM w H' S ms ∧ ∀ k, k ∈ ms ↔ ∃ y : Nat, k = (y : Int) ∧ ∃ x ∈ xs.take m, (x, y) ∈ (gl e 0).fol) ?_ ?_ ?_ ?_⟩
  · exact ⟨[], none, none, rfl, same_upd hS0, base0, fun k => ⟨(fun h => by cases h), fun ⟨y, _, x, h, _⟩ => by cases h⟩⟩
  · rintro m σ' H' hm ⟨ms, o3, o4, rfl, s1, _⟩
    exact SqT.of (s1 _ _ hr0)
  · rintro m v σ' H1 hv ⟨ms, o3, o4, rfl, s1, hM, hms⟩
    obtain ⟨x, hx, rfl⟩ := natsV_getB hv
    have hxp := hxs x (List.mem_of_getElem? hx)
    obtain ⟨dx, f0, l0, o, z, ts, h1, h2, h3, h4, h5, h6, h7⟩ := (hS.same s1).ex
    obtain ⟨q1, e1, e2⟩ := h7 x _ (List.getElem?_eq_getElem (by omega))
    obtain ⟨dx', f0', l0', o', z', ts', h1', h2', h3', h4', h5', h6', h7'⟩ := hS.ex
    have ho : ∃ q2, H q2 = some (.tup (natsV (folAt e x))) ∧ q2 = q1 := by
      obtain ⟨q2, e3, e4⟩ := h7' x _ (List.getElem?_eq_getElem (by omega))
      have a1 := s1 _ _ h1'
      rw [h1] at a1
      have a2 : stF (.str z) (.bl (gl e 0).nul) (.ref f0) (.ref l0) (.ref o) = stF (.str z') (.bl (gl e 0).nul) (.ref f0') (.ref l0') (.ref o') := (HO.ins.inj (Option.some.inj a1)).2.2
      have a3 := congrArg (fun fs => fs.lookup ("following" : Str)) a2
      have a4 : (V.ref o) = .ref o' := by
        have b1 := stF_following (.str z) (.bl (gl e 0).nul) (.ref f0) (.ref l0) (.ref o)
        have b2 := stF_following (.str z') (.bl (gl e 0).nul) (.ref f0') (.ref l0') (.ref o')
        exact Option.some.inj (b1.symm.trans (a3.trans b2))
      have a5 := V.ref.inj a4
      subst a5
      have a6 := s1 _ _ h5'
      rw [h5] at a6
      have a7 : ts = ts' := HO.lst.inj (Option.some.inj a6)
      subst a7
      exact ⟨q2, e4, V.ref.inj (e3.symm.trans e1)⟩
    obtain ⟨q2, hq2, rfl⟩ := ho
    refine ⟨_, rfl, p, C, dx, _, _, rfl, h1, T.cl, T.a5, stF_following .., _, rfl, o, ts, (x : Int), ts[x]'(by omega), rfl, rfl, SqL.of h5, at_of (j := x) rfl (List.getElem?_eq_getElem (by omega)), q2, e1, ⟨_, SqT.of e2⟩, for_tup (K := K) (a := q2) (xs := natsV (folAt e x)) (fun c σ' H' => ∃ (ms : List Int) (o4 : Option V), σ' = [some (.ref p), some (.ref r), some (.ref S), some (.int (x : Int)), o4] ∧ Same H H' ∧ SetM w H' S ms ∧ ∀ k, k ∈ ms ↔ (∃ y : Nat, k = (y : Int) ∧ ∃ x ∈ xs.take m, (x, y) ∈ (gl e 0).fol) ∨ ∃ y : Nat, k = (y : Int) ∧ y ∈ (folAt e x).take c) ?_ ?_ ?_ ?_⟩
    · exact ⟨ms, o4, rfl, s1, hM, fun k => (hms k).trans ⟨.inl, fun h => h.elim id fun ⟨y, _, h⟩ => by cases h⟩⟩
    · rintro c σ' H' hc ⟨ms', o4', rfl, s2, _⟩
      exact SqT.of (s2 _ _ hq2)
    · rintro c v2 σ' H2 hv2 ⟨ms', o4', rfl, s2, ⟨Sf, n, hSs, hSf, hn, hnd⟩, hms'⟩
      obtain ⟨y, hy, rfl⟩ := natsV_getB hv2
      have hlen : ms'.length ≤ 40 := nodup_len 40 ms' hnd fun k hk => by
        have bd : ∀ a b, (a, b) ∈ (gl e 0).fol → b < e.places := fun a b h => by have := ((gl_within e 0).fol a b h).2; omega
        rcases (hms' k).mp hk with ⟨y, rfl, x', _, hf⟩ | ⟨y, rfl, hf⟩
        · have := bd _ _ hf
          omega
        · have := bd _ _ ((mem_fol e x y).mp (List.mem_of_mem_take hf))
          omega
      refine ⟨_, rfl, ⟨S, Sf, n, rfl, hSs⟩, _, rfl, S, (y : Int), Sf, n, rfl, rfl, hSs, ?_, addK ms' (y : Int), _, rfl, fun b o hb => ?_, ⟨_, _, upd_same, fun k => ?_, ?_, nodup_addK hnd⟩, fun k => ?_⟩
      · rw [hn]
        exact Nat.lt_of_le_of_lt (m := 41) (by omega) (by decide)
      · rw [upd_ne (ne_of_none hb hS0)]
        exact s2 _ _ hb
      · rw [hSf, ← Bool.decide_or]
        exact decide_eq_decide.mpr mem_addK.symm
      · rw [hSf, hn]
        unfold addK
        by_cases c1 : (y : Int) ∈ ms'
        · rw [if_pos c1, decide_eq_true c1]
          rfl
        · rw [if_neg c1, decide_eq_false c1, List.length_append]
          rfl
      · rw [mem_addK, hms', take_snoc hy]
        constructor
        · rintro ((h | ⟨y', rfl, h⟩) | rfl)
          · exact .inl h
          · exact .inr ⟨y', rfl, List.mem_append_left _ h⟩
          · exact .inr ⟨y, rfl, List.mem_append_right _ (List.mem_singleton.mpr rfl)⟩
        · rintro (h | ⟨y', rfl, h⟩)
          · exact .inl (.inl h)
          · rcases List.mem_append.mp h with h | h
            · exact .inl (.inr ⟨y', rfl, h⟩)
            · rw [List.mem_singleton] at h
              subst h
              exact .inr rfl
    · rintro σ' H2 ⟨ms', o4', rfl, s2, hM2, hms'⟩
      have hfl : (natsV (folAt e x)).length = (folAt e x).length := natsV_len _
      rw [hfl, List.take_length] at hms'
      refine ⟨ms', _, _, rfl, s2, hM2, fun k => ?_⟩
      rw [hms', take_snoc hx]
      constructor
      · rintro (⟨y, rfl, x', h, hf⟩ | ⟨y, rfl, h⟩)
        · exact ⟨y, rfl, x', List.mem_append_left _ h, hf⟩
        · exact ⟨y, rfl, x, List.mem_append_right _ (List.mem_singleton.mpr rfl), (mem_fol e x y).mp h⟩
      · rintro ⟨y, rfl, x', h, hf⟩
        rcases List.mem_append.mp h with h | h
        · exact .inl ⟨y, rfl, x', h, hf⟩
        · rw [List.mem_singleton] at h
          subst h
          exact .inr ⟨y, rfl, (mem_fol e x' y).mpr hf⟩
  · rintro σ' H1 ⟨ms, o3, o4, rfl, s1, ⟨Sf, n, hSs, hSf, hn, hnd⟩, hms⟩
    have hxl' : (natsV xs).length = xs.length := natsV_len _
    rw [hxl', List.take_length] at hms
    have bd : ∀ k ∈ ms, 0 ≤ k ∧ k < 40 := fun k hk => by
      obtain ⟨y, rfl, x, _, hf⟩ := (hms k).mp hk
      have := ((gl_within e 0).fol x y hf).2
      omega
    have hlen : ms.length ≤ 40 := nodup_len 40 ms hnd bd
    refine ⟨_, rfl, S, Sf, n, rfl, hSs, by omega, fun ns p' hpw hmem _ hp' => ?_⟩
    have mm : ∀ k, k ∈ ns ↔ k ∈ ms := fun k => by rw [hmem, hSf, decide_eq_true_eq]
    have nn : ∀ k ∈ ns, 0 ≤ k := fun k hk => (bd k ((mm k).mp hk)).1
    have ev : natsV (ns.map Int.toNat) = ns.map V.int := by
      unfold natsV
      rw [List.map_map]
      refine List.map_congr_left fun k hk => ?_
      have := nn k hk
      show V.int ((k.toNat : Nat) : Int) = V.int k
      rw [Int.toNat_of_nonneg this]
    refine q p' (ns.map Int.toNat) _ (s1.trans (same_upd hp')) (s1.free hp') (by rw [upd_same, ev]) ?_ fun y => ?_
    · rw [List.pairwise_map]
      refine (List.pairwise_iff_forall_sublist.mpr fun {a b} hab => ?_)
      have h1 : a < b := List.pairwise_iff_forall_sublist.mp hpw hab
      have h2 := nn a (hab.subset (by simp))
      omega
    · constructor
      · intro hy
        obtain ⟨k, hk, rfl⟩ := List.mem_map.mp hy
        obtain ⟨y, rfl, x, hx, hf⟩ := (hms k).mp ((mm k).mp hk)
        exact ⟨x, hx, hf⟩
      · rintro ⟨x, hx, hf⟩
        exact List.mem_map.mpr ⟨(y : Int), (mm _).mpr ((hms _).mpr ⟨y, rfl, x, hx, hf⟩), rfl⟩
end
end My
namespace My
open PySem PySem.Spec PyProof.Rows L2
theorem for_strB {z : Str} {g : TG} {tb : TS} {D : Ends} {σ : L2.St} {H : Hp} (Pv : Nat → L2.St → Hp → Prop) (h0 : Pv 0 σ H)
    (hs : ∀ i c σ H, z.cps[i]? = some c → Pv i σ H → g (.str ⟨#[c]⟩) σ H fun σ2 H2 => tb { D with nx := Pv (i + 1), ct := Pv (i + 1), bk := D.nx } σ2 H2) (hd : ∀ σ H, Pv z.cps.size σ H → D.nx σ H) :
    ∃ W : Nat → Nat → L2.St → Hp → Prop, (∃ m, W 0 m σ H) ∧ ∀ i m σ H, W i m σ H →
      ((Its z).stop i H ∧ D.nx σ H) ∨ ((Its z).go i H ∧ ∃ N : L2.St → Hp → Prop, (∀ σ' H', N σ' H' → ∃ m', m' < m ∧ W (i + 1) m' σ' H') ∧ ∀ x H', (Its z).yld i H x H' → g x σ H' fun σ2 H2 => tb { D with nx := N, ct := N, bk := D.nx } σ2 H2) := by
  refine ⟨fun i m σ H => m = z.cps.size - i ∧ i ≤ z.cps.size ∧ Pv i σ H, ⟨z.cps.size, by simp, Nat.zero_le _, h0⟩, ?_⟩
  rintro i m σ H ⟨rfl, hi, p⟩
  by_cases hlt : i < z.cps.size
  · refine .inr ⟨hlt, Pv (i + 1), fun σ' H' p' => ⟨z.cps.size - (i + 1), by omega, rfl, hlt, p'⟩, fun x H' y => ?_⟩
    obtain ⟨rfl, c, hc, rfl⟩ := y
    exact hs i c σ _ hc p
  · have e : i = z.cps.size := by omega
    subst e
    exact .inl ⟨Nat.le_refl _, hd σ H p⟩
theorem pe_fldB {X : Cx} {K : PySem.W.Frag} {o : Expr} {f : Str} {pos : Pos} {ta : TE} (hK : X.K = K) (ha : PE X o ta) (hb : attributeBase o f X.env (eval o X.env) = eval o X.env) : PE X (.Attribute o f pos) (tFld K ta f) := by
  subst hK
  exact pe_fld ha hb
/-- over a list or a tuple -/
def iSeqB (K : PySem.W.Frag) (tl : TE) : L2.TI := fun σ H R => iList K tl σ H R ∨ iTup K tl σ H R
theorem pi_seqB {X : Cx} {tg l : Expr} {tl : TE} (hl : PE X l tl) : PI X tg l (iSeqB X.K tl) := by
  refine ⟨fun pins s σ H R I h => ?_⟩
  rcases h with h | h
  · exact (pi_list hl).run pins s σ H R I h
  · exact (pi_tup hl).run pins s σ H R I h
/-! ### the candidates of a word -/
def behindL (e : E) (row : List Nat) : List Nat := (List.range e.places).filter fun y => row.any fun x => decide ((x, y) ∈ (gl e 0).fol)
def rowL (e : E) (near : List Nat) (c : Nat) : List Nat := near.filter fun i => decide (e.letters[i]? = some c)
def cstep (e : E) (s : List Nat × List (List Nat)) (c : Nat) : List Nat × List (List Nat) := (behindL e (rowL e s.1 c), s.2 ++ [rowL e s.1 c])
def cRun (e : E) (ws : List Nat) : List Nat × List (List Nat) := ws.foldl (cstep e) ((gl e 0).fst, [])
theorem cRun_snoc (e : E) (ws : List Nat) (c : Nat) : cRun e (ws ++ [c]) = cstep e (cRun e ws) c := by
  unfold cRun
  rw [List.foldl_append]
  rfl
def spCands (C : Addr) : Sp := fun vs H Q _ => ∃ (p : Addr) (z : Str) (e : E), vs = [.ref p, .str z] ∧ StepsAt C H p e ∧ e.places ≤ 40 ∧ z.length ≤ 1000 ∧
  ∀ (q : Addr) (ts : List V) H', Same H H' → H q = none → H' q = some (.lst ts) → Two (fun t row => ∃ a, t = V.ref a ∧ H' a = some (.tup (natsV row))) ts (cRun e z.cps.toList).2 → Q (.ref q) H'
theorem eq_of_riseN {a b : List Nat} (ha : a.Pairwise (· < ·)) (hb : b.Pairwise (· < ·)) (h : ∀ x, x ∈ a ↔ x ∈ b) : a = b := by
  have up : ∀ l : List Nat, l.Pairwise (· < ·) → (l.map fun (j : Nat) => (j : Int)).Pairwise (· < ·) := fun l hl => by
    rw [List.pairwise_map]
    exact hl.imp fun h => by omega
  have e := eq_of_rise _ _ (up a ha) (up b hb) fun x => by
    constructor
    · intro hx
      obtain ⟨y, hy, rfl⟩ := List.mem_map.mp hx
      exact List.mem_map.mpr ⟨y, (h y).mp hy, rfl⟩
    · intro hx
      obtain ⟨y, hy, rfl⟩ := List.mem_map.mp hx
      exact List.mem_map.mpr ⟨y, (h y).mpr hy, rfl⟩
  have e2 := congrArg (List.map Int.toNat) e
  rw [List.map_map, List.map_map] at e2
  have e3 : (Int.toNat ∘ fun (j : Nat) => (j : Int)) = id := funext fun j => rfl
  rw [e3, List.map_id, List.map_id] at e2
  exact e2
theorem behindL_mem (e : E) (row : List Nat) (y : Nat) : y ∈ behindL e row ↔ ∃ x ∈ row, (x, y) ∈ (gl e 0).fol := by
  unfold behindL
  rw [List.mem_filter, List.mem_range, List.any_eq_true]
  constructor
  · rintro ⟨_, x, hx, hf⟩
    exact ⟨x, hx, of_decide_eq_true hf⟩
  · rintro ⟨x, hx, hf⟩
    exact ⟨by have := ((gl_within e 0).fol x y hf).2; omega, x, hx, decide_eq_true hf⟩
section
variable {P : Program} {w : World} {K : PySem.W.Frag} {mg : Str → Option Value} {base : Heap} {a_BOUNDS a_LONG_BOUNDS : Addr} {tL tM : Tok}
end
end My
namespace My
open PySem PySem.Spec PyProof.Rows L2
/-! ### places by their letters -/
theorem two_put {R R' : (L2.Key × V) → Nat → Prop} (hk : ∀ kv c, R kv c → kv.1 = Sum.inr ⟨#[c]⟩) (c : Nat) (z : V) (hc : R' (Sum.inr ⟨#[c]⟩, z) c) (ho : ∀ kv c', c' ≠ c → R kv c' → R' kv c') {kvs : List (L2.Key × V)} {cs : List Nat} (h : Two R kvs cs) : Two R' (putK kvs (Sum.inr ⟨#[c]⟩) z) (if c ∈ cs then cs else cs ++ [c]) := by
  have key : ∀ {kv : L2.Key × V} {c' : Nat}, R kv c' → (kv.1 = Sum.inr ⟨#[c]⟩ ↔ c' = c) := fun {kv c'} r => by
    rw [hk _ _ r]
    constructor
    · intro e
      have e1 : (⟨#[c']⟩ : Str) = ⟨#[c]⟩ := Sum.inr.inj e
      have e2 := congrArg (fun s : Str => s.cps.toList) e1
      exact (List.cons.inj e2).1
    · rintro rfl
      rfl
  have any : (kvs.any fun kv => decide (kv.1 = (Sum.inr ⟨#[c]⟩ : L2.Key))) = decide (c ∈ cs) := by
    induction h with
    | nil => rfl
    | @cons a b as bs r _ ih =>
      rw [List.any_cons, ih, ← Bool.decide_or]
      refine decide_eq_decide.mpr ?_
      rw [key r, List.mem_cons]
      exact ⟨fun h => h.elim (fun h => .inl h.symm) .inr, fun h => h.elim (fun h => .inl h.symm) .inr⟩
  unfold putK
  rw [any]
  by_cases hm : c ∈ cs
  · rw [if_pos (decide_eq_true hm), if_pos hm]
    clear any hm
    induction h with
    | nil => exact .nil
    | @cons a b as bs r _ ih =>
      rw [List.map_cons]
      refine .cons ?_ ih
      by_cases e : b = c
      · rw [if_pos ((key r).mpr e), (key r).mpr e, e]
        exact hc
      · rw [if_neg fun h => e ((key r).mp h)]
        exact ho _ _ e r
  · rw [if_neg (by rw [decide_eq_false hm]; exact Bool.false_ne_true), if_neg hm]
    have : Two R' kvs cs := by
      refine h.monoM fun a b _ hb r => ho _ _ (fun e => hm (e ▸ hb)) r
    exact this.app (.cons hc .nil)
def GrpR (H : Hp) (e : E) (near : List Nat) (kv : L2.Key × V) (c : Nat) : Prop := ∃ q, kv = (Sum.inr ⟨#[c]⟩, V.ref q) ∧ H q = some (.tup (natsV (rowL e near c)))
/-- a dict from letters to the near places with it -/
structure GrpK (H : Hp) (e : E) (near : List Nat) (kvs : List (L2.Key × V)) (cs : List Nat) : Prop where
  nd : cs.Nodup
  mem : ∀ c, c ∈ cs ↔ rowL e near c ≠ []
  two : Two (GrpR H e near) kvs cs
  ln : cs.length ≤ near.length
theorem GrpK.same {H H' : Hp} {e : E} {near : List Nat} {kvs : List (L2.Key × V)} {cs : List Nat} (s : Same H H') (h : GrpK H e near kvs cs) : GrpK H' e near kvs cs :=
  ⟨h.nd, h.mem, h.two.mono fun _ _ ⟨q, e1, e2⟩ => ⟨q, e1, s _ _ e2⟩, h.ln⟩
theorem GrpK.get {H : Hp} {e : E} {near : List Nat} {kvs : List (L2.Key × V)} {cs : List Nat} (h : GrpK H e near kvs cs) (c : Nat) : (rowL e near c = [] ∧ valV kvs (Sum.inr ⟨#[c]⟩) = none) ∨ ∃ q, valV kvs (Sum.inr ⟨#[c]⟩) = some (.ref q) ∧ H q = some (.tup (natsV (rowL e near c))) ∧ rowL e near c ≠ [] := by
  have key : ∀ {kvs : List (L2.Key × V)} {cs : List Nat}, Two (GrpR H e near) kvs cs → (c ∉ cs ∧ valV kvs (Sum.inr ⟨#[c]⟩) = none) ∨ (c ∈ cs ∧ ∃ q, valV kvs (Sum.inr ⟨#[c]⟩) = some (.ref q) ∧ H q = some (.tup (natsV (rowL e near c)))) := fun t => by
    induction t with
    | nil => exact .inl ⟨(by intro h; cases h), rfl⟩
    | @cons a b as bs r _ ih =>
      obtain ⟨q, rfl, hq⟩ := r
      by_cases eb : b = c
      · subst eb
        exact .inr ⟨List.mem_cons_self, q, valV_pos (p := ((Sum.inr ⟨#[b]⟩ : L2.Key), V.ref q)) rfl, hq⟩
      · have ne : ¬ (((Sum.inr ⟨#[b]⟩ : L2.Key), V.ref q)).1 = Sum.inr ⟨#[c]⟩ := fun h => eb (by
          have e1 : (⟨#[b]⟩ : Str) = ⟨#[c]⟩ := Sum.inr.inj h
          have e2 := congrArg (fun s : Str => s.cps.toList) e1
          exact (List.cons.inj e2).1)
        rw [valV_neg ne]
        rcases ih with ⟨i1, i2⟩ | ⟨i1, i2⟩
        · exact .inl ⟨fun h => (List.mem_cons.mp h).elim (fun h => eb h.symm) i1, i2⟩
        · exact .inr ⟨List.mem_cons_of_mem _ i1, i2⟩
  rcases key h.two with ⟨i1, i2⟩ | ⟨i1, q, i2, i3⟩
  · refine .inl ⟨?_, i2⟩
    by_cases c0 : rowL e near c = []
    · exact c0
    · exact absurd ((h.mem c).mpr c0) i1
  · exact .inr ⟨q, i2, i3, (h.mem c).mp i1⟩
theorem rowL_snoc (e : E) (xs : List Nat) (x c : Nat) : rowL e (xs ++ [x]) c = rowL e xs c ++ (if e.letters[x]? = some c then [x] else []) := by
  unfold rowL
  rw [List.filter_append, List.filter_cons]
  by_cases h : e.letters[x]? = some c
  · rw [if_pos (decide_eq_true h), if_pos h]
    rfl
  · rw [if_neg (by rw [decide_eq_false h]; exact Bool.false_ne_true), if_neg h]
    rfl
theorem GrpK.put {H H3 : Hp} {e : E} {near : List Nat} {kvs : List (L2.Key × V)} {cs : List Nat} {d r : Addr} {i c : Nat} (h : GrpK H e near kvs cs) (S : Same H H3) (hd : H3 d = some (.dK kvs)) (hi : e.letters[i]? = some c) (hr : H3 r = some (.tup (natsV (rowL e (near ++ [i]) c)))) : GrpK (upd H3 d (.dK (putK kvs (Sum.inr ⟨#[c]⟩) (.ref r)))) e (near ++ [i]) (putK kvs (Sum.inr ⟨#[c]⟩) (.ref r)) (if c ∈ cs then cs else cs ++ [c]) where
  nd := by
    split
    · exact h.nd
    · rename_i hc
      rw [List.nodup_append]
      exact ⟨h.nd, by simp, fun a ha b hb => by rw [List.mem_singleton.mp hb]; rintro rfl; exact hc ha⟩
  mem := fun c' => by
    rw [rowL_snoc]
    have hm := h.mem c'
    by_cases e1 : c' = c
    · subst e1
      rw [if_pos hi]
      refine ⟨fun _ => by simp, fun _ => ?_⟩
      split
      · assumption
      · exact List.mem_append_right _ List.mem_cons_self
    · rw [if_neg (show ¬ e.letters[i]? = some c' from fun h => e1 (Option.some.inj (h.symm.trans hi))), List.append_nil, ← hm]
      split
      · rfl
      · rw [List.mem_append, List.mem_singleton]
        exact ⟨fun h => h.elim id fun h => absurd h e1, .inl⟩
  two := by
    have dt : ∀ {q : Addr} {xs : List V}, H3 q = some (.tup xs) → q ≠ d := fun hq => ne_of hq hd (by intro z; cases z)
    refine two_put (R := GrpR H e near) (fun kv c' ⟨q, e1, _⟩ => by rw [e1]) c (.ref r) ⟨r, rfl, by rw [upd_ne (dt hr)]; exact hr⟩ (fun kv c' hc ⟨q, e1, e2⟩ => ⟨q, e1, ?_⟩) h.two
    rw [upd_ne (dt (S _ _ e2)), rowL_snoc, if_neg (fun h => hc (Option.some.inj (h.symm.trans hi))), List.append_nil]
    exact S _ _ e2
  ln := by
    have := h.ln
    rw [List.length_append]
    split
    · omega
    · rw [List.length_append]
      show cs.length + 1 ≤ near.length + 1
      omega
def spByL (C : Addr) : Sp := fun vs H Q _ => ∃ (p nr : Addr) (e : E) (near : List Nat), vs = [.ref p, .ref nr] ∧ StepsAt C H p e ∧ e.places ≤ 40 ∧ (H nr = some (.tup (natsV near)) ∨ H nr = some (.lst (natsV near))) ∧ (∀ x ∈ near, x < e.places) ∧ near.length ≤ 40 ∧
  ∀ (d : Addr) (kvs : List (L2.Key × V)) (cs : List Nat) H', Same H H' → H d = none → H' d = some (.dK kvs) → GrpK H' e near kvs cs → Q (.ref d) H'
section
variable {P : Program} {w : World} {K : PySem.W.Frag} {mg : Str → Option Value} {base : Heap} {a_BOUNDS a_LONG_BOUNDS : Addr} {tL tM : Tok}
abbrev N_by_letter : List Str := ["steps", "near", "rows", "place", "letter"]
theorem sc_by_letter : FnScope ["steps", "near", "rows", "place", "letter"] ["steps", "near"] (defScope s_by_letter) := ⟨rfl, rfl, rfl, by decide +kernel, rfl, by decide +kernel, by decide +kernel⟩
set_option maxHeartbeats 1000000 in
theorem ok_byletter {C f : Addr} {fd : FuncData} (T : StTxt K C) (B : Bt K mg a_BOUNDS a_LONG_BOUNDS tL tM) (Dd : Df K mg "by_letter" s_by_letter ["steps", "near"] f fd) : FnOk P w K mg base CX0 1 f fd ["steps", "near"] (spByL C) := by
  refine Dd.F.ok sc_by_letter (fun vs H Q Ex h => ?_) (fun cdv A outer s H vs Q Ex hr h => ?_)
  · obtain ⟨p, nr, e, near, rfl, _⟩ := h
    rfl
  obtain ⟨p, nr, e, near, rfl, hS, h40, hnr, hlt, hl40, q⟩ := h
  refine ⟨_, (pss_cons (ps_set (i := 2) sc_by_letter.nd rfl (Or.inl rfl) pe_dnewK)
    (pss_cons (ps_for PassesOwn.never rfl (pi_seqB (pv 1)) (pg_name (i := 3) sc_by_letter.nd rfl (Or.inl rfl)) (pss_cons (ps_set (i := 4) sc_by_letter.nd rfl (Or.inl rfl) (pe_ix ix_str (pe_fld (pv 0) rfl) (pv 3) (fun _ _ => rfl)))
    (pss_one (ps_dput (hu_of hr) (pv 2) (pv 4) (pe_op op_catA (pe_dget2 (hu_of hr) (pv 2) (pv 4) (pe_tup pa_nil) ⟨rfl, rfl, rfl, rfl⟩) (pe_tup (pa_cons (pv 3) pa_nil))) rfl))))
    (pss_one (ps_ret (pv 2))))), ?_⟩
  intro d hd
  have s0 := same_upd (o := .dK []) hd
  have nrd : nr ≠ d := by rcases hnr with h | h <;> exact ne_of_none h hd
  have inv0 : ∃ kvs cs, (upd H d (.dK [])) d = some (.dK kvs) ∧ GrpK (upd H d (.dK [])) e (near.take 0) kvs cs := ⟨[], [], upd_same, .nil, fun c => ⟨(fun h => by cases h), fun h => absurd rfl h⟩, .nil, Nat.le_refl _⟩
  rcases hnr with hnr | hnr
  · refine .inr ⟨_, rfl, nr, rfl, ⟨_, SqT.of (s0 _ _ hnr)⟩, for_tup (K := K) (a := nr) (xs := natsV near) (fun m σ' H' => ∃ (o3 o4 : Option V), σ' = [some (.ref p), some (.ref nr), some (.ref d), o3, o4] ∧ Same H H' ∧ ∃ kvs cs, H' d = some (.dK kvs) ∧ GrpK H' e (near.take m) kvs cs) ?_ ?_ ?_ ?_⟩
    · exact ⟨none, none, rfl, s0, inv0⟩
    · rintro m σ' H' _ ⟨o3, o4, rfl, s1, _⟩
      exact SqT.of (s1 _ _ hnr)
    · rintro m v σ' H1 hv ⟨o3, o4, rfl, s1, kvs, cs, hdk, hG⟩
      obtain ⟨i, hi, rfl⟩ := natsV_getB hv
      have hip := hlt i (List.mem_of_getElem? hi)
      have hml := (List.getElem?_eq_some_iff.mp hi).1
      obtain ⟨dx, f1, l1, o1, z', ts1, h1, h2, h3, h4, h5, h6, h7⟩ := (hS.same s1).ex
      have hz' : z'.length = e.places := by rw [← len_toList2, h2, letters_len]
      have hil : i < e.letters.length := by rw [letters_len]; exact hip
      have hci : e.letters[i]? = some e.letters[i] := List.getElem?_eq_getElem hil
      have hat : atI z'.cps.toList (i : Int) = some e.letters[i] := by
        rw [h2]
        exact atI_nat hci
      refine ⟨_, rfl, p, C, dx, _, _, rfl, h1, T.cl, T.a1, stF_letters .., _, rfl, z', (i : Int), e.letters[i], rfl, rfl, by rw [hz']; exact Nat.le_trans h40 (by decide), hat, ?_⟩
      have hkl : kvs.length < sizeLine := by
        rw [hG.two.len]
        have := hG.ln
        rw [List.length_take] at this
        exact Nat.lt_of_le_of_lt (m := 40) (by omega) (by decide)
      refine ⟨_, rfl, d, rfl, .inl ⟨kvs, .inl hdk⟩, _, rfl, by show 0 ≤ sizeLine; decide, fun t0 ht0 => ?_⟩
      have s2 := same_upd (o := .tup []) ht0
      have rl : (rowL e (near.take m) e.letters[i]).length ≤ 40 := by
        unfold rowL
        have := List.length_filter_le (fun k => decide (e.letters[k]? = some e.letters[i])) (near.take m)
        rw [List.length_take] at this
        omega
      have rn := rowL_snoc e (near.take m) i e.letters[i]
      rw [if_pos hci] at rn
      have fin : ∀ (r : Addr) (H3 : Hp), Same H1 H3 → H3 r = some (.tup (natsV (rowL e (near.take m) e.letters[i]) ++ [V.int (i : Int)])) → ∃ (kvs' : List (L2.Key × V)) (cs' : List Nat), kvs' = putK kvs (Sum.inr ⟨#[e.letters[i]]⟩) (.ref r) ∧ Same H (upd H3 d (.dK kvs')) ∧ GrpK (upd H3 d (.dK kvs')) e (near.take (m + 1)) kvs' cs' := fun r H3 S3 hr3 => by
        refine ⟨_, (if e.letters[i] ∈ cs then cs else cs ++ [e.letters[i]]), rfl, fun b o hb => by rw [upd_ne (ne_of_none hb hd)]; exact S3 _ _ (s1 _ _ hb), ?_⟩
        rw [take_snoc hi]
        refine hG.put S3 (S3 _ _ hdk) hci ?_
        rw [hr3, rn, ← natsV_app]
        rfl
      rcases hG.get e.letters[i] with ⟨g1, g2⟩ | ⟨qq, g1, g2, g3⟩
      · refine ⟨none, by rw [← g2]; exact DGet.k (k := Sum.inr ⟨#[e.letters[i]]⟩) (s2 _ _ hdk), _, rfl, by show 1 ≤ sizeLine; decide, fun t1 ht1 => ?_⟩
        have s3 := same_upd (o := .tup [V.int (i : Int)]) ht1
        refine catA_of (K := K) (a := t0) (b := t1) (xs := []) (ys := [V.int (i : Int)]) (s3 _ _ upd_same) upd_same (by show 0 + 1 ≤ sizeLine; decide) fun r H3 s4 hr3 => ?_
        have S3 := s2.trans (s3.trans s4)
        obtain ⟨kvs', cs', rfl, e2, e3⟩ := fin r H3 S3 (by rw [hr3, g1]; rfl)
        exact ⟨_, rfl, _, rfl, d, _, rfl, DPut.k (k := Sum.inr ⟨#[e.letters[i]]⟩) (S3 _ _ hdk) hkl, some (.int (i : Int)), _, rfl, e2, _, cs', upd_same, e3⟩
      · refine ⟨some (.ref qq), by rw [← g1]; exact DGet.k (k := Sum.inr ⟨#[e.letters[i]]⟩) (s2 _ _ hdk), _, rfl, by show 1 ≤ sizeLine; decide, fun t1 ht1 => ?_⟩
        have s3 := same_upd (o := .tup [V.int (i : Int)]) ht1
        refine catA_of (K := K) (a := qq) (b := t1) (s3 _ _ (s2 _ _ g2)) upd_same (by rw [natsV_len]; exact Nat.le_trans (m := 41) (by show _ + 1 ≤ 41; omega) (by decide)) fun r H3 s4 hr3 => ?_
        have S3 := s2.trans (s3.trans s4)
        obtain ⟨kvs', cs', rfl, e2, e3⟩ := fin r H3 S3 hr3
        exact ⟨_, rfl, _, rfl, d, _, rfl, DPut.k (k := Sum.inr ⟨#[e.letters[i]]⟩) (S3 _ _ hdk) hkl, some (.int (i : Int)), _, rfl, e2, _, cs', upd_same, e3⟩
    · rintro σ' H1 ⟨o3, o4, rfl, s1, kvs, cs, hdk, hG⟩
      rw [natsV_len, List.take_length] at hG
      exact ⟨_, rfl, q d kvs cs H1 s1 hd hdk hG⟩
  · refine .inl ⟨_, rfl, nr, rfl, ⟨_, SqL.of (s0 _ _ hnr)⟩, for_list (K := K) (a := nr) (xs := natsV near) (fun m σ' H' => ∃ (o3 o4 : Option V), σ' = [some (.ref p), some (.ref nr), some (.ref d), o3, o4] ∧ Same H H' ∧ ∃ kvs cs, H' d = some (.dK kvs) ∧ GrpK H' e (near.take m) kvs cs) ?_ ?_ ?_ ?_⟩
    · exact ⟨none, none, rfl, s0, inv0⟩
    · rintro m σ' H' _ ⟨o3, o4, rfl, s1, _⟩
      exact SqL.of (s1 _ _ hnr)
    · rintro m v σ' H1 hv ⟨o3, o4, rfl, s1, kvs, cs, hdk, hG⟩
      obtain ⟨i, hi, rfl⟩ := natsV_getB hv
      have hip := hlt i (List.mem_of_getElem? hi)
      have hml := (List.getElem?_eq_some_iff.mp hi).1
      obtain ⟨dx, f1, l1, o1, z', ts1, h1, h2, h3, h4, h5, h6, h7⟩ := (hS.same s1).ex
      have hz' : z'.length = e.places := by rw [← len_toList2, h2, letters_len]
      have hil : i < e.letters.length := by rw [letters_len]; exact hip
      have hci : e.letters[i]? = some e.letters[i] := List.getElem?_eq_getElem hil
      have hat : atI z'.cps.toList (i : Int) = some e.letters[i] := by
        rw [h2]
        exact atI_nat hci
      refine ⟨_, rfl, p, C, dx, _, _, rfl, h1, T.cl, T.a1, stF_letters .., _, rfl, z', (i : Int), e.letters[i], rfl, rfl, by rw [hz']; exact Nat.le_trans h40 (by decide), hat, ?_⟩
      have hkl : kvs.length < sizeLine := by
        rw [hG.two.len]
        have := hG.ln
        rw [List.length_take] at this
        exact Nat.lt_of_le_of_lt (m := 40) (by omega) (by decide)
      refine ⟨_, rfl, d, rfl, .inl ⟨kvs, .inl hdk⟩, _, rfl, by show 0 ≤ sizeLine; decide, fun t0 ht0 => ?_⟩
      have s2 := same_upd (o := .tup []) ht0
      have rl : (rowL e (near.take m) e.letters[i]).length ≤ 40 := by
        unfold rowL
        have := List.length_filter_le (fun k => decide (e.letters[k]? = some e.letters[i])) (near.take m)
        rw [List.length_take] at this
        omega
      have rn := rowL_snoc e (near.take m) i e.letters[i]
      rw [if_pos hci] at rn
      have fin : ∀ (r : Addr) (H3 : Hp), Same H1 H3 → H3 r = some (.tup (natsV (rowL e (near.take m) e.letters[i]) ++ [V.int (i : Int)])) → ∃ (kvs' : List (L2.Key × V)) (cs' : List Nat), kvs' = putK kvs (Sum.inr ⟨#[e.letters[i]]⟩) (.ref r) ∧ Same H (upd H3 d (.dK kvs')) ∧ GrpK (upd H3 d (.dK kvs')) e (near.take (m + 1)) kvs' cs' := fun r H3 S3 hr3 => by
        refine ⟨_, (if e.letters[i] ∈ cs then cs else cs ++ [e.letters[i]]), rfl, fun b o hb => by rw [upd_ne (ne_of_none hb hd)]; exact S3 _ _ (s1 _ _ hb), ?_⟩
        rw [take_snoc hi]
        refine hG.put S3 (S3 _ _ hdk) hci ?_
        rw [hr3, rn, ← natsV_app]
        rfl
      rcases hG.get e.letters[i] with ⟨g1, g2⟩ | ⟨qq, g1, g2, g3⟩
      · refine ⟨none, by rw [← g2]; exact DGet.k (k := Sum.inr ⟨#[e.letters[i]]⟩) (s2 _ _ hdk), _, rfl, by show 1 ≤ sizeLine; decide, fun t1 ht1 => ?_⟩
        have s3 := same_upd (o := .tup [V.int (i : Int)]) ht1
        refine catA_of (K := K) (a := t0) (b := t1) (xs := []) (ys := [V.int (i : Int)]) (s3 _ _ upd_same) upd_same (by show 0 + 1 ≤ sizeLine; decide) fun r H3 s4 hr3 => ?_
        have S3 := s2.trans (s3.trans s4)
        obtain ⟨kvs', cs', rfl, e2, e3⟩ := fin r H3 S3 (by rw [hr3, g1]; rfl)
        exact ⟨_, rfl, _, rfl, d, _, rfl, DPut.k (k := Sum.inr ⟨#[e.letters[i]]⟩) (S3 _ _ hdk) hkl, some (.int (i : Int)), _, rfl, e2, _, cs', upd_same, e3⟩
      · refine ⟨some (.ref qq), by rw [← g1]; exact DGet.k (k := Sum.inr ⟨#[e.letters[i]]⟩) (s2 _ _ hdk), _, rfl, by show 1 ≤ sizeLine; decide, fun t1 ht1 => ?_⟩
        have s3 := same_upd (o := .tup [V.int (i : Int)]) ht1
        refine catA_of (K := K) (a := qq) (b := t1) (s3 _ _ (s2 _ _ g2)) upd_same (by rw [natsV_len]; exact Nat.le_trans (m := 41) (by show _ + 1 ≤ 41; omega) (by decide)) fun r H3 s4 hr3 => ?_
        have S3 := s2.trans (s3.trans s4)
        obtain ⟨kvs', cs', rfl, e2, e3⟩ := fin r H3 S3 hr3
        exact ⟨_, rfl, _, rfl, d, _, rfl, DPut.k (k := Sum.inr ⟨#[e.letters[i]]⟩) (S3 _ _ hdk) hkl, some (.int (i : Int)), _, rfl, e2, _, cs', upd_same, e3⟩
    · rintro σ' H1 ⟨o3, o4, rfl, s1, kvs, cs, hdk, hG⟩
      rw [natsV_len, List.take_length] at hG
      exact ⟨_, rfl, q d kvs cs H1 s1 hd hdk hG⟩
end
end My
namespace My
open PySem PySem.Spec PyProof.Rows L2
/-! ### sets of places -/
def spHasL (C : Addr) : Sp := fun vs H Q _ => ∃ (p r : Addr) (e : E) (s : List Nat), vs = [.ref p, .ref r] ∧ StepsAt C H p e ∧ H r = some (.tup (natsV s)) ∧ s.length ≤ 1000 ∧ ∀ H', Same H H' → Q (.bl (s.any fun i => decide (i ∈ (gl e 0).lst))) H'
/-- the rows of moves that are told -/
def RowsUp (H : Hp) (rs : List V) (mv : Mv) : Prop := ∀ (j : Nat) (v : V), rs[j]? = some v → RowD H v (mv j)
def spSets (C : Addr) : Sp := fun vs H Q _ => ∃ (p : Addr) (e : E), vs = [.ref p] ∧ StepsAt C H p e ∧ e.places ≤ 8 ∧
  ∀ (t sa ra : Addr) (S : List (List Nat)) (mv : Mv) (ts rs : List V) H', Same H H' → H' t = some (.tup [.ref sa, .ref ra]) → H' sa = some (.lst ts) → H' ra = some (.lst rs) → Two (TpS H') ts S → Bfs e S mv S.length 0 → rs.length = S.length → RowsUp H' rs mv → Q (.ref t) H'
theorem l4_get {k c : Nat} (h : (⟨#[97, 98, 99, 100]⟩ : Str).cps[k]? = some c) : k < 4 ∧ c = 97 + k := by
  match k, h with
  | 0, h => cases h; exact ⟨by decide, rfl⟩
  | 1, h => cases h; exact ⟨by decide, rfl⟩
  | 2, h => cases h; exact ⟨by decide, rfl⟩
  | 3, h => cases h; exact ⟨by decide, rfl⟩
  | k + 4, h => exact absurd (Array.getElem?_eq_some_iff.mp h).1 (by show ¬ k + 4 < 4; omega)
theorem l4_take {k : Nat} (h : k < 4) : lets4.take (k + 1) = lets4.take k ++ [97 + k] := by
  match k, h with
  | 0, _ => rfl
  | 1, _ => rfl
  | 2, _ => rfl
  | 3, _ => rfl
theorem GrpK.tk {H H' : Hp} {e : E} {near : List Nat} {kvs : List (L2.Key × V)} {cs : List Nat} (s : ∀ b xs, H b = some (.tup xs) → H' b = some (.tup xs)) (h : GrpK H e near kvs cs) : GrpK H' e near kvs cs :=
  ⟨h.nd, h.mem, h.two.mono fun _ _ ⟨q, e1, e2⟩ => ⟨q, e1, s _ _ e2⟩, h.ln⟩
theorem tk_upd {H : Hp} {a : Addr} {o u : HO} (h : H a = some u) (hu : ∀ xs, u ≠ .tup xs) : ∀ b xs, H b = some (.tup xs) → upd H a o b = some (.tup xs) := fun b xs hb => by
  rw [upd_ne fun e => hu xs (by rw [e, h] at hb; exact Option.some.inj hb)]
  exact hb
theorem Two.tk {H H' : Hp} {ts : List V} {S : List (List Nat)} (s : ∀ b xs, H b = some (.tup xs) → H' b = some (.tup xs)) (h : Two (TpS H) ts S) : Two (TpS H') ts S := h.mono fun _ _ ⟨a, e1, e2⟩ => ⟨a, e1, s _ _ e2⟩
theorem RowsUp.same {H H' : Hp} {rs : List V} {mv : Mv} (s : Same H H') (h : RowsUp H rs mv) : RowsUp H' rs mv := fun j v hj => (h j v hj).same s
theorem RowsUp.upd {H : Hp} {rs : List V} {mv : Mv} {a : Addr} {o : HO} (h : RowsUp H rs mv) (n : ∀ (j : Nat) (v : V), rs[j]? = some v → v ≠ V.ref a) : RowsUp (upd H a o) rs mv := fun j v hj => by
  obtain ⟨d, rfl, h2⟩ := h j v hj
  exact ⟨d, rfl, by rw [upd_ne fun e => n j _ hj (by rw [e])]; exact h2⟩
theorem RowsUp.ne {H : Hp} {rs : List V} {mv : Mv} {a : Addr} {u : HO} (h : RowsUp H rs mv) (ha : H a = some u) (hu : ∀ kvs, u ≠ .dK kvs) : ∀ (j : Nat) (v : V), rs[j]? = some v → v ≠ V.ref a := fun j v hj e => by
  obtain ⟨d, e2, h2⟩ := h j v hj
  rw [e] at e2
  cases e2
  rw [ha] at h2
  exact hu _ (Option.some.inj h2)
theorem RowsUp.set {H : Hp} {rs : List V} {mv : Mv} {c t : Nat} (h : RowsUp H rs mv) : RowsUp H rs (setMv mv rs.length c t) := fun j v hj => by
  have hl := (List.getElem?_eq_some_iff.mp hj).1
  have e1 : setMv mv rs.length c t j = mv j := by
    funext d
    exact setMv_ne fun k => by have := k.1; omega
  rw [e1]
  exact h j v hj
theorem row_put {mv : Mv} {i k t : Nat} (h : k < 4) : putK (rowK (mv i) (lets4.take k)) (symK (97 + k)) (V.int ((t : Nat) : Int)) = rowK (setMv mv i (97 + k) t i) (lets4.take (k + 1)) := by
  have hn : 97 + k ∉ lets4.take k := by
    match k, h with
    | 0, _ => decide
    | 1, _ => decide
    | 2, _ => decide
    | 3, _ => decide
  rw [putK_new _ (by rw [rowK_get, if_neg hn]), l4_take h, rowK_snoc, setMv_same]
  congr 1
  exact rowK_congr fun c hc => (setMv_ne fun q => hn (by rw [← q.2]; exact hc)).symm
theorem row_skip {mv : Mv} {i k : Nat} (h : k < 4) (hn : mv i (97 + k) = none) : rowK (mv i) (lets4.take k) = rowK (mv i) (lets4.take (k + 1)) := by
  rw [l4_take h, rowK_snoc, hn, List.append_nil]
structure SetOut (H0 H : Hp) (e : E) (nd sa ra : Addr) (S : List (List Nat)) (mv : Mv) (ts rs : List V) : Prop where
  same : Same H0 H
  n0 : H0 nd = none
  s0 : H0 sa = none
  r0 : H0 ra = none
  hn : H nd = some (.dT (numKo S 0))
  hs : H sa = some (.lst ts)
  two : Two (TpS H) ts S
  hra : H ra = some (.lst rs)
  bfs : Bfs e S mv rs.length 0
  rows : RowsUp H rs mv
  sra : sa ≠ ra
structure SetIn (H0 H : Hp) (e : E) (nd sa ra d bd : Addr) (S : List (List Nat)) (mv : Mv) (ts rs : List V) (s : List Nat) (kvs : List (L2.Key × V)) (cs : List Nat) (k : Nat) : Prop where
  same : Same H0 H
  n0 : H0 nd = none
  s0 : H0 sa = none
  d0 : H0 d = none
  hn : H nd = some (.dT (numKo S 0))
  hs : H sa = some (.lst ts)
  two : Two (TpS H) ts S
  hra : H ra = some (.lst rs)
  bfs : Bfs e S mv rs.length k
  hat : S[rs.length]? = some s
  rows : RowsUp H rs mv
  new : ∀ (j : Nat) (v : V), rs[j]? = some v → v ≠ V.ref d
  hd : H d = some (.dK (rowK (mv rs.length) (lets4.take k)))
  hb : H bd = some (.dK kvs)
  bdd : bd ≠ d
  sra : sa ≠ ra
  grp : GrpK H e (nrS e s) kvs cs
theorem SetIn.skip {H0 H : Hp} {e : E} {nd sa ra d bd : Addr} {S : List (List Nat)} {mv : Mv} {ts rs : List V} {s : List Nat} {kvs : List (L2.Key × V)} {cs : List Nat} {k : Nat} (I : SetIn H0 H e nd sa ra d bd S mv ts rs s kvs cs k) (hk : k < 4) (h : stS e s (97 + k) = []) : SetIn H0 H e nd sa ra d bd S mv ts rs s kvs cs (k + 1) where
  same := I.same
  n0 := I.n0
  s0 := I.s0
  d0 := I.d0
  hn := I.hn
  hs := I.hs
  two := I.two
  hra := I.hra
  bfs := I.bfs.skip hk I.hat h
  hat := I.hat
  rows := I.rows
  new := I.new
  hd := by rw [← row_skip hk (mv_free I.bfs (by omega))]; exact I.hd
  hb := I.hb
  bdd := I.bdd
  sra := I.sra
  grp := I.grp
theorem SetIn.old {H0 H : Hp} {e : E} {nd sa ra d bd : Addr} {S : List (List Nat)} {mv : Mv} {ts rs : List V} {s : List Nat} {kvs : List (L2.Key × V)} {cs : List Nat} {k t : Nat} (I : SetIn H0 H e nd sa ra d bd S mv ts rs s kvs cs k) (hk : k < 4) (hne : stS e s (97 + k) ≠ []) (ht : S[t]? = some (stS e s (97 + k))) : SetIn H0 (upd H d (.dK (putK (rowK (mv rs.length) (lets4.take k)) (symK (97 + k)) (V.int ((t : Nat) : Int))))) e nd sa ra d bd S (setMv mv rs.length (97 + k) t) ts rs s kvs cs (k + 1) where
  same := fun b o hb => by rw [upd_ne (ne_of_none hb I.d0)]; exact I.same _ _ hb
  n0 := I.n0
  s0 := I.s0
  d0 := I.d0
  hn := by rw [upd_ne (ne_of I.hn I.hd (by intro z; cases z))]; exact I.hn
  hs := by rw [upd_ne (ne_of I.hs I.hd (by intro z; cases z))]; exact I.hs
  two := I.two.tk (tk_upd I.hd (by intro xs z; cases z))
  hra := by rw [upd_ne (ne_of I.hra I.hd (by intro z; cases z))]; exact I.hra
  bfs := I.bfs.old hk I.hat hne ht
  hat := I.hat
  rows := (I.rows.upd I.new).set
  new := I.new
  hd := by rw [upd_same, row_put hk]
  hb := by rw [upd_ne I.bdd]; exact I.hb
  bdd := I.bdd
  sra := I.sra
  grp := I.grp.tk (tk_upd I.hd (by intro xs z; cases z))
/-- a set that is new stands behind the others -/
theorem SetIn.add {H0 H : Hp} {e : E} {nd sa ra d bd : Addr} {S : List (List Nat)} {mv : Mv} {ts rs : List V} {s : List Nat} {kvs : List (L2.Key × V)} {cs : List Nat} {k : Nat} (I : SetIn H0 H e nd sa ra d bd S mv ts rs s kvs cs k) (hk : k < 4) (hne : stS e s (97 + k) ≠ []) (hno : stS e s (97 + k) ∉ S) {q : Addr} (hq : H q = some (.tup (natsV (stS e s (97 + k))))) {H1 H2 : Hp} (e1 : H1 = upd H nd (.dT (putK (numKo S 0) (keyS (stS e s (97 + k))) (V.int ((S.length : Nat) : Int))))) (e2 : H2 = upd H1 sa (.lst (ts ++ [V.ref q]))) :
    H2 nd = some (.dT (numKo (S ++ [stS e s (97 + k)]) 0)) ∧ SetIn H0 (upd H2 d (.dK (putK (rowK (mv rs.length) (lets4.take k)) (symK (97 + k)) (V.int ((S.length : Nat) : Int))))) e nd sa ra d bd (S ++ [stS e s (97 + k)]) (setMv mv rs.length (97 + k) S.length) (ts ++ [V.ref q]) rs s kvs cs (k + 1) := by
  subst e1 e2
  have nsa : nd ≠ sa := ne_of I.hn I.hs (by intro z; cases z)
  have nd1 : nd ≠ d := ne_of I.hn I.hd (by intro z; cases z)
  have sd : sa ≠ d := ne_of I.hs I.hd (by intro z; cases z)
  have t1 : ∀ b xs, H b = some (.tup xs) → upd (upd (upd H nd (.dT (putK (numKo S 0) (keyS (stS e s (97 + k))) (V.int ((S.length : Nat) : Int))))) sa (.lst (ts ++ [V.ref q]))) d (.dK (putK (rowK (mv rs.length) (lets4.take k)) (symK (97 + k)) (V.int ((S.length : Nat) : Int)))) b = some (.tup xs) := fun b xs hb => by
    rw [upd_ne (ne_of hb I.hd (by intro z; cases z)), upd_ne (ne_of hb I.hs (by intro z; cases z)), upd_ne (ne_of hb I.hn (by intro z; cases z))]
    exact hb
  have hN : numKo (S ++ [stS e s (97 + k)]) 0 = putK (numKo S 0) (keyS (stS e s (97 + k))) (V.int ((S.length : Nat) : Int)) := by
    rw [numKo_snoc, putK_new _ (numKo_none S 0 _ hno), Nat.zero_add]
  have hNd : upd (upd H nd (.dT (putK (numKo S 0) (keyS (stS e s (97 + k))) (V.int ((S.length : Nat) : Int))))) sa (.lst (ts ++ [V.ref q])) nd = some (.dT (numKo (S ++ [stS e s (97 + k)]) 0)) := by
    rw [upd_ne nsa, upd_same, hN]
  refine ⟨hNd, ?_⟩
  exact {
    same := fun b o hb => by
      rw [upd_ne (ne_of_none hb I.d0), upd_ne (ne_of_none hb I.s0), upd_ne (ne_of_none hb I.n0)]
      exact I.same _ _ hb
    n0 := I.n0
    s0 := I.s0
    d0 := I.d0
    hn := by rw [upd_ne nd1]; exact hNd
    hs := by rw [upd_ne sd, upd_same]
    two := (I.two.tk t1).app (.cons ⟨q, rfl, t1 _ _ hq⟩ .nil)
    hra := by
      rw [upd_ne (ne_of I.hra I.hd (by intro z; cases z)), upd_ne I.sra.symm, upd_ne (ne_of I.hra I.hn (by intro z; cases z))]
      exact I.hra
    bfs := I.bfs.new hk I.hat hne hno
    hat := by
      rw [List.getElem?_append_left (List.getElem?_eq_some_iff.mp I.hat).1]
      exact I.hat
    rows := (((I.rows.upd (I.rows.ne I.hn (by intro kvs z; cases z))).upd (I.rows.ne I.hs (by intro kvs z; cases z))).upd I.new).set
    new := I.new
    hd := by rw [upd_same, row_put hk]
    hb := by
      rw [upd_ne I.bdd, upd_ne (ne_of I.hb I.hs (by intro z; cases z)), upd_ne (ne_of I.hb I.hn (by intro z; cases z))]
      exact I.hb
    bdd := I.bdd
    sra := I.sra
    grp := I.grp.tk t1 }
section
variable {P : Program} {w : World} {K : PySem.W.Frag} {mg : Str → Option Value} {base : Heap} {a_BOUNDS a_LONG_BOUNDS : Addr} {tL tM : Tok}
abbrev N_has_last : List Str := ["steps", "row", "place"]
theorem sc_has_last : FnScope ["steps", "row", "place"] ["steps", "row"] (defScope s_has_last) := ⟨rfl, rfl, rfl, by decide +kernel, rfl, by decide +kernel, by decide +kernel⟩
theorem ok_haslast {C f : Addr} {fd : FuncData} (T : StTxt K C) (B : Bt K mg a_BOUNDS a_LONG_BOUNDS tL tM) (Dd : Df K mg "has_last" s_has_last ["steps", "row"] f fd) : FnOk P w K mg base CX0 1 f fd ["steps", "row"] (spHasL C) := by
  refine Dd.F.ok sc_has_last (fun vs H Q Ex h => ?_) (fun cdv A outer s H vs Q Ex hr h => ?_)
  · obtain ⟨p, r, e, s, rfl, _⟩ := h
    rfl
  obtain ⟨p, r, e, s0, rfl, hS, ha, hl, q⟩ := h
  refine ⟨_, (pss_one (ps_ret (pe_callB (cr_any rfl) rfl B.b_any boot_any (pa_cons (pe_lc (own := [("place", 2)]) (g := gName 2) (tt := tYes) rfl sc_has_last.nd (pi_tup (pv 1)) (blkOk_by (N := N_has_last) (sc := defScope s_has_last) (by decide +kernel)) (fun _ _ _ _ _ => pg_name (i := 2) sc_has_last.nd rfl (Or.inl rfl)) (fun _ _ _ _ _ => pts_nil) (fun _ _ _ _ _ => (pe_cmpR (r := rInB K) (op_in_seqB rfl) (pv 2) (pe_fldB (K := K) rfl (pv 0) rfl) rfl))) pa_nil)))), ?_⟩
  obtain ⟨dx0, f0, l0, o0, z0, ts0, g1, g2, g3, g4, g5, g6, g7⟩ := hS.ex
  refine ⟨_, rfl, r, rfl, ⟨_, SqT.of ha⟩, fun L hL => ?_⟩
  refine lc_tup (K := K) (a := r) (xs := natsV s0) (fun k H3 => Same H H3 ∧ H3 L = some (.lst (((s0.take k).map fun x => decide (x ∈ (gl e 0).lst)).map V.bl))) ⟨same_upd hL, upd_same⟩ (fun k H3 _ h => SqT.of (h.1 _ _ ha)) (fun k v H3 hv h => ?_) (fun H3 h => ?_)
  · obtain ⟨s3, hL3⟩ := h
    obtain ⟨x, hx, rfl⟩ := natsV_getB hv
    refine ⟨rfl, tyes ⟨_, rfl, _, rfl, p, C, dx0, _, _, rfl, s3 _ _ g1, T.cl, T.a4, stF_last .., l0, _, rfl, .inr (SqT.of (s3 _ _ g4)), rfl, flat_nats _, ?_⟩⟩
    refine ⟨_, hL3, ?_, fun b o' hb => by rw [upd_ne (ne_of_none hb hL)]; exact s3 _ _ hb, ?_⟩
    · rw [List.length_map, List.length_map, List.length_take]
      exact Nat.lt_of_le_of_lt (m := 1000) (by omega) (by decide)
    · rw [upd_same, take_snoc hx, List.map_append, List.map_append]
      show _ = some (HO.lst (_ ++ [V.bl (decide (x ∈ (gl e 0).lst))]))
      rw [← in_nats]
      rfl
  · obtain ⟨s3, hL3⟩ := h
    rw [natsV_len, List.take_length] at hL3
    refine ⟨L, _, rfl, SqL.of hL3, ?_⟩
    have e2 : (s0.map fun x => decide (x ∈ (gl e 0).lst)).any id = s0.any fun i => decide (i ∈ (gl e 0).lst) := by
      rw [List.any_map]
      rfl
    rw [e2]
    exact q H3 s3
abbrev N_sets_of : List Str := ["steps", "numbers", "sets", "rows", "latest", "behind", "row", "letter", "found"]
theorem sc_sets_of : FnScope ["steps", "numbers", "sets", "rows", "latest", "behind", "row", "letter", "found"] ["steps"] (defScope s_sets_of) := ⟨rfl, rfl, rfl, by decide +kernel, rfl, by decide +kernel, by decide +kernel⟩
set_option maxHeartbeats 1000000 in
theorem ok_setsof {C f : Addr} {fd : FuncData} (T : StTxt K C) (B : Bt K mg a_BOUNDS a_LONG_BOUNDS tL tM) (Dd : Df K mg "sets_of" s_sets_of ["steps"] f fd) (Gby_letter : Cl P w K mg base 1 "by_letter" ["steps", "near"] (spByL C)) (Gplaces_behind : Cl P w K mg base 1 "places_behind" ["steps", "row"] (spBehind C)) : FnOk P w K mg base CX0 2 f fd ["steps"] (spSets C) := by
  refine Dd.F.ok sc_sets_of (fun vs H Q Ex h => ?_) (fun cdv A outer s H vs Q Ex hr h => ?_)
  · obtain ⟨p, e, rfl, _⟩ := h
    rfl
  obtain ⟨p, e, rfl, hS, h8, q⟩ := h
  refine ⟨_, (pss_cons (ps_set (i := 1) sc_sets_of.nd rfl (Or.inl rfl) (pe_disp1T (hu_of hr) (pe_tup pa_nil) pe_int))
    (pss_cons (ps_set (i := 2) sc_sets_of.nd rfl (Or.inl rfl) (pe_lst (pa_cons (pe_tup pa_nil) pa_nil)))
    (pss_cons (ps_set (i := 3) sc_sets_of.nd rfl (Or.inl rfl) (pe_lst pa_nil))
    (pss_cons (ps_while PassesOwn.never (pt_cmpR op_lt (pe_callB call_len rfl B.b_len boot_len (pa_cons (pv 3) pa_nil)) (pe_callB call_len rfl B.b_len boot_len (pa_cons (pv 2) pa_nil)) (nomark _)) (pss_cons (ps_set (i := 4) sc_sets_of.nd rfl (Or.inl rfl) (pe_ix (r := rIxL K) ix_list (pv 2) (pe_callB call_len rfl B.b_len boot_len (pa_cons (pv 3) pa_nil)) (fun _ _ => rfl)))
    (C8.pss_cut (ps_set (i := 5) sc_sets_of.nd rfl (Or.inl rfl) (pe_cl Gby_letter (hr.mono (by omega)) rfl (pa_cons (pv 0) (pa_cons (pe_ifExp (pt_cmpR (op_eqD (u64 hr)) (pv 4) (pe_tup pa_nil) (nomark _)) (pe_fld (pv 0) rfl) (pe_cl Gplaces_behind (hr.mono (by omega)) rfl (pa_cons (pv 0) (pa_cons (pv 4) pa_nil)))) pa_nil))))
    (pss_cons (ps_set (i := 6) sc_sets_of.nd rfl (Or.inl rfl) pe_dnewK)
    (pss_cons (ps_for PassesOwn.never rfl (pi_str (pe_glob (v := .str "abcd") rfl B.g_LETTERS ⟨_, rfl⟩)) (pg_name (i := 7) sc_sets_of.nd rfl (Or.inl rfl)) (pss_one (ps_if (pt_cmp (pc_din (hu_of hr) (pv 7) (pv 5))) (pss_cons (ps_set (i := 8) sc_sets_of.nd rfl (Or.inl rfl) (pe_dget (hu_of hr) (pv 5) (pv 7) (fun _ _ => rfl)))
    (pss_cons (ps_if (pt_cmp (pc_dnotin (hu_of hr) (pv 8) (pv 1))) (pss_cons (ps_dput (hu_of hr) (pv 1) (pv 8) (pe_callB call_len rfl B.b_len boot_len (pa_cons (pv 2) pa_nil)) rfl)
    (pss_one (ps_expr (pe_bm PySem.F.plainAttrs_list PySem.F.slot_list_append PySem.F.type_list_append mt_append (pv 2) (pa_cons (pv 8) pa_nil))))) pss_nil)
    (pss_one (ps_dput (hu_of hr) (pv 6) (pv 7) (pe_dget (hu_of hr) (pv 1) (pv 8) (fun _ _ => rfl)) rfl)))) pss_nil)))
    (pss_one (ps_expr (pe_bm PySem.F.plainAttrs_list PySem.F.slot_list_append PySem.F.type_list_append mt_append (pv 3) (pa_cons (pv 6) pa_nil)))))))))
    (pss_one (ps_ret (pe_tup (pa_cons (pv 2) (pa_cons (pv 3) pa_nil))))))))), ?_⟩
  intro nd hnd
  refine ⟨by show 0 ≤ sizeLine; decide, fun t1 ht1 => ⟨by rw [upd_ne (ne_of_none upd_same ht1)]; exact upd_same, [], t1, rfl, upd_same, ?_⟩⟩
  have s1 : Same H (upd (upd (upd H nd (.dT [])) t1 (.tup [])) nd (.dT [([], V.int 0)])) := fun b o hb => by
    rw [upd_ne (ne_of_none hb hnd), upd_ne (ne_of_none (same_upd hnd _ _ hb) ht1)]
    exact same_upd hnd _ _ hb
  generalize hH1 : upd (upd (upd H nd (.dT [])) t1 (.tup [])) nd (.dT [([], V.int 0)]) = H1 at s1 ⊢
  have hn1 : H1 nd = some (.dT (numKo [[]] 0)) := by rw [← hH1, upd_same]; rfl
  refine ⟨by show 0 ≤ sizeLine; decide, fun t2 ht2 => ⟨by show 1 ≤ sizeLine; decide, fun sa hsa => ⟨by show 0 ≤ sizeLine; decide, fun ra hra => ?_⟩⟩⟩
  have s2 := same_upd (o := .tup []) ht2
  have s3 := same_upd (o := .lst [V.ref t2]) hsa
  have s4 := same_upd (o := .lst []) hra
  have I0 : SetOut H (upd (upd (upd H1 t2 (.tup [])) sa (.lst [V.ref t2])) ra (.lst [])) e nd sa ra [[]] (fun _ _ => none) [V.ref t2] [] := {
    same := s1.trans (s2.trans (s3.trans s4))
    n0 := hnd
    s0 := s1.free (s2.free hsa)
    r0 := s1.free (s2.free (s3.free hra))
    hn := s4 _ _ (s3 _ _ (s2 _ _ hn1))
    hs := s4 _ _ upd_same
    two := .cons ⟨t2, rfl, s4 _ _ (s3 _ _ upd_same)⟩ .nil
    hra := upd_same
    bfs := .start e
    rows := fun j v hj => by cases hj
    sra := ne_of_none upd_same hra }
  generalize upd (upd (upd H1 t2 (.tup [])) sa (.lst [V.ref t2])) ra (.lst []) = H2 at I0 ⊢
  refine ⟨fun m σ' H' => ∃ (o4 o5 o6 o7 o8 : Option V) (S : List (List Nat)) (mv : Mv) (ts rs : List V), σ' = [some (.ref p), some (.ref nd), some (.ref sa), some (.ref ra), o4, o5, o6, o7, o8] ∧ SetOut H H' e nd sa ra S mv ts rs ∧ m + rs.length = 257, ⟨257, none, none, none, none, none, _, _, _, _, rfl, I0, rfl⟩, ?_⟩
  rintro m σ' H' ⟨o4, o5, o6, o7, o8, S, mv, ts, rs, rfl, I, hm⟩
  have hS256 := I.bfs.len256 h8
  have hle := I.bfs.le
  have htl := I.two.len
  refine ⟨_, rfl, _, rs.length, rfl, .inl ⟨_, SqL.of I.hra, rfl⟩, _, rfl, _, ts.length, rfl, .inl ⟨_, SqL.of I.hs, rfl⟩, _, _, rfl, rfl, _, rfl, ite2 (fun c => ?_) (fun c => ?_)⟩
  · have hlt : rs.length < S.length := by
      have := of_decide_eq_true c
      omega
    obtain ⟨s, hs⟩ : ∃ s, S[rs.length]? = some s := ⟨_, List.getElem?_eq_getElem hlt⟩
    have hst : ts[rs.length]? = some (ts[rs.length]'(by omega)) := List.getElem?_eq_getElem _
    obtain ⟨s', hs', a, ha1, ha2⟩ := I.two.get hst
    obtain rfl : s = s' := Option.some.inj (hs.symm.trans hs')
    have hsm : s ∈ S := List.mem_of_getElem? hs
    have hri := I.bfs.rise s hsm
    have hbd := I.bfs.bd s hsm
    have hsl := riseN_len hri hbd
    refine ⟨fun σ' H' => ∃ (o4 o5 o6 o7 o8 : Option V) (S : List (List Nat)) (mv : Mv) (ts rs : List V), σ' = [some (.ref p), some (.ref nd), some (.ref sa), some (.ref ra), o4, o5, o6, o7, o8] ∧ SetOut H H' e nd sa ra S mv ts rs ∧ m - 1 + rs.length = 257, fun σ2 H2 h => ⟨m - 1, by omega, h⟩, ?_⟩
    refine ⟨_, rfl, _, rfl, _, rs.length, rfl, .inl ⟨_, SqL.of I.hra, rfl⟩, sa, ts, (rs.length : Int), .ref a, rfl, rfl, SqL.of I.hs, at_of (j := rs.length) rfl (by rw [hst, ha1]), ?_⟩
    refine ⟨fun σ' H2 => ∃ (bd : Addr) (kvs : List (L2.Key × V)) (cs : List Nat), σ' = [some (.ref p), some (.ref nd), some (.ref sa), some (.ref ra), some (.ref a), some (.ref bd), o6, o7, o8] ∧ Same H' H2 ∧ H2 bd = some (.dK kvs) ∧ GrpK H2 e (nrS e s) kvs cs, ?_, ?_⟩
    · refine ⟨_, rfl, _, rfl, by show 0 ≤ sizeLine; decide, fun t5 ht5 => ⟨.tuple (psd s), .tuple [], .tup (SqT.of (same_upd ht5 _ _ ha2)) (dpAll_ints _), .tup (SqT.of upd_same) .nil, tup_shaped _, tup_shaped [], _, rfl, ite2 (fun c1 => ?_) (fun c1 => ?_)⟩⟩
      · have e0 : s = [] := of_decide_eq_true ((row_eqv s []).symm.trans c1)
        subst e0
        have s5 := same_upd (o := .tup []) ht5
        have hS5 := (hS.same I.same).same s5
        obtain ⟨dx, f1, l1, o1, z', ts1, h1, h2, h3, h4, h5, h6, h7⟩ := hS5.ex
        refine ⟨_, rfl, p, C, dx, _, _, rfl, h1, T.cl, T.a3, stF_first .., p, f1, e, (gl e 0).fst, rfl, hS5, by omega, .inl h3, fun x hx => by have := ((gl_within e 0).fst x hx).2; omega, Nat.le_trans (gl_len e 0).fst (by omega), fun bd kvs cs H6 s6 hb0 hb hg => ?_⟩
        exact ⟨bd, kvs, cs, rfl, s5.trans s6, hb, hg⟩
      · have e0 : s ≠ [] := fun h => c1 ((row_eqv s []).trans (decide_eq_true h))
        have s5 := same_upd (o := .tup []) ht5
        have hS5 := (hS.same I.same).same s5
        refine ⟨_, rfl, _, rfl, p, a, e, s, rfl, hS5, by omega, s5 _ _ ha2, hbd, by omega, fun y ys H6 s6 hy0 hy hyr hym => ?_⟩
        have hys : nrS e s = ys := stS_of e0 hyr hym
        have hyb : ∀ x ∈ ys, x < e.places := fun x hx => by
          obtain ⟨z, _, hz⟩ := (hym x).mp hx
          have := ((gl_within e 0).fol z x hz).2
          omega
        refine ⟨p, y, e, ys, rfl, hS5.same s6, by omega, .inr hy, hyb, Nat.le_trans (riseN_len hyr hyb) (by omega), fun bd kvs cs H7 s7 hb0 hb hg => ?_⟩
        exact ⟨bd, kvs, cs, rfl, s5.trans (s6.trans s7), hb, by rw [hys]; exact hg⟩
    · rintro σ' H2 ⟨bd, kvs, cs, rfl, s5, hb, hg⟩
      refine fun d hd => ?_
      have s6 := same_upd (o := .dK []) hd
      have J0 : SetIn H (upd H2 d (.dK [])) e nd sa ra d bd S mv ts rs s kvs cs 0 := {
        same := I.same.trans (s5.trans s6)
        n0 := I.n0
        s0 := I.s0
        d0 := I.same.free (s5.free hd)
        hn := s6 _ _ (s5 _ _ I.hn)
        hs := s6 _ _ (s5 _ _ I.hs)
        two := I.two.tk fun b xs h => s6 _ _ (s5 _ _ h)
        hra := s6 _ _ (s5 _ _ I.hra)
        bfs := I.bfs
        hat := hs
        rows := I.rows.same (s5.trans s6)
        new := fun j v hj e0 => by
          obtain ⟨x, e1, e2⟩ := I.rows j v hj
          rw [e0] at e1
          cases e1
          rw [s5 _ _ e2] at hd
          cases hd
        hd := upd_same
        hb := s6 _ _ hb
        bdd := ne_of_none hb hd
        sra := I.sra
        grp := hg.tk fun b xs h => s6 _ _ h }
      refine ⟨⟨#[97, 98, 99, 100]⟩, rfl, for_strB (z := ⟨#[97, 98, 99, 100]⟩) (fun k σ' H' => ∃ (o7 o8 : Option V) (S : List (List Nat)) (mv : Mv) (ts : List V), σ' = [some (.ref p), some (.ref nd), some (.ref sa), some (.ref ra), some (.ref a), some (.ref bd), some (.ref d), o7, o8] ∧ SetIn H H' e nd sa ra d bd S mv ts rs s kvs cs k) ⟨o7, o8, S, mv, ts, rfl, J0⟩ ?_ ?_⟩
      · rintro k c σ' H3 hc ⟨o7, o8, S, mv, ts, rfl, J⟩
        obtain ⟨hk, rfl⟩ := l4_get hc
        have hst : rowL e (nrS e s) (97 + k) = stS e s (97 + k) := rfl
        rcases J.grp.get (97 + k) with ⟨g1, g2⟩ | ⟨fq, g1, g2, g3⟩
        · refine ⟨_, rfl, _, rfl, bd, none, rfl, by rw [← g2]; exact DGet.k (k := Sum.inr ⟨#[97 + k]⟩) J.hb, _, rfl, iteF ?_⟩
          exact ⟨_, o8, S, mv, ts, rfl, J.skip hk g1⟩
        rw [hst] at g2 g3
        have hgb : DGet H3 bd (V.str ⟨#[97 + k]⟩) (some (.ref fq)) := by rw [← g1]; exact DGet.k (k := Sum.inr ⟨#[97 + k]⟩) J.hb
        have hkey : H3 fq = some (.tup ((keyS (stS e s (97 + k))).map kV)) := by rw [keyS_kV]; exact g2
        have hSl := J.bfs.len256 h8
        have htl := J.two.len
        have hrl : (rowK (mv rs.length) (lets4.take k)).length < sizeLine := Nat.lt_of_le_of_lt (rowK_len _ _) (Nat.lt_of_le_of_lt (m := 4) (by rw [List.length_take]; exact Nat.min_le_right _ _) (by decide))
        refine ⟨_, rfl, _, rfl, bd, some (.ref fq), rfl, hgb, _, rfl, iteT ⟨_, rfl, _, rfl, bd, .ref fq, rfl, hgb, ?_⟩⟩
        by_cases hin : stS e s (97 + k) ∈ S
        · obtain ⟨t, ht⟩ := List.mem_iff_getElem?.mp hin
          have hgn : DGet H3 nd (.ref fq) (some (V.int ((t : Nat) : Int))) := by
            have := DGet.t (k := keyS (stS e s (97 + k))) J.hn hkey
            rw [numKo_get S 0 _ t J.bfs.nd ht, Nat.zero_add] at this
            exact this
          refine ⟨_, rfl, _, rfl, nd, _, rfl, hgn, _, rfl, iteF ?_⟩
          refine ⟨_, rfl, _, rfl, nd, _, rfl, hgn, _, rfl, _, rfl, d, _, rfl, DPut.k (k := symK (97 + k)) J.hd hrl, ?_⟩
          exact ⟨_, _, S, _, ts, rfl, J.old hk g3 ht⟩
        · have hgn : DGet H3 nd (.ref fq) none := by
            have := DGet.t (k := keyS (stS e s (97 + k))) J.hn hkey
            rw [numKo_none S 0 _ hin] at this
            exact this
          refine ⟨_, rfl, _, rfl, nd, _, rfl, hgn, _, rfl, iteT ?_⟩
          refine ⟨_, rfl, _, ts.length, rfl, .inl ⟨_, SqL.of J.hs, rfl⟩, _, rfl, _, rfl, nd, _, rfl, DPut.t (k := keyS (stS e s (97 + k))) J.hn hkey (by rw [numKo_len]; exact Nat.lt_of_le_of_lt hSl (by decide)), ?_⟩
          have nsa : sa ≠ nd := ne_of J.hs J.hn (by intro z; cases z)
          have hs1 := (upd_ne (H := H3) (o := .dT (putK (numKo S 0) (keyS (stS e s (97 + k))) (V.int ((ts.length : Nat) : Int)))) nsa).trans J.hs
          refine ⟨_, rfl, .inl ⟨rfl, _, SqL.of hs1⟩, _, rfl, sa, ts, _, rfl, rfl, hs1, Nat.lt_of_le_of_lt (m := 256) (by omega) (by decide), ?_⟩
          rw [htl]
          obtain ⟨n1, J2⟩ := J.add hk g3 hin g2 rfl rfl
          have hgn2 := DGet.t (k := keyS (stS e s (97 + k))) n1 (b := fq) (by
              rw [upd_ne (ne_of hkey J.hs (by intro z; cases z)), upd_ne (ne_of hkey J.hn (by intro z; cases z))]
              exact hkey)
          rw [numKo_get (S ++ [stS e s (97 + k)]) 0 _ S.length J2.bfs.nd (by rw [List.getElem?_append_right (Nat.le_refl _), Nat.sub_self]; rfl), Nat.zero_add] at hgn2
          have nd1 : nd ≠ d := ne_of J.hn J.hd (by intro z; cases z)
          have sd : sa ≠ d := ne_of J.hs J.hd (by intro z; cases z)
          refine ⟨_, rfl, _, rfl, nd, _, rfl, hgn2, _, rfl, _, rfl, d, _, rfl, DPut.k (k := symK (97 + k)) (by rw [upd_ne sd.symm, upd_ne nd1.symm]; exact J.hd) hrl, ?_⟩
          exact ⟨_, _, _, _, _, rfl, J2⟩
      · rintro σ' H3 ⟨o7, o8, S, mv, ts, rfl, J⟩
        have hil := (List.getElem?_eq_some_iff.mp J.hat).1
        have hSl := J.bfs.len256 h8
        refine ⟨_, rfl, .inl ⟨rfl, _, SqL.of J.hra⟩, _, rfl, ra, rs, _, rfl, rfl, J.hra, Nat.lt_of_le_of_lt (m := 256) (by omega) (by decide), ?_⟩
        refine ⟨_, _, _, _, _, S, mv, ts, rs ++ [.ref d], rfl, ?_, by rw [List.length_append, List.length_singleton]; omega⟩
        have rd : ra ≠ d := ne_of J.hra J.hd (by intro z; cases z)
        have tk := tk_upd (o := .lst (rs ++ [V.ref d])) J.hra (by intro xs z; cases z)
        exact {
          same := fun b o hb => by rw [upd_ne (ne_of_none hb I.r0)]; exact J.same _ _ hb
          n0 := I.n0
          s0 := I.s0
          r0 := I.r0
          hn := by rw [upd_ne (ne_of J.hn J.hra (by intro z; cases z))]; exact J.hn
          hs := by rw [upd_ne J.sra]; exact J.hs
          two := J.two.tk tk
          hra := upd_same
          bfs := by
            rw [List.length_append, List.length_singleton]
            exact J.bfs.row hil
          rows := fun j v hj => by
            rcases Nat.lt_or_ge j rs.length with hl | hl
            · rw [List.getElem?_append_left hl] at hj
              exact (J.rows.upd (J.rows.ne J.hra (by intro kvs z; cases z))) j v hj
            · rw [List.getElem?_append_right hl] at hj
              have hj0 : j = rs.length := by
                have := (List.getElem?_eq_some_iff.mp hj).1
                rw [List.length_singleton] at this
                omega
              subst hj0
              rw [Nat.sub_self] at hj
              cases hj
              exact ⟨d, rfl, by rw [upd_ne rd.symm]; exact J.hd⟩
          sra := I.sra }
  · have hrl : rs.length = S.length := by
      have : ¬ (rs.length : Int) < (ts.length : Int) := fun h => c (decide_eq_true h)
      omega
    refine ⟨_, rfl, _, rfl, by show 2 ≤ sizeLine; decide, fun t9 ht9 => ?_⟩
    have s9 := same_upd (o := .tup [V.ref sa, .ref ra]) ht9
    exact q t9 sa ra S mv ts rs _ (I.same.trans s9) upd_same (s9 _ _ I.hs) (s9 _ _ I.hra) (I.two.tk fun b xs h => s9 _ _ h) (by rw [← hrl]; exact I.bfs) hrl (I.rows.same s9)
end
end My
namespace My
open PySem PySem.Spec PyProof.Rows L2
/-! ### numbers of True and False -/
def spNumL : Sp := fun vs H Q _ => ∃ (l : Addr) (bs : List Bool), vs = [.ref l] ∧ H l = some (.lst (bs.map V.bl)) ∧ bs.length ≤ 1000 ∧ ∀ q H', Same H H' → H q = none → H' q = some (.lst (natsV (numL (bs.map boolK)))) → Q (.ref q) H'
theorem boolK_lk (b : Bool) : LK (boolK b) (V.bl b) := rfl
section
variable {P : Program} {w : World} {K : PySem.W.Frag} {mg : Str → Option Value} {base : Heap} {a_BOUNDS a_LONG_BOUNDS : Addr} {tL tM : Tok}
abbrev N__numbered : List Str := ["signs", "numbers", "sign"]
theorem sc__numbered : FnScope ["signs", "numbers", "sign"] ["signs"] (defScope s__numbered) := ⟨rfl, rfl, rfl, by decide +kernel, rfl, by decide +kernel, by decide +kernel⟩
theorem ok_numL {f : Addr} {fd : FuncData} (B : Bt K mg a_BOUNDS a_LONG_BOUNDS tL tM) (Dd : Df K mg "_numbered" s__numbered ["signs"] f fd) : FnOk P w K mg base CX0 1 f fd ["signs"] spNumL := by
  refine Dd.F.ok sc__numbered (fun vs H Q Ex h => ?_) (fun cdv A outer s H vs Q Ex hr h => ?_)
  · obtain ⟨l, bs, rfl, _⟩ := h
    rfl
  obtain ⟨l, bs, rfl, hl, h1000, q⟩ := h
  refine ⟨_, (pss_cons (ps_set (i := 1) sc__numbered.nd rfl (Or.inr rfl) pe_dnewL)
    (pss_cons (ps_for PassesOwn.never rfl (pi_list (pv 0)) (pg_name (i := 2) sc__numbered.nd rfl (Or.inl rfl)) (pss_one (ps_expr (pe_lsetd (pv 1) (pv 2) (pe_callB call_lenL rfl B.b_len boot_len (pa_cons (pv 1) pa_nil)) ⟨rfl, rfl, rfl, rfl⟩))))
    (pss_one (ps_ret (pe_lc (own := [("sign", 2)]) (g := gName 2) (tt := tYes) rfl sc__numbered.nd (pi_list (pv 0)) (blkOk_by (N := N__numbered) (sc := defScope s__numbered) (by decide +kernel)) (fun _ _ _ _ _ => pg_name (i := 2) sc__numbered.nd rfl (Or.inl rfl)) (fun _ _ _ _ _ => pts_nil) (fun _ _ _ _ _ => (pe_lgetB (P := P) (w := w) rfl rfl (pv 1) (pv 2) (fun _ _ => rfl)))))))), ?_⟩
  intro nd hnd
  have s1 := same_upd (o := LDict P w nd []) hnd
  refine ⟨_, rfl, l, rfl, ⟨_, SqL.of (s1 _ _ hl)⟩, for_list (K := K) (a := l) (xs := bs.map V.bl) (fun i σ' H' => ∃ (o2 : Option V), σ' = [some (.ref l), some (.ref nd), o2] ∧ Same H H' ∧ H' nd = some (LDict P w nd (numG (firstsL ((bs.map boolK).take i)) 0))) ?_ ?_ ?_ ?_⟩
  · exact ⟨none, rfl, s1, upd_same⟩
  · rintro i σ' H' _ ⟨o2, rfl, s2, _⟩
    exact SqL.of (s2 _ _ hl)
  · rintro i v σ' H' hv ⟨o2, rfl, s2, hn⟩
    rw [List.getElem?_map] at hv
    obtain ⟨b, hb, rfl⟩ := Option.map_eq_some_iff.mp hv
    have hk : (bs.map boolK)[i]? = some (boolK b) := by rw [List.getElem?_map, hb]; rfl
    have hlen : (firstsL ((bs.map boolK).take i)).length ≤ 1000 := by
      have h1 := firstsL_len ((bs.map boolK).take i)
      have h3 : ((bs.map boolK).take i).length ≤ (bs.map boolK).length := List.length_take_le' ..
      rw [List.length_map] at h3
      omega
    refine ⟨_, rfl, nd, _, rfl, hn, _, rfl, ⟨_, rfl, nd, _, rfl, hn, ?_⟩⟩
    refine ⟨numG (firstsL ((bs.map boolK).take i)) 0, boolK b, hn, boolK_lk b, by rw [numG_len]; exact Nat.lt_of_le_of_lt hlen (by decide), fun v hv2 => ?_, fun hv2 => ?_⟩
    · refine ⟨_, rfl, s2, ?_⟩
      rw [take_snoc hk, firstsL_old]
      · exact hn
      · refine Classical.byContradiction fun h => ?_
        rw [numG_none _ _ _ fun k => h ((mem_firstsL _ _).mp k)] at hv2
        cases hv2
    · refine ⟨_, rfl, fun b o hb => by rw [upd_ne (ne_of_none hb hnd)]; exact s2 _ _ hb, ?_⟩
      have hnot : boolK b ∉ (bs.map boolK).take i := fun h => by
        rw [numG_idx _ _ _ ((mem_firstsL _ _).mpr h)] at hv2
        cases hv2
      rw [upd_same, take_snoc hk, firstsL_new hnot, numG_snoc, numG_len, Nat.zero_add]
      rfl
  · rintro σ' H2 ⟨o2, rfl, s2, hn⟩
    rw [List.length_map, show bs.length = (bs.map boolK).length from (List.length_map _).symm, List.take_length] at hn
    refine ⟨_, rfl, l, rfl, ⟨_, SqL.of (s2 _ _ hl)⟩, fun L hL => ?_⟩
    refine lc_list (K := K) (a := l) (xs := bs.map V.bl) (fun i H3 => Same H2 H3 ∧ H3 L = some (.lst (natsV ((numL (bs.map boolK)).take i)))) ⟨same_upd hL, upd_same⟩ (fun k H3 _ h => SqL.of (h.1 _ _ (s2 _ _ hl))) (fun i v H3 hv h => ?_) (fun H3 h => ?_)
    · obtain ⟨s3, hL3⟩ := h
      rw [List.getElem?_map] at hv
      obtain ⟨b, hb, rfl⟩ := Option.map_eq_some_iff.mp hv
      have hk : (bs.map boolK)[i]? = some (boolK b) := by rw [List.getElem?_map, hb]; rfl
      have hm : boolK b ∈ firstsL (bs.map boolK) := (mem_firstsL _ _).mpr (List.mem_of_getElem? hk)
      have hvv := numG_idx (firstsL (bs.map boolK)) 0 _ hm
      rw [Nat.zero_add] at hvv
      refine ⟨rfl, tyes ⟨_, rfl, _, rfl, nd, _, boolK b, _, rfl, s3 _ _ hn, boolK_lk b, hvv, ?_⟩⟩
      refine ⟨_, hL3, ?_, fun b o' hb => by rw [upd_ne (ne_of_none hb hL)]; exact s3 _ _ hb, ?_⟩
      · rw [natsV_len, List.length_take, numL_len, List.length_map]
        exact Nat.lt_of_le_of_lt (m := 1000) (by omega) (by decide)
      · rw [upd_same, take_snoc (numL_get hk), ← natsV_app]
        rfl
    · obtain ⟨s3, hL3⟩ := h
      rw [List.length_map, show bs.length = (numL (bs.map boolK)).length by rw [numL_len, List.length_map], List.take_length] at hL3
      exact q L H3 (s2.trans s3) (s2.free hL) hL3
end
end My
namespace My
open PySem PySem.Spec PyProof.Rows L2
/-! ### numbers of signs -/
def SgnAt (H : Hp) (t : V) (k : NestedKey) : Prop := ∃ b, t = .ref b ∧ NK H k (.ref b) ∧ k.depth ≤ 8
theorem SgnAt.same {H H' : Hp} {t : V} {k : NestedKey} (s : Same H H') (h : SgnAt H t k) : SgnAt H' t k := by
  obtain ⟨b, h1, h2, h3⟩ := h
  exact ⟨b, h1, h2.tk fun c xs hc => s _ _ hc, h3⟩
def spNumN : Sp := fun vs H Q _ => ∃ (l : Addr) (ts : List V) (ks : List NestedKey), vs = [.ref l] ∧ H l = some (.lst ts) ∧ Two (SgnAt H) ts ks ∧ ks.length ≤ 1000 ∧ ∀ q H', Same H H' → H q = none → H' q = some (.lst (natsV (numL ks))) → Q (.ref q) H'
section
variable {P : Program} {w : World} {K : PySem.W.Frag} {mg : Str → Option Value} {base : Heap} {a_BOUNDS a_LONG_BOUNDS : Addr} {tL tM : Tok}
theorem ok_numN {f : Addr} {fd : FuncData} (B : Bt K mg a_BOUNDS a_LONG_BOUNDS tL tM) (Dd : Df K mg "_numbered" s__numbered ["signs"] f fd) : FnOk P w K mg base CX0 1 f fd ["signs"] spNumN := by
  refine Dd.F.ok sc__numbered (fun vs H Q Ex h => ?_) (fun cdv A outer s H vs Q Ex hr h => ?_)
  · obtain ⟨l, ts, ks, rfl, _⟩ := h
    rfl
  obtain ⟨l, ts, ks, rfl, hl, two, h1000, q⟩ := h
  refine ⟨_, (pss_cons (ps_set (i := 1) sc__numbered.nd rfl (Or.inr rfl) pe_dnewN)
    (pss_cons (ps_for PassesOwn.never rfl (pi_list (pv 0)) (pg_name (i := 2) sc__numbered.nd rfl (Or.inl rfl)) (pss_one (ps_expr (pe_nsetd (room8 hr) (pv 1) (pv 2) (pe_callB call_lenN rfl B.b_len boot_len (pa_cons (pv 1) pa_nil)) ⟨rfl, rfl, rfl, rfl⟩))))
    (pss_one (ps_ret (pe_lc (own := [("sign", 2)]) (g := gName 2) (tt := tYes) rfl sc__numbered.nd (pi_list (pv 0)) (blkOk_by (N := N__numbered) (sc := defScope s__numbered) (by decide +kernel)) (fun _ _ _ _ _ => pg_name (i := 2) sc__numbered.nd rfl (Or.inl rfl)) (fun _ _ _ _ _ => pts_nil) (fun _ _ _ _ _ => (pe_ngetB (P := P) (w := w) rfl rfl (room8 hr) (pv 1) (pv 2) (fun _ _ => rfl)))))))), ?_⟩
  intro nd H1 hnd put1
  have s1 : Same H H1 := fun b o hb => by rw [put1.keep b (ne_of_none hb hnd)]; exact hb
  have htl := two.len
  refine ⟨_, rfl, l, rfl, ⟨_, SqL.of (s1 _ _ hl)⟩, for_list (K := K) (a := l) (xs := ts) (fun i σ' H' => ∃ (o2 : Option V), σ' = [some (.ref l), some (.ref nd), o2] ∧ Same H H' ∧ NDAt P w H' nd (numG (firstsL (ks.take i)) 0)) ?_ ?_ ?_ ?_⟩
  · exact ⟨none, rfl, s1, put1.at_⟩
  · rintro i σ' H' _ ⟨o2, rfl, s2, _⟩
    exact SqL.of (s2 _ _ hl)
  · rintro i v σ' H' hv ⟨o2, rfl, s2, hn⟩
    obtain ⟨k, hk, b, rfl, hb, hd⟩ := two.get hv
    have hb2 : NK H' k (.ref b) := hb.tk fun c xs hc => s2 _ _ hc
    have hlen : (firstsL (ks.take i)).length ≤ 1000 := by
      have h1 := firstsL_len (ks.take i)
      have h3 : (ks.take i).length ≤ ks.length := List.length_take_le' ..
      omega
    refine ⟨_, rfl, nd, _, rfl, hn, _, rfl, ⟨_, rfl, nd, _, rfl, hn, ?_⟩⟩
    refine ⟨numG (firstsL (ks.take i)) 0, k, b, hn, rfl, hb2, hd, by rw [numG_len]; exact Nat.lt_of_le_of_lt hlen (by decide), fun v hv2 => ?_, fun hv2 H4 put => ?_⟩
    · refine ⟨_, rfl, s2, ?_⟩
      rw [take_snoc hk, firstsL_old]
      · exact hn
      · refine Classical.byContradiction fun h => ?_
        rw [numG_none _ _ _ fun k => h ((mem_firstsL _ _).mp k)] at hv2
        cases hv2
    · refine ⟨_, rfl, fun c o hc => by rw [put.keep c (ne_of_none hc hnd)]; exact s2 _ _ hc, ?_⟩
      have hnot : k ∉ ks.take i := fun h => by
        rw [numG_idx _ _ _ ((mem_firstsL _ _).mpr h)] at hv2
        cases hv2
      have := put.at_
      rw [numG_len] at this
      rw [take_snoc hk, firstsL_new hnot, numG_snoc, Nat.zero_add]
      exact this
  · rintro σ' H2 ⟨o2, rfl, s2, hn⟩
    rw [htl, List.take_length] at hn
    refine ⟨_, rfl, l, rfl, ⟨_, SqL.of (s2 _ _ hl)⟩, fun L hL => ?_⟩
    refine lc_list (K := K) (a := l) (xs := ts) (fun i H3 => Same H2 H3 ∧ H3 L = some (.lst (natsV ((numL ks).take i)))) ⟨same_upd hL, upd_same⟩ (fun k H3 _ h => SqL.of (h.1 _ _ (s2 _ _ hl))) (fun i v H3 hv h => ?_) (fun H3 h => ?_)
    · obtain ⟨s3, hL3⟩ := h
      obtain ⟨k, hk, b, rfl, hb, hd⟩ := two.get hv
      have hb2 : NK H3 k (.ref b) := hb.tk fun c xs hc => s3 _ _ (s2 _ _ hc)
      have hm : k ∈ firstsL ks := (mem_firstsL _ _).mpr (List.mem_of_getElem? hk)
      have hvv := numG_idx (firstsL ks) 0 _ hm
      rw [Nat.zero_add] at hvv
      refine ⟨rfl, tyes ⟨_, rfl, _, rfl, nd, _, k, b, _, rfl, rfl, hn.same s3, hb2, hd, hvv, ?_⟩⟩
      refine ⟨_, hL3, ?_, fun b o' hb => by rw [upd_ne (ne_of_none hb hL)]; exact s3 _ _ hb, ?_⟩
      · rw [natsV_len, List.length_take, numL_len]
        exact Nat.lt_of_le_of_lt (m := 1000) (by omega) (by decide)
      · rw [upd_same, take_snoc (numL_get hk), ← natsV_app]
        rfl
    · obtain ⟨s3, hL3⟩ := h
      rw [htl, show ks.length = (numL ks).length by rw [numL_len], List.take_length] at hL3
      exact q L H3 (s2.trans s3) (s2.free hL) hL3
end
end My
namespace My
open PySem PySem.Spec PyProof.Rows L2
/-! ### classes of states -/
def spNum2 : Sp := fun vs H Q E => spNumL vs H Q E ∨ spNumN vs H Q E
def spClasses : Sp := fun vs H Q _ => ∃ (er rr : Addr) (acc : Nat → Bool) (rs : List V) (mv : Mv) (L : List Nat → Prop), vs = [.ref er, .ref rr] ∧ H er = some (.lst (((List.range rs.length).map acc).map V.bl)) ∧ H rr = some (.lst rs) ∧ RowsUp H rs mv ∧ rs.length ≤ 300 ∧ IsPre L rs.length acc mv ∧
  ∀ (q : Addr) (a : List Nat) H', Same H H' → H' q = some (.lst (natsV a)) → Refn rs.length acc mv a → finer mv a = a → Q (.ref q) H'
def wayV (a : List Nat) (o : Option Nat) : V := match o with
  | some t => .int ((a.getD t 0 : Nat) : Int)
  | none => .int (-1)
theorem way_nk {H : Hp} (a : List Nat) (o : Option Nat) : NK H (wayN a o) (wayV a o) := by
  cases o with
  | none => exact .int _
  | some t => exact .int _
theorem ways_two {H : Hp} (a : List Nat) (f : Nat → Option Nat) : ∀ cs : List Nat, Two (fun x d => NK H d x) (cs.map fun c => wayV a (f c)) (cs.map fun c => wayN a (f c))
  | [] => .nil
  | c :: cs => .cons (way_nk a (f c)) (ways_two a f cs)
theorem dp_nats {K : PySem.W.Frag} {H : Hp} {p : Addr} {ns : List Nat} (h : H p = some (.lst (natsV ns))) : Dp K H (.ref p) (.list (psd ns)) := .lst (SqL.of h) (dpAll_ints _)
theorem signN_dep (mv : Mv) (a : List Nat) (i : Nat) : (signN mv a i).depth ≤ 8 := by
  have hw : ∀ cs : List Nat, NestedKey.depthAll (cs.map fun c => wayN a (mv i c)) = 0 := fun cs => by
    induction cs with
    | nil => rfl
    | cons c cs ih =>
      rw [List.map_cons, NestedKey.depthAll, ih]
      cases mv i c <;> rfl
  unfold signN
  simp only [NestedKey.depth, NestedKey.depthAll, hw]
  decide
theorem SgnAt.tk {H H' : Hp} {t : V} {k : NestedKey} (h : SgnAt H t k) (s : ∀ b xs, H b = some (.tup xs) → H' b = some (.tup xs)) : SgnAt H' t k := by
  obtain ⟨b, h1, h2, h3⟩ := h
  exact ⟨b, h1, h2.tk s, h3⟩
theorem sgn_at {H : Hp} {b d : Addr} {mv : Mv} {a : List Nat} {i : Nat} (hd : H d = some (.tup (lets4.map fun c => wayV a (mv i c)))) (hb : H b = some (.tup [.int ((a.getD i 0 : Nat) : Int), .ref d])) : SgnAt H (.ref b) (signN mv a i) :=
  ⟨b, rfl, .tup2 hb (.cons (.int _) (.cons (.tup2 hd (ways_two a (mv i) lets4)) .nil)), signN_dep mv a i⟩
section
variable {P : Program} {w : World} {K : PySem.W.Frag} {mg : Str → Option Value} {base : Heap} {a_BOUNDS a_LONG_BOUNDS : Addr} {tL tM : Tok}
theorem ok_num2 {f : Addr} {fd : FuncData} (B : Bt K mg a_BOUNDS a_LONG_BOUNDS tL tM) (Dd : Df K mg "_numbered" s__numbered ["signs"] f fd) : FnOk P w K mg base CX0 1 f fd ["signs"] spNum2 := by
  have F1 : FnOk P w K mg base CX0 1 f fd ["signs"] spNumL := ok_numL B Dd
  have F2 : FnOk P w K mg base CX0 1 f fd ["signs"] spNumN := ok_numN B Dd
  exact ⟨fun vs H Q E q => q.elim (F1.len vs H Q E) (F2.len vs H Q E), fun A outer s H args us vs Q E hr he hb hv hs => hs.elim (F1.run A outer s H args us vs Q E hr he hb hv) (F2.run A outer s H args us vs Q E hr he hb hv)⟩
abbrev N__classes : List Str := ["ends", "rows", "classes", "signs", "at", "row", "ways", "finer", "letter"]
theorem sc__classes : FnScope ["ends", "rows", "classes", "signs", "at", "row", "ways", "finer", "letter"] ["ends", "rows"] (defScope s__classes) := ⟨rfl, rfl, rfl, by decide +kernel, rfl, by decide +kernel, by decide +kernel⟩
set_option maxHeartbeats 1000000 in
theorem ok_classes {f : Addr} {fd : FuncData} (B : Bt K mg a_BOUNDS a_LONG_BOUNDS tL tM) (Dd : Df K mg "_classes" s__classes ["ends", "rows"] f fd) (G_numbered : Cl P w K mg base 1 "_numbered" ["signs"] spNum2) : FnOk P w K mg base CX0 2 f fd ["ends", "rows"] spClasses := by
  refine Dd.F.ok sc__classes (fun vs H Q Ex h => ?_) (fun cdv A outer s H vs Q Ex hr h => ?_)
  · obtain ⟨er, rr, acc, rs, mv, L, rfl, _⟩ := h
    rfl
  obtain ⟨er, rr, acc, rs, mv, L, rfl, he, hrr, hrows, h300, hP, q⟩ := h
  refine ⟨_, (pss_cons (ps_set (i := 2) sc__classes.nd rfl (Or.inr rfl) (pe_cl G_numbered (hr.mono (by omega)) rfl (pa_cons (pv 0) pa_nil)))
    (pss_one (ps_while PassesOwn.never (pt_val pe_bl) (pss_cons (ps_set (i := 3) sc__classes.nd rfl (Or.inl rfl) (pe_lst pa_nil))
    (pss_cons (ps_for PassesOwn.never rfl (pi_enum rfl B.b_enumerate (pa_cons (pv 1) pa_nil)) (pg_tup rfl (pgs_cons (pg_name (i := 4) sc__classes.nd rfl (Or.inl rfl)) (pgs_cons (pg_name (i := 5) sc__classes.nd rfl (Or.inr rfl)) pgs_nil))) (pss_cons (ps_setLc (i := 6) (own := [("letter", 8)]) (g := gName 8) (tt := tYes) rfl sc__classes.nd rfl rfl (sw_true rfl rfl rfl (by decide +kernel)) (pi_str (pe_glob (v := .str "abcd") rfl B.g_LETTERS ⟨_, rfl⟩)) (blkOk_by (N := N__classes) (sc := defScope s__classes) (by decide +kernel)) (fun _ _ _ _ _ => pg_name (i := 8) sc__classes.nd rfl (Or.inl rfl)) (fun _ _ _ _ _ => pts_nil) (fun _ _ _ _ _ => (pe_ifExp (pt_cmp (pc_din (hu_of hr) (pv 8) (pv 5))) (pe_ix (r := rIxL K) ix_list (pv 2) (pe_dget (hu_of hr) (pv 5) (pv 8) (fun _ _ => rfl)) (fun _ _ => rfl)) (pe_glob (v := .int (-1)) rfl B.g_NO_STATE ⟨_, rfl⟩))))
    (pss_one (ps_expr (pe_bm PySem.F.plainAttrs_list PySem.F.slot_list_append PySem.F.type_list_append mt_append (pv 3) (pa_cons (pe_tup (pa_cons (pe_ix (r := rIxL K) ix_list (pv 2) (pv 4) (fun _ _ => rfl)) (pa_cons (pe_callTy call_tuple_ofK rfl B.b_tuple boot_tuple (pa_cons (pv 6) pa_nil)) pa_nil))) pa_nil))))))
    (pss_cons (ps_set (i := 7) sc__classes.nd rfl (Or.inl rfl) (pe_cl G_numbered (hr.mono (by omega)) rfl (pa_cons (pv 3) pa_nil)))
    (pss_cons (ps_if (pt_cmpR (op_eqD (u64 hr)) (pv 7) (pv 2) (nomark _)) (pss_one (ps_ret (pv 2))) pss_nil)
    (pss_one (ps_set (i := 2) sc__classes.nd rfl (Or.inr rfl) (pv 7)))))))))), ?_⟩
  refine ⟨_, rfl, .inl ⟨er, (List.range rs.length).map acc, rfl, he, by rw [List.length_map, List.length_range]; omega, fun c0 H1 s1 hc0 hcl => ?_⟩⟩
  rw [List.map_map] at hcl
  have R0 : Refn rs.length acc mv (numL ((List.range rs.length).map (boolK ∘ acc))) := Refn.start hP
  refine ⟨fun m σ' H' => ∃ (cq : Addr) (a : List Nat) (o3 o4 o5 o6 o7 : Option V), σ' = [some (.ref er), some (.ref rr), some (.ref cq), o3, o4, o5, o6, o7, none] ∧ Same H H' ∧ H' cq = some (.lst (natsV a)) ∧ Refn rs.length acc mv a ∧ sameP a = m, ⟨_, c0, _, none, none, none, none, none, rfl, s1, hcl, R0, rfl⟩, ?_⟩
  rintro m σ' H' ⟨cq, a, o3, o4, o5, o6, o7, rfl, s2, hcq, R, hm⟩
  refine ⟨_, rfl, iteT ?_⟩
  refine ⟨fun σ' H' => ∃ (cq : Addr) (a : List Nat) (o3 o4 o5 o6 o7 : Option V), σ' = [some (.ref er), some (.ref rr), some (.ref cq), o3, o4, o5, o6, o7, none] ∧ Same H H' ∧ H' cq = some (.lst (natsV a)) ∧ Refn rs.length acc mv a ∧ sameP a < m, fun σ2 H2 ⟨cq, a, o3, o4, o5, o6, o7, e1, e2, e3, e4, e5⟩ => ⟨sameP a, e5, cq, a, o3, o4, o5, o6, o7, e1, e2, e3, e4, rfl⟩, ?_⟩
  refine ⟨by show 0 ≤ sizeLine; decide, fun sg hsg => ?_⟩
  have s3 := same_upd (o := .lst []) hsg
  have hrr3 := s3 _ _ (s2 _ _ hrr)
  refine ⟨_, rfl, rr, rs, rfl, SqL.of hrr3, for_enumL (K := K) (a := rr) (xs := rs) (fun i σ' H2 => ∃ (ts : List V) (o4 o5 o6 : Option V), σ' = [some (.ref er), some (.ref rr), some (.ref cq), some (.ref sg), o4, o5, o6, o7, none] ∧ Same H' H2 ∧ H2 sg = some (.lst ts) ∧ Two (SgnAt H2) ts ((List.range i).map fun i => signN mv a i)) ?_ ?_ ?_ ?_⟩
  · exact ⟨[], o4, o5, o6, rfl, s3, upd_same, .nil⟩
  · rintro i σ' H2 _ ⟨ts, o4, o5, o6, rfl, s4, _⟩
    exact SqL.of (s4 _ _ (s2 _ _ hrr))
  · rintro i x T σ' H2 hx ⟨ts, o4, o5, o6, rfl, s4, hL, two⟩ hT
    have hil := (List.getElem?_eq_some_iff.mp hx).1
    have al := R.len
    have uT := same_upd (o := .tup [V.int (i : Int), x]) hT
    obtain ⟨d, rfl, hd⟩ := (hrows i x hx).same (s2.trans (s4.trans uT))
    have hcq5 := uT _ _ (s4 _ _ hcq)
    have hL5 := uT _ _ hL
    have two5 := two.mono fun _ _ h => SgnAt.same uT h
    have S5 := s4.trans uT
    refine ⟨T, _, rfl, SqT.of upd_same, rfl, _, _, rfl, _, _, rfl, rfl, ?_⟩
    revert hd hcq5 hL5 two5 S5
    generalize upd H2 T (HO.tup [V.int (i : Int), V.ref d]) = H5
    intro hd hcq5 hL5 two5 S5
    refine ⟨⟨#[97, 98, 99, 100]⟩, rfl, fun W hW => ?_⟩
    refine lc_str (z := ⟨#[97, 98, 99, 100]⟩) (fun k H' => Same H5 H' ∧ H' W = some (.lst ((lets4.take k).map fun c => wayV a (mv i c)))) ⟨same_upd hW, upd_same⟩ (fun k c H' hc h => ?_) (fun H' h => ?_)
    · obtain ⟨s6, hW6⟩ := h
      obtain ⟨hk, rfl⟩ := l4_get hc
      have hmem : 97 + k ∈ lets4 := by
        match k, hk with
        | 0, _ => decide
        | 1, _ => decide
        | 2, _ => decide
        | 3, _ => decide
      have hg := rowK_get (mv i) lets4 (97 + k)
      rw [if_pos hmem] at hg
      have hdg := DGet.k (k := symK (97 + k)) (s6 _ _ hd)
      rw [hg] at hdg
      have fin : ∀ y, y = wayV a (mv i (97 + k)) → ∃ acc, H' W = some (HO.lst acc) ∧ acc.length < sizeLine ∧ Same H5 (upd H' W (HO.lst (acc ++ [y]))) ∧ upd H' W (HO.lst (acc ++ [y])) W = some (.lst ((lets4.take (k + 1)).map fun c => wayV a (mv i c))) := fun y hy => by
        refine ⟨_, hW6, ?_, fun b o hb => by rw [upd_ne (ne_of_none hb hW)]; exact s6 _ _ hb, ?_⟩
        · rw [List.length_map, List.length_take]
          exact Nat.lt_of_le_of_lt (m := 4) (Nat.min_le_right _ _) (by decide)
        · rw [upd_same, l4_take hk, List.map_append, hy]
          rfl
      refine ⟨rfl, tyes ⟨_, rfl, _, rfl, d, _, rfl, hdg, _, rfl, ?_⟩⟩
      cases hm : mv i (97 + k) with
      | none =>
        rw [hm] at fin
        exact iteF (fin _ rfl)
      | some t =>
        rw [hm] at fin hdg
        have ht := (hP.bd _ _ _ hm).2.1
        have hta : (natsV a)[t]? = some (V.int ((a.getD t 0 : Nat) : Int)) := by
          unfold natsV
          rw [List.getElem?_map, getDN (by omega)]
          rfl
        exact iteT ⟨_, rfl, _, rfl, _, rfl, d, _, rfl, hdg, cq, natsV a, (t : Int), _, rfl, rfl, SqL.of (s6 _ _ hcq5), at_of (j := t) rfl hta, fin _ rfl⟩
    · obtain ⟨s6, hW6⟩ := h
      have hW6 : H' W = some (.lst (lets4.map fun c => wayV a (mv i c))) := hW6
      have hci : (natsV a)[i]? = some (V.int ((a.getD i 0 : Nat) : Int)) := by
        unfold natsV
        rw [List.getElem?_map, getDN (by omega)]
        rfl
      have htl := two5.len
      rw [List.length_map, List.length_range] at htl
      refine ⟨_, rfl, .inl ⟨rfl, _, SqL.of (s6 _ _ hL5)⟩, ?_⟩
      refine ⟨_, rfl, _, rfl, cq, natsV a, (i : Int), _, rfl, rfl, SqL.of (s6 _ _ hcq5), at_of (j := i) rfl hci, ?_⟩
      refine ⟨_, rfl, W, _, rfl, .inl ⟨SqL.of hW6, fun D hD => ⟨by show 2 ≤ sizeLine; decide, fun bq hbq => ?_⟩⟩⟩
      have s7 := same_upd (o := .tup (lets4.map fun c => wayV a (mv i c))) hD
      have s8 := same_upd (o := .tup [V.int ((a.getD i 0 : Nat) : Int), .ref D]) hbq
      have hL8 := s8 _ _ (s7 _ _ (s6 _ _ hL5))
      refine ⟨sg, ts, _, rfl, rfl, hL8, Nat.lt_of_le_of_lt (m := 300) (by omega) (by decide), ?_⟩
      refine ⟨ts ++ [.ref bq], _, _, _, rfl, fun b o hb => ?_, upd_same, ?_⟩
      · rw [upd_ne (ne_of_none hb hsg)]
        exact s8 _ _ (s7 _ _ (s6 _ _ (S5 _ _ hb)))
      · rw [List.range_succ, List.map_append]
        have tk := tk_upd (o := .lst (ts ++ [V.ref bq])) hL8 (by intro xs z; cases z)
        exact ((two5.mono fun _ _ h => h.tk fun b xs hb => tk _ _ (s8 _ _ (s7 _ _ (s6 _ _ hb)))).app (.cons ((sgn_at (s8 _ _ upd_same) upd_same).tk tk) .nil))
  · rintro σ' H2 ⟨ts, o4, o5, o6, rfl, s4, hL, two⟩
    have htl := two.len
    rw [List.length_map, List.length_range] at htl
    have al := R.len
    have eqs : (List.range rs.length).map (fun i => signN mv a i) = (List.range a.length).map fun i => signN mv a i := by rw [al]
    refine ⟨_, rfl, .inr ⟨sg, ts, _, rfl, hL, two, by rw [List.length_map, List.length_range]; omega, fun nq H3 s6 hnq hnl => ?_⟩⟩
    rw [eqs] at hnl
    have hnl : H3 nq = some (.lst (natsV (finer mv a))) := hnl
    have S3 := s2.trans (s4.trans s6)
    refine ⟨_, rfl, _, rfl, .list (psd (finer mv a)), .list (psd a), dp_nats hnl, dp_nats (s6 _ _ (s4 _ _ hcq)), list_shaped _, list_shaped _, _, rfl, ite2 (fun c => ?_) (fun c => ?_)⟩
    · have hf : finer mv a = a := of_decide_eq_true ((natl_eqv _ _).symm.trans c)
      exact ⟨_, rfl, q cq a _ S3 (s6 _ _ (s4 _ _ hcq)) R hf⟩
    · have hf : finer mv a ≠ a := fun h => c ((natl_eqv _ _).trans (decide_eq_true h))
      obtain ⟨R2, href⟩ := R.step hP
      have lt := sameP_lt R.rg R2.rg (finer_len mv a).symm href hf
      exact ⟨_, rfl, nq, finer mv a, _, _, _, _, _, rfl, S3, hnl, R2, by omega⟩
end
end My
namespace My
open PySem PySem.Spec PyProof.Rows L2
/-! ### machines -/
theorem m1 : ¬ (("accepting" : Str) = "rows") := by decide +kernel
def mcF (a r : V) : List (Str × V) := putF "rows" r (putF "accepting" a [])
theorem mcF_acc (a r : V) : (mcF a r).lookup ("accepting" : Str) = some a := by
  unfold mcF
  rw [lookup_putF, if_neg m1, lookup_putF, if_pos rfl]
theorem mcF_rows (a r : V) : (mcF a r).lookup ("rows" : Str) = some r := by
  unfold mcF
  rw [lookup_putF, if_pos rfl]
theorem mcF_none (a r : V) {m : Str} (h1 : ¬ m = "rows") (h2 : ¬ m = "accepting") : (mcF a r).lookup m = none := by
  unfold mcF
  rw [lookup_putF, if_neg h1, lookup_putF, if_neg h2]
  rfl
structure McTxt (K : PySem.W.Frag) (C : Addr) : Prop where
  cl : Cls K C
  a1 : NoAttr K C "accepting"
  a2 : NoAttr K C "rows"
structure MachAt (C : Addr) (H : Hp) (p : Addr) (N : Nat) (acc : Nat → Bool) (mv : Mv) : Prop where
  ex : ∃ (dx ac ra : Addr) (rs : List V), H p = some (.ins C dx (mcF (.ref ac) (.ref ra))) ∧ (H ac = some (.lst (((List.range N).map acc).map V.bl)) ∨ H ac = some (.tup (((List.range N).map acc).map V.bl))) ∧ H ra = some (.lst rs) ∧ rs.length = N ∧ RowsUp H rs mv
  bd : ∀ q c t, mv q c = some t → q < N ∧ t < N ∧ 97 ≤ c ∧ c ≤ 100
theorem MachAt.same {C : Addr} {H H' : Hp} {p : Addr} {N : Nat} {acc : Nat → Bool} {mv : Mv} (s : Same H H') (h : MachAt C H p N acc mv) : MachAt C H' p N acc mv := by
  obtain ⟨dx, ac, ra, rs, h1, h2, h3, h4, h5⟩ := h.ex
  exact ⟨⟨dx, ac, ra, rs, s _ _ h1, h2.imp (s _ _) (s _ _), s _ _ h3, h4, h5.same s⟩, h.bd⟩
def codeS : Option Nat → Int
  | some q => (q : Int)
  | none => -1
theorem codeS_none {o : Option Nat} : codeS o = -1 ↔ o = none := by
  cases o with
  | none => exact ⟨fun _ => rfl, fun _ => rfl⟩
  | some q =>
    refine ⟨fun h => ?_, fun h => by cases h⟩
    have h : (q : Int) = -1 := h
    omega
theorem run_bd {N : Nat} {mv : Mv} (bd : ∀ q c t, mv q c = some t → q < N ∧ t < N ∧ 97 ≤ c ∧ c ≤ 100) : ∀ (w : List Nat) {q t : Nat}, q < N → runM mv q w = some t → t < N
  | [], q, t, hq, h => by
    obtain rfl : q = t := Option.some.inj h
    exact hq
  | c :: w, q, t, hq, h => by
    rw [runM] at h
    obtain ⟨s, h1, h2⟩ := Option.bind_eq_some_iff.mp h
    exact run_bd bd w (bd _ _ _ h1).2.1 h2
theorem run_snoc (mv : Mv) (w : List Nat) (c : Nat) (o : Option Nat) : (o.bind fun q => runM mv q (w ++ [c])) = (o.bind fun q => runM mv q w).bind fun t => mv t c := by
  cases o with
  | none => rfl
  | some q =>
    show runM mv q (w ++ [c]) = (runM mv q w).bind fun t => mv t c
    rw [runM_app]
    congr 1
    funext t
    rw [runM]
    cases mv t c <;> rfl
def spMcInit (C : Addr) : Sp := fun vs H Q _ => ∃ (p dx : Addr) (a r : V), vs = [.ref p, a, r] ∧ H p = some (.ins C dx []) ∧ ∀ H' : Hp, H' p = some (.ins C dx (mcF a r)) → (∀ q u, H q = some u → q ≠ p → H' q = some u) → Q .non H'
def spMove (C : Addr) : Sp := fun vs H Q _ => ∃ (p : Addr) (o : Option Nat) (c N : Nat) (acc : Nat → Bool) (mv : Mv), vs = [.ref p, .int (codeS o), .str ⟨#[c]⟩] ∧ MachAt C H p N acc mv ∧ (∀ q, o = some q → q < N) ∧ Q (.int (codeS (o.bind fun q => mv q c))) H
def spRun (C : Addr) : Sp := fun vs H Q _ => ∃ (p : Addr) (o : Option Nat) (z : Str) (N : Nat) (acc : Nat → Bool) (mv : Mv), vs = [.ref p, .int (codeS o), .str z] ∧ MachAt C H p N acc mv ∧ (∀ q, o = some q → q < N) ∧ Q (.int (codeS (o.bind fun q => runM mv q z.cps.toList))) H
def spAccepts (C : Addr) : Sp := fun vs H Q _ => ∃ (p : Addr) (o : Option Nat) (N : Nat) (acc : Nat → Bool) (mv : Mv), vs = [.ref p, .int (codeS o)] ∧ MachAt C H p N acc mv ∧ (∀ q, o = some q → q < N) ∧ Q (.bl (o.elim false acc)) H
def spTakes (C : Addr) : Sp := fun vs H Q _ => ∃ (p : Addr) (o : Option Nat) (z : Str) (N : Nat) (acc : Nat → Bool) (mv : Mv), vs = [.ref p, .int (codeS o), .str z] ∧ MachAt C H p N acc mv ∧ (∀ q, o = some q → q < N) ∧ Q (.bl ((o.bind fun q => runM mv q z.cps.toList).elim false acc)) H
section
variable {P : Program} {w : World} {K : PySem.W.Frag} {mg : Str → Option Value} {base : Heap} {a_BOUNDS a_LONG_BOUNDS : Addr} {tL tM : Tok}
abbrev N_Machine___init__ : List Str := ["self", "accepting", "rows"]
theorem sc_Machine___init__ : FnScope ["self", "accepting", "rows"] ["self", "accepting", "rows"] (defScope s_Machine___init__) := ⟨rfl, rfl, rfl, by decide +kernel, rfl, by decide +kernel, by decide +kernel⟩
theorem ok_machineinit {C f : Addr} {fd : FuncData} (F : Fun K "__init__" "Machine.__init__" s_Machine___init__ f fd) (T : McTxt K C) : FnOk P w K mg base CX0 1 f fd ["self", "accepting", "rows"] (spMcInit C) := by
  refine F.ok sc_Machine___init__ (fun vs H Q Ex h => ?_) (fun cdv A outer s H vs Q Ex hr h => ?_)
  · obtain ⟨p, dx, a, r, rfl, _⟩ := h
    rfl
  obtain ⟨p, dx, a, r, rfl, hp, q⟩ := h
  refine ⟨_, (pss_cons (ps_fld (pv 0) (pv 1) rfl)
    (pss_one (ps_fld (pv 0) (pv 2) rfl))), ?_⟩
  have L0 : (putF "accepting" a ([] : List (Str × V))).length ≤ 1 := putF_len _ _ _
  refine ⟨_, rfl, _, rfl, p, C, dx, _, rfl, hp, T.cl, T.a1, (by show 0 < 1000; decide), ?_⟩
  refine ⟨_, rfl, _, rfl, p, C, dx, _, rfl, upd_same, T.cl, T.a2, (by omega), ?_⟩
  exact q _ upd_same fun x u hx hn => by rw [upd_ne hn, upd_ne hn]; exact hx
end
end My
namespace My
open PySem PySem.Spec PyProof.Rows L2
/-! ### the machine of an expression -/
theorem stF_empty2 (z b f l o : V) : (stF z b f l o).lookup ("empty" : Str) = some b := by
  unfold stF
  rw [lookup_putF, if_neg n7, lookup_putF, if_neg n6, lookup_putF, if_neg n5, lookup_putF, if_pos rfl]
def spMachOf (CM : Addr) : Sp := fun vs H Q _ => ∃ (v : V) (e : E), vs = [v] ∧ e.ok = true ∧ e.depth < 42 ∧ e.places ≤ 8 ∧ Rep H v e.toD ∧
  ∀ (p : Addr) (N : Nat) (acc : Nat → Bool) (mv : Mv) H', Same H H' → MachAt CM H' p N acc mv → IsAut (MW e) N acc mv → Q (.ref p) H'
section
variable {P : Program} {w : World} {K : PySem.W.Frag} {mg : Str → Option Value} {base : Heap} {a_BOUNDS a_LONG_BOUNDS : Addr} {tL tM : Tok}
abbrev N_machine_of : List Str := ["expression", "steps", "sets", "rows", "ends", "classes", "accepting", "merged", "at", "state", "each", "letter", "end"]
theorem sc_machine_of : FnScope ["expression", "steps", "sets", "rows", "ends", "classes", "accepting", "merged", "at", "state", "each", "letter", "end"] ["expression"] (defScope s_machine_of) := ⟨rfl, rfl, rfl, by decide +kernel, rfl, by decide +kernel, by decide +kernel⟩
set_option maxHeartbeats 1000000 in
theorem ok_machineof {C CM f : Addr} {fd : FuncData} (T : StTxt K C) (TM : McTxt K CM) (B : Bt K mg a_BOUNDS a_LONG_BOUNDS tL tM) (Dd : Df K mg "machine_of" s_machine_of ["expression"] f fd) (Gsteps_of : Cl P w K mg base 87 "steps_of" ["expression"] (spSteps C)) (Gsets_of : Cl P w K mg base 2 "sets_of" ["steps"] (spSets C)) (Ghas_last : Cl P w K mg base 1 "has_last" ["steps", "row"] (spHasL C)) (G_classes : Cl P w K mg base 2 "_classes" ["ends", "rows"] spClasses) (MMachine : Ck P w K mg base 1 "Machine" ["self", "accepting", "rows"] (spMcInit CM) CM) : FnOk P w K mg base CX0 88 f fd ["expression"] (spMachOf CM) := by
  refine Dd.F.ok sc_machine_of (fun vs H Q Ex h => ?_) (fun cdv A outer s H vs Q Ex hr h => ?_)
  · obtain ⟨v, e, rfl, _⟩ := h
    rfl
  obtain ⟨v, e, rfl, hok, hd, h8, hR, q⟩ := h
  refine ⟨_, (pss_cons (ps_set (i := 1) sc_machine_of.nd rfl (Or.inr rfl) (pe_cl Gsteps_of (hr.mono (by omega)) rfl (pa_cons (pv 0) pa_nil)))
    (pss_cons (ps_asg (pe_cl Gsets_of (hr.mono (by omega)) rfl (pa_cons (pv 1) pa_nil)) (pg_tup rfl (pgs_cons (pg_name (i := 2) sc_machine_of.nd rfl (Or.inl rfl)) (pgs_cons (pg_name (i := 3) sc_machine_of.nd rfl (Or.inl rfl)) pgs_nil))))
    (pss_cons (ps_set (i := 4) sc_machine_of.nd rfl (Or.inl rfl) (pe_op op_cat (pe_lst (pa_cons (pe_fld (pv 1) rfl) pa_nil)) (pe_lc (own := [("each", 10)]) (g := gName 10) (tt := tYes) rfl sc_machine_of.nd (pi_list (pe_slice sl_list (pv 2) (po_some pe_int) po_none)) (blkOk_by (N := N_machine_of) (sc := defScope s_machine_of) (by decide +kernel)) (fun _ _ _ _ _ => pg_name (i := 10) sc_machine_of.nd rfl (Or.inl rfl)) (fun _ _ _ _ _ => pts_nil) (fun _ _ _ _ _ => (pe_cl Ghas_last (hr.mono (by omega)) rfl (pa_cons (pv 1) (pa_cons (pv 10) pa_nil)))))))
    (pss_cons (ps_set (i := 5) sc_machine_of.nd rfl (Or.inr rfl) (pe_cl G_classes (hr.mono (by omega)) rfl (pa_cons (pv 4) (pa_cons (pv 3) pa_nil))))
    (pss_cons (ps_set (i := 6) sc_machine_of.nd rfl (Or.inl rfl) (pe_lst pa_nil))
    (pss_cons (ps_set (i := 7) sc_machine_of.nd rfl (Or.inl rfl) (pe_lst pa_nil))
    (pss_cons (ps_for PassesOwn.never rfl (pi_enum rfl B.b_enumerate (pa_cons (pv 5) pa_nil)) (pg_tup rfl (pgs_cons (pg_name (i := 8) sc_machine_of.nd rfl (Or.inl rfl)) (pgs_cons (pg_name (i := 9) sc_machine_of.nd rfl (Or.inl rfl)) pgs_nil))) (pss_one (ps_if (pt_cmpR op_eq (pv 9) (pe_callB call_len rfl B.b_len boot_len (pa_cons (pv 7) pa_nil)) (nomark _)) (pss_cons (ps_expr (pe_bm PySem.F.plainAttrs_list PySem.F.slot_list_append PySem.F.type_list_append mt_append (pv 6) (pa_cons (pe_ix (r := rIxL K) ix_list (pv 4) (pv 8) (fun _ _ => rfl)) pa_nil)))
    (pss_one (ps_expr (pe_bm PySem.F.plainAttrs_list PySem.F.slot_list_append PySem.F.type_list_append mt_append (pv 7) (pa_cons (pe_lock (pe_dc (own := [("letter", 11), ("end", 12)]) (g := gTup K 2 (gCons (gName 11) (gCons (gName 12) gNil))) (tt := tYes) rfl sc_machine_of.nd (pi_items (pe_ix (r := rIxL K) ix_list (pv 3) (pv 8) (fun _ _ => rfl))) (blkOk_by (N := N_machine_of) (sc := defScope s_machine_of) (by decide +kernel)) (fun _ _ _ _ _ => pg_tup rfl (pgs_cons (pg_name (i := 11) sc_machine_of.nd rfl (Or.inl rfl)) (pgs_cons (pg_name (i := 12) sc_machine_of.nd rfl (Or.inl rfl)) pgs_nil))) (fun _ _ _ _ _ => pts_nil) (fun _ _ _ _ _ => (pv 11)) (fun _ _ _ _ _ => (pe_ix (r := rIxL K) ix_list (pv 5) (pv 12) (fun _ _ => rfl))))) pa_nil))))) pss_nil)))
    (pss_one (ps_ret (pe_mk MMachine (hr.mono (by omega)) rfl (pa_cons (pv 6) (pa_cons (pv 7) pa_nil)))))))))))), ?_⟩
  refine ⟨_, rfl, v, e, rfl, hok, hd, by omega, hR, fun sp H1 s1 hS => ?_⟩
  refine ⟨_, rfl, sp, e, rfl, hS, h8, fun t sa ra S mv ts rs H2 s2 ht hsa hra two Bf hl hrows => ?_⟩
  refine ⟨t, _, rfl, SqT.of ht, rfl, _, _, rfl, _, _, rfl, rfl, ?_⟩
  have hS2 := hS.same s2
  obtain ⟨dx0, f0, l0, o0, z0, ts0, g1, g2, g3, g4, g5, g6, g7⟩ := hS2.ex
  have hl256 := Bf.len256 h8
  refine ⟨_, rfl, sp, C, dx0, _, _, rfl, g1, T.cl, T.a2, stF_empty2 .., ?_⟩
  refine ⟨by show 1 ≤ sizeLine; decide, fun L1 hL1 => ?_⟩
  have s3 := same_upd (o := .lst [V.bl (gl e 0).nul]) hL1
  refine ⟨_, rfl, _, rfl, sa, ts, rfl, SqL.of (s3 _ _ hsa), fun Z hZ => ⟨Z, rfl, ⟨_, SqL.of upd_same⟩, fun D hD => ?_⟩⟩
  have s4 := same_upd (o := .lst (cutV ts (some 1) none)) hZ
  have hcut : cutV ts (some 1) none = ts.drop 1 := cut_loV ts 1
  have hZ4 : upd (upd H2 L1 (.lst [V.bl (gl e 0).nul])) Z (.lst (cutV ts (some 1) none)) Z = some (.lst (ts.drop 1)) := by rw [upd_same, hcut]
  have S4 : Same H2 (upd (upd H2 L1 (.lst [V.bl (gl e 0).nul])) Z (.lst (cutV ts (some 1) none))) := s3.trans s4
  have hL14 := s4 _ _ (upd_same (H := H2) (a := L1) (o := .lst [V.bl (gl e 0).nul]))
  revert hD hZ4 S4 hL14
  generalize upd (upd H2 L1 (.lst [V.bl (gl e 0).nul])) Z (.lst (cutV ts (some 1) none)) = H4
  intro hD hZ4 S4 hL14
  refine lc_list (K := K) (a := Z) (xs := ts.drop 1) (fun k H3 => Same H4 H3 ∧ H3 D = some (.lst ((((S.drop 1).take k).map fun s => s.any fun i => decide (i ∈ (gl e 0).lst)).map V.bl))) ⟨same_upd hD, upd_same⟩ (fun k H3 _ h => SqL.of (h.1 _ _ hZ4)) (fun k x H3 hx h => ?_) (fun H3 h => ?_)
  · obtain ⟨s5, hD5⟩ := h
    rw [List.getElem?_drop] at hx
    obtain ⟨s0, hs0, a, rfl, ha⟩ := two.get hx
    have hsm := List.mem_of_getElem? hs0
    have hsl := riseN_len (Bf.rise s0 hsm) (Bf.bd s0 hsm)
    have hd0 : (S.drop 1)[k]? = some s0 := by rw [List.getElem?_drop]; exact hs0
    refine ⟨rfl, tyes ⟨_, rfl, _, rfl, sp, a, e, s0, rfl, hS2.same (S4.trans s5), s5 _ _ (S4 _ _ ha), by omega, fun H6 s6 => ?_⟩⟩
    refine ⟨_, s6 _ _ hD5, ?_, fun b o hb => by rw [upd_ne (ne_of_none hb hD)]; exact s6 _ _ (s5 _ _ hb), ?_⟩
    · rw [List.length_map, List.length_map, List.length_take, List.length_drop]
      exact Nat.lt_of_le_of_lt (m := 256) (by omega) (by decide)
    · rw [upd_same, take_snoc hd0, List.map_append, List.map_append]
      rfl
  · obtain ⟨s5, hD5⟩ := h
    have htl := two.len
    rw [List.length_drop, htl, show S.length - 1 = (S.drop 1).length by rw [List.length_drop], List.take_length] at hD5
    refine ⟨L1, D, _, _, rfl, rfl, s5 _ _ hL14, hD5, ?_, fun er her => ?_⟩
    · rw [List.length_map, List.length_map, List.length_drop]
      exact Nat.le_trans (m := 257) (by show 1 + (S.length - 1) ≤ 257; omega) (by decide)
    have hends : (upd H3 er (.lst ([V.bl (gl e 0).nul] ++ (((S.drop 1).map fun s => s.any fun i => decide (i ∈ (gl e 0).lst)).map V.bl)))) er = some (.lst (((List.range rs.length).map (endsOf e S)).map V.bl)) := by
      rw [upd_same, hl, ends_eq Bf, List.map_cons]
      rfl
    have s6 := same_upd (o := .lst ([V.bl (gl e 0).nul] ++ (((S.drop 1).map fun s => s.any fun i => decide (i ∈ (gl e 0).lst)).map V.bl))) her
    revert hends s6
    generalize upd H3 er (.lst ([V.bl (gl e 0).nul] ++ (((S.drop 1).map fun s => s.any fun i => decide (i ∈ (gl e 0).lst)).map V.bl))) = H6
    intro hends s6
    have S6 := S4.trans (s5.trans s6)
    have hP : IsPre (MW e) rs.length (endsOf e S) mv := by rw [hl]; exact Bf.pre hok
    refine ⟨_, rfl, _, rfl, er, ra, endsOf e S, rs, mv, MW e, rfl, hends, S6 _ _ hra, hrows.same S6, by omega, hP, fun cq a H7 s7 hcq R hfin => ?_⟩
    refine ⟨by show 0 ≤ sizeLine; decide, fun aq haq => ⟨by show 0 ≤ sizeLine; decide, fun mq hmq => ?_⟩⟩
    have s8 := same_upd (o := .lst []) haq
    have s9 := same_upd (o := .lst []) hmq
    have am : aq ≠ mq := ne_of_none upd_same hmq
    have hmq7 : H7 mq = none := s8.free hmq
    have haq8 := s9 _ _ (upd_same (H := H7) (a := aq) (o := .lst []))
    have hmq8 := upd_same (H := upd H7 aq (.lst [])) (a := mq) (o := .lst [])
    have S8 : Same H7 (upd (upd H7 aq (.lst [])) mq (.lst [])) := s8.trans s9
    revert haq8 hmq8 S8
    generalize upd (upd H7 aq (.lst [])) mq (.lst []) = H8
    intro haq8 hmq8 S8
    have hcq8 := S8 _ _ hcq
    have al : a.length = rs.length := R.len
    refine ⟨_, rfl, cq, natsV a, rfl, SqL.of hcq8, for_enumL (K := K) (a := cq) (xs := natsV a) (fun i σ' H' => ∃ (o8 o9 : Option V) (ms : List V), σ' = [some v, some (.ref sp), some (.ref sa), some (.ref ra), some (.ref er), some (.ref cq), some (.ref aq), some (.ref mq), o8, o9, none, none, none] ∧ Same H7 H' ∧ H' aq = some (.lst (((List.range (cntR (a.take i))).map fun t => endsOf e S (a.idxOf t)).map V.bl)) ∧ H' mq = some (.lst ms) ∧ ms.length = cntR (a.take i) ∧ RowsUp H' ms (fun t c => (mv (a.idxOf t) c).map fun i => a.getD i 0)) ?_ ?_ ?_ ?_⟩
    · exact ⟨none, none, [], rfl, S8, haq8, hmq8, rfl, fun j v hj => by cases hj⟩
    · rintro i σ' H' _ ⟨o8, o9, ms, rfl, s10, _⟩
      exact SqL.of (s10 _ _ hcq)
    · rintro i x T1 σ' H' hx ⟨o8, o9, ms, rfl, s10, hA, hM, hml, hMs⟩ hT1
      obtain ⟨m, hm, rfl⟩ := natsV_getB hx
      have hia := (List.getElem?_eq_some_iff.mp hm).1
      have uT := same_upd (o := .tup [V.int (i : Int), .int (m : Int)]) hT1
      refine ⟨T1, _, rfl, SqT.of upd_same, rfl, _, _, rfl, _, _, rfl, rfl, ?_⟩
      have hA' := uT _ _ hA
      have hM' := uT _ _ hM
      have hMs' := hMs.same uT
      have S10 := s10.trans uT
      revert hA' hM' hMs' S10
      generalize upd H' T1 (.tup [V.int (i : Int), .int (m : Int)]) = H9
      intro hA hM hMs S10
      refine ⟨_, rfl, _, rfl, _, ms.length, rfl, .inl ⟨_, SqL.of hM, rfl⟩, rfl, _, rfl, ite2 (fun c => ?_) (fun c => ?_)⟩
      · have hmc : m = cntR (a.take i) := by
          have := V.int.inj (of_decide_eq_true c)
          omega
        have hnot : m ∉ a.take i := fun h => by
          have := (cntR_mem (R.rg.take i) m).mpr h
          omega
        have hidx : a.idxOf m = i := idx_at hm hnot
        have hcnt : cntR (a.take (i + 1)) = cntR (a.take i) + 1 := by rw [take_snoc hm, cntR_snoc, if_pos hmc]
        have hE9 := S10 _ _ (s7 _ _ hends)
        have hei : (((List.range rs.length).map (endsOf e S)).map V.bl)[i]? = some (V.bl (endsOf e S i)) := by
          rw [List.getElem?_map, List.getElem?_map, List.getElem?_range (by omega)]
          rfl
        have hcl : cntR (a.take i) ≤ 256 := by
          have h1 : cntR (a.take i) ≤ (a.take i).length := cntR_le _
          rw [List.length_take] at h1
          omega
        refine ⟨_, rfl, .inl ⟨rfl, _, SqL.of hA⟩, _, rfl, _, rfl, er, _, (i : Int), _, rfl, rfl, SqL.of hE9, at_of (j := i) rfl hei, aq, _, _, rfl, rfl, hA, ?_, ?_⟩
        · rw [List.length_map, List.length_map, List.length_range]
          exact Nat.lt_of_le_of_lt hcl (by decide)
        have hri : rs[i]? = some (rs[i]'(by omega)) := List.getElem?_eq_getElem _
        obtain ⟨d, hd1, hd2⟩ := hrows i _ hri
        rw [hd1] at hri
        have hd7 := s7 _ _ (S6 _ _ hd2)
        have hd9 := S10 _ _ hd7
        have hra9 := S10 _ _ (s7 _ _ (S6 _ _ hra))
        have nda : d ≠ aq := ne_of hd9 hA (by intro z; cases z)
        have ndm : d ≠ mq := ne_of hd9 hM (by intro z; cases z)
        have hr0 : ra ≠ aq := ne_of_none (s7 _ _ (S6 _ _ hra)) haq
        have hc0 : cq ≠ aq := ne_of_none hcq haq
        have hrd : ra ≠ d := ne_of hra9 hd9 (by intro z; cases z)
        have hcd : cq ≠ d := ne_of (S10 _ _ hcq) hd9 (by intro z; cases z)
        refine ⟨_, rfl, .inl ⟨rfl, _, SqL.of (by rw [upd_ne am.symm]; exact hM)⟩, d, .dK (rowK (mv i) lets4), by rw [upd_ne nda]; exact hd9, True.intro, fun od => ?_⟩
        have kA : ∀ b o, H9 b = some o → b ≠ aq → (upd H9 aq (.lst ((((List.range (cntR (a.take i))).map fun t => endsOf e S (a.idxOf t)).map V.bl) ++ [V.bl (endsOf e S i)]))) b = some o := fun b o hb hn => by rw [upd_ne hn]; exact hb
        have hAA : (upd H9 aq (.lst ((((List.range (cntR (a.take i))).map fun t => endsOf e S (a.idxOf t)).map V.bl) ++ [V.bl (endsOf e S i)]))) aq = some (.lst (((List.range (cntR (a.take (i + 1)))).map fun t => endsOf e S (a.idxOf t)).map V.bl)) := by
          rw [upd_same, hcnt, List.range_succ, List.map_append, List.map_append, ← hmc]
          show some (HO.lst (_ ++ [V.bl (endsOf e S i)])) = some (HO.lst (_ ++ [V.bl (endsOf e S (a.idxOf m))]))
          rw [hidx]
        revert kA hAA
        generalize upd H9 aq (.lst ((((List.range (cntR (a.take i))).map fun t => endsOf e S (a.idxOf t)).map V.bl) ++ [V.bl (endsOf e S i)])) = HA
        intro kA hAA
        have hMA := kA _ _ hM am.symm
        have hdA := kA _ _ hd9 nda
        refine ⟨_, rfl, _, rfl, _, _, _, _, rfl, rfl, SqL.of (by rw [upd_ne hrd]; exact kA _ _ hra9 hr0), at_of (j := i) rfl hri, d, od, _, rfl, upd_same, fun D hD => ?_⟩
        have hkl : (rowK (mv i) lets4).length ≤ 4 := rowK_len _ _
        have hD0 : HA D = none := by
          rw [upd_ne fun e => by rw [e, upd_same] at hD; cases hD] at hD
          exact hD
        have hdD : d ≠ D := ne_of_none hdA hD0
        have hmD : mq ≠ D := ne_of_none hMA hD0
        have haD : aq ≠ D := ne_of_none hAA hD0
        have sL : ∀ b o, HA b = some o → b ≠ d → (upd HA d (.frz od (.dK (rowK (mv i) lets4)))) b = some o := fun b o hb hn => by rw [upd_ne hn]; exact hb
        have hcL := sL _ _ (kA _ _ (S10 _ _ hcq) hc0) hcd
        refine dc_w walk_items (fun k H2 => Same (upd HA d (.frz od (.dK (rowK (mv i) lets4)))) H2 ∧ H2 D = some (.dK (((rowK (mv i) lets4).take k).map fun kv => (kv.1, reV a kv.2)))) ⟨same_upd hD, upd_same⟩ (fun k H2 _ h => h.1 _ _ upd_same) (fun k x H2 H3 hk h hY => ?_) (fun H2 h => ?_)
        · obtain ⟨s11, hD11⟩ := h
          obtain ⟨T2, y, z, rfl, hT2, rfl, hy, hz⟩ := hY
          have hkv : (rowK (mv i) lets4)[k]? = some ((rowK (mv i) lets4)[k]) := List.getElem?_eq_getElem hk
          obtain ⟨c, t0, hct, hmt⟩ := rowK_mem (List.getElem_mem hk)
          rw [hct] at hkv
          dsimp only at hy hz
          rw [hkv] at hy hz
          cases hy
          cases hz
          have u2 := same_upd (o := .tup [kV (symK c), V.int ((t0 : Nat) : Int)]) hT2
          have ht0 := (hP.bd _ _ _ hmt).2.1
          have hta : (natsV a)[t0]? = some (V.int ((a.getD t0 0 : Nat) : Int)) := by
            unfold natsV
            rw [List.getElem?_map, getDN (by omega)]
            rfl
          refine ⟨T2, _, rfl, SqT.of upd_same, rfl, _, _, rfl, _, _, rfl, rfl, rfl, tyes ⟨_, rfl, _, rfl, _, rfl, cq, natsV a, (t0 : Int), _, rfl, rfl, SqL.of (u2 _ _ (s11 _ _ hcL)), at_of (j := t0) rfl hta, _, symK c, rfl, u2 _ _ hD11, ?_, ?_, ?_⟩⟩
          · rw [List.length_map, List.length_take]
            exact Nat.lt_of_le_of_lt (m := 4) (by omega) (by decide)
          · exact fun b o hb => by rw [upd_ne (ne_of_none hb hD)]; exact u2 _ _ (s11 _ _ hb)
          · rw [upd_same, take_snoc hkv, List.map_append]
            rw [putK_at]
            · rfl
            · rw [List.map_map]
              have nd := rowK_nd (mv i) lets4_nd
              have e0 : ((rowK (mv i) lets4).take (k + 1)).map (·.1) = ((rowK (mv i) lets4).take k).map (·.1) ++ [symK c] := by rw [take_snoc hkv, List.map_append]; rfl
              have nd2 : (((rowK (mv i) lets4).take (k + 1)).map (·.1)).Nodup := nd.sublist ((List.take_sublist _ _).map _)
              rw [e0, List.nodup_append] at nd2
              exact fun h => nd2.2.2 _ h _ (List.mem_singleton.mpr rfl) rfl
        · obtain ⟨s11, hD11⟩ := h
          rw [List.take_length, rowK_map] at hD11
          have hM11 : (upd H2 d (.dK (rowK (mv i) lets4))) mq = some (.lst ms) := by rw [upd_ne ndm.symm]; exact s11 _ _ (sL _ _ hMA ndm.symm)
          refine ⟨s11 _ _ upd_same, mq, ms, _, rfl, rfl, hM11, Nat.lt_of_le_of_lt (m := 256) (by omega) (by decide), ?_⟩
          have keep : ∀ b o, HA b = some o → b ≠ mq → (upd (upd H2 d (.dK (rowK (mv i) lets4))) mq (.lst (ms ++ [V.ref D]))) b = some o := fun b o hb hn => by
            rw [upd_ne hn]
            by_cases e0 : b = d
            · subst e0
              rw [upd_same, ← hdA, hb]
            · rw [upd_ne e0]
              exact s11 _ _ (sL _ _ hb e0)
          refine ⟨_, _, ms ++ [.ref D], rfl, fun b o hb => ?_, keep _ _ hAA am, upd_same, by rw [List.length_append, hml, hcnt]; rfl, fun j v hj => ?_⟩
          · have hb9 := S10 _ _ hb
            exact keep _ _ (kA _ _ hb9 (ne_of_none hb haq)) (ne_of_none hb hmq7)
          · rcases Nat.lt_or_ge j ms.length with hjl | hjl
            · rw [List.getElem?_append_left hjl] at hj
              obtain ⟨x, rfl, hx⟩ := hMs j v hj
              exact ⟨x, rfl, keep _ _ (kA _ _ hx (ne_of hx hA (by intro z; cases z))) (ne_of hx hM (by intro z; cases z))⟩
            · rw [List.getElem?_append_right hjl] at hj
              have hj0 : j = ms.length := by
                have := (List.getElem?_eq_some_iff.mp hj).1
                rw [List.length_singleton] at this
                omega
              subst hj0
              rw [Nat.sub_self] at hj
              cases hj
              refine ⟨D, rfl, ?_⟩
              rw [upd_ne hmD.symm, upd_ne hdD.symm, hD11, hml, ← hmc]
              show _ = some (HO.dK (rowK (fun c => Option.map (fun i => a.getD i 0) (mv (a.idxOf m) c)) lets4))
              rw [hidx]
      · have hmc : m ≠ cntR (a.take i) := fun h => c (decide_eq_true (by rw [hml, h]))
        have hcnt : cntR (a.take (i + 1)) = cntR (a.take i) := by rw [take_snoc hm, cntR_snoc, if_neg hmc]
        exact ⟨_, _, ms, rfl, S10, by rw [hcnt]; exact hA, hM, by rw [hcnt]; exact hml, hMs⟩
    · rintro σ' H' ⟨o8, o9, ms, rfl, s10, hA, hM, hml, hMs⟩
      rw [natsV_len, List.take_length] at hA hml
      refine ⟨_, rfl, _, rfl, fun x dx hx hdx hne => ?_⟩
      have kk : ∀ b o, H' b = some o → (upd (upd H' dx (.own x)) x (.ins CM dx [])) b = some o := fun b o hb => by
        rw [upd_ne (ne_of_none hb hx), upd_ne (ne_of_none hb hdx)]
        exact hb
      refine ⟨x, dx, .ref aq, .ref mq, rfl, upd_same, fun H9 h9 k9 => ⟨rfl, ?_⟩⟩
      have S9 : Same H' H9 := fun b o hb => k9 _ _ (kk _ _ hb) (ne_of_none hb hx)
      rw [hl] at R
      have A := aut_of hok Bf R hfin
      refine q x (cntR a) (fun t => endsOf e S (a.idxOf t)) (mvC mv (fun i => a.getD i 0) (fun t => a.idxOf t) (cntR a)) H9 (s1.trans (s2.trans (S6.trans (s7.trans (s10.trans S9))))) ⟨⟨dx, aq, mq, ms, h9, .inl (S9 _ _ hA), S9 _ _ hM, hml, fun j v hj => ?_⟩, A.bd⟩ A
      obtain ⟨d, h1, h2⟩ := (hMs.same S9) j v hj
      have hjl := (List.getElem?_eq_some_iff.mp hj).1
      refine ⟨d, h1, ?_⟩
      rw [h2]
      congr 2
      refine rowK_congr fun c _ => ?_
      show _ = if j < cntR a then (mv (a.idxOf j) c).map (fun i => a.getD i 0) else none
      rw [if_pos (by omega)]
end
end My
namespace My
open PySem PySem.Spec PyProof.Rows L2
/-! ### automata as values -/
def MvAt (H : Hp) (v : V) (m : Nat × Nat × Nat) : Prop := ∃ a, v = .ref a ∧ H a = some (.tup [.int ((m.1 : Nat) : Int), .str ⟨#[m.2.1]⟩, .int ((m.2.2 : Nat) : Int)])
theorem MvAt.tk {H H' : Hp} {v : V} {m : Nat × Nat × Nat} (s : ∀ b xs, H b = some (.tup xs) → H' b = some (.tup xs)) (h : MvAt H v m) : MvAt H' v m := by
  obtain ⟨a, h1, h2⟩ := h
  exact ⟨a, h1, s _ _ h2⟩
structure AutAt (H : Hp) (p : Addr) (N : Nat) (acc : Nat → Bool) (mv : Mv) : Prop where
  ex : ∃ (ac mt : Addr) (ms : List V), H p = some (.tup [.ref ac, .ref mt]) ∧ H ac = some (.tup (((List.range N).map acc).map V.bl)) ∧ H mt = some (.tup ms) ∧ Two (MvAt H) ms (mvsL N mv)
theorem AutAt.tk {H H' : Hp} {p : Addr} {N : Nat} {acc : Nat → Bool} {mv : Mv} (s : ∀ b xs, H b = some (.tup xs) → H' b = some (.tup xs)) (h : AutAt H p N acc mv) : AutAt H' p N acc mv := by
  obtain ⟨ac, mt, ms, h1, h2, h3, h4⟩ := h.ex
  exact ⟨ac, mt, ms, s _ _ h1, s _ _ h2, s _ _ h3, h4.mono fun _ _ h => h.tk s⟩
theorem rowM_len (mv : Mv) (q : Nat) (cs : List Nat) : (rowM mv q cs).length ≤ cs.length := List.length_filterMap_le _ _
theorem rowM_snoc (mv : Mv) (q : Nat) (cs : List Nat) (c : Nat) : rowM mv q (cs ++ [c]) = rowM mv q cs ++ (match mv q c with | some t => [(q, c, t)] | none => []) := by
  unfold rowM
  rw [List.filterMap_append]
  congr 1
  cases h : mv q c with
  | none => simp [List.filterMap_cons, h]
  | some t => simp [List.filterMap_cons, h]
theorem mvsL_len (mv : Mv) : ∀ N : Nat, (mvsL N mv).length ≤ 4 * N
  | 0 => Nat.le_refl _
  | N + 1 => by
    have ih := mvsL_len mv N
    have h4 := rowM_len mv N lets4
    unfold mvsL at ih ⊢
    rw [List.range_succ, List.flatMap_append, List.length_append, List.flatMap_singleton]
    show _ + (rowM mv N lets4).length ≤ _
    have : lets4.length = 4 := rfl
    omega
theorem mvsL_snoc (mv : Mv) (N : Nat) : mvsL (N + 1) mv = mvsL N mv ++ rowM mv N lets4 := by
  unfold mvsL
  rw [List.range_succ, List.flatMap_append, List.flatMap_singleton]
def spFrom (CM : Addr) : Sp := fun vs H Q _ => ∃ (p : Addr) (N : Nat) (acc : Nat → Bool) (mv : Mv), vs = [.ref p] ∧ MachAt CM H p N acc mv ∧ N ≤ 300 ∧ ∀ q H', Same H H' → AutAt H' q N acc mv → Q (.ref q) H'
def spSmall (CM : Addr) : Sp := fun vs H Q _ => ∃ (v : V) (e : E), vs = [v] ∧ e.ok = true ∧ e.depth < 42 ∧ e.places ≤ 8 ∧ Rep H v e.toD ∧ (∀ (N : Nat) (acc : Nat → Bool) (mv : Mv), IsAut (MW e) N acc mv → N ≤ 40) ∧
  ∀ (p : Addr) (N : Nat) (acc : Nat → Bool) (mv : Mv) H', Same H H' → MachAt CM H' p N acc mv → IsAut (MW e) N acc mv → Q (.ref p) H'
def spAutOf : Sp := fun vs H Q _ => ∃ (v : V) (e : E), vs = [v] ∧ Esh e ∧ Rep H v e.toD ∧ (∀ (N : Nat) (acc : Nat → Bool) (mv : Mv), IsAut (MW e) N acc mv → N ≤ 40) ∧
  ∀ (p : Addr) (N : Nat) (acc : Nat → Bool) (mv : Mv) H', Same H H' → AutAt H' p N acc mv → IsAut (MW e) N acc mv → N ≤ 40 → Q (.ref p) H'
section
variable {P : Program} {w : World} {K : PySem.W.Frag} {mg : Str → Option Value} {base : Heap} {a_BOUNDS a_LONG_BOUNDS : Addr} {tL tM : Tok}
end
end My
namespace My
open PySem PySem.Spec PyProof.Rows L2
theorem rep_catA {K : PySem.W.Frag} {H : Hp} {a b : Addr} {xs ys : List V} {Q : VK} (ha : H a = some (.tup xs)) (hb : H b = some (.tup ys)) (hz : xs.length + ys.length ≤ 1000) (q : ∀ p H', Same H H' → H' p = some (.tup (xs ++ ys)) → Q (.ref p) H') : rCatA K (.ref a) (.ref b) H Q := by
  refine ⟨a, b, xs, ys, rfl, rfl, SqT.of ha, SqT.of hb, Nat.le_trans hz (by decide), fun e => ?_, fun _ e => ?_, fun _ _ p hp => ?_⟩
  · subst e
    exact q b H (Same.refl _) hb
  · subst e
    exact q a H (Same.refl _) (by rw [List.append_nil]; exact ha)
  · exact q p _ (same_upd hp) upd_same
theorem row_word (b : Bool) {e : E} (h : isTup e.toD = true) : ∃ w y, e.toD = .tup [.str w, y] ∧ ((decide (V.str w = V.str (rowW b)) = true ∧ y = .tup ((kidsOf b e).map E.toD)) ∨ (decide (V.str w = V.str (rowW b)) = false ∧ kidsOf b e = [e])) := by
  have ne : ∀ {a c : Str}, ¬ a = c → decide (V.str a = V.str c) = false := fun h => decide_eq_false fun e => h (V.str.inj e)
  cases e with
  | eps => rw [E.toD] at h; cases h
  | sym c => rw [E.toD] at h; cases h
  | maybe k => exact ⟨sMaybe, k.toD, by rw [E.toD], .inr ⟨ne (by cases b; exact fun c => om c.symm; exact fun c => jm c.symm), by cases b <;> rfl⟩⟩
  | many k => exact ⟨sMany, k.toD, by rw [E.toD], .inr ⟨ne (by cases b; exact fun c => on c.symm; exact fun c => jn c.symm), by cases b <;> rfl⟩⟩
  | join es =>
    cases b
    · exact ⟨sJoin, .tup (es.map E.toD), by rw [E.toD, toDs_eq], .inr ⟨ne jo, rfl⟩⟩
    · exact ⟨sJoin, .tup (es.map E.toD), by rw [E.toD, toDs_eq], .inl ⟨decide_eq_true rfl, rfl⟩⟩
  | alt es =>
    cases b
    · exact ⟨sOr, .tup (es.map E.toD), by rw [E.toD, toDs_eq], .inl ⟨decide_eq_true rfl, rfl⟩⟩
    · exact ⟨sOr, .tup (es.map E.toD), by rw [E.toD, toDs_eq], .inr ⟨ne fun c => jo c.symm, rfl⟩⟩
theorem kids_flat (b : Bool) {e : E} (h : isTup e.toD = false) : kidsOf b e = [e] := by
  cases e with
  | eps => cases b <;> rfl
  | sym c => cases b <;> rfl
  | maybe k => rw [E.toD] at h; cases h
  | many k => rw [E.toD] at h; cases h
  | join k => rw [E.toD] at h; cases h
  | alt k => rw [E.toD] at h; cases h
theorem kids_len {b : Bool} {e : E} (h : e.ok = true) : (kidsOf b e).length ≤ e.leaves := by
  have k := kids_okB (b := b) h
  have k2 := (cnts (es := kidsOf b e) (by rw [oks_eq]; exact k.ok)).l
  rw [leavess_eq, kids_leaves] at k2
  exact k2
def spRow2 : Sp := fun vs H Q _ => ∃ (b : Bool) (u v : V) (x y : E), vs = [.str (rowW b), u, v] ∧ x.ok = true ∧ y.ok = true ∧ x.leaves ≤ 50 ∧ y.leaves ≤ 50 ∧ Rep H u x.toD ∧ Rep H v y.toD ∧ ∀ r H', Same H H' → Rep H' r (mkRow b x y).toD → Q r H'
section
variable {P : Program} {w : World} {K : PySem.W.Frag} {mg : Str → Option Value} {base : Heap} {a_BOUNDS a_LONG_BOUNDS : Addr} {tL tM : Tok}
end
end My
namespace My
open PySem PySem.Spec PyProof.Rows L2
/-! ### drawn expressions -/
def outS : Option Bool → Str
  | none => sNo
  | some false => sJoin
  | some true => sOr
def rowOf : E → Option Bool
  | .join _ => some false
  | .alt _ => some true
  | _ => none
/-- the parts that a drawn expression of such a depth has at most -/
def pb : Nat → Nat
  | 0 => 1
  | n + 1 => 1 + 3 * pb n
theorem pb_mono {m n : Nat} (h : m ≤ n) : pb m ≤ pb n := by
  induction h with
  | refl => exact Nat.le_refl _
  | step _ ih =>
    refine Nat.le_trans ih ?_
    rw [pb]
    omega
structure Drawn (e : E) (room deep : Nat) (outer : Option Bool) : Prop where
  ok : e.ok = true
  pl : e.places ≤ room
  dp : e.depth ≤ deep
  pt : e.parts ≤ pb deep
  hd : rowOf e = none ∨ rowOf e ≠ outer
def Lets (z : Str) : Prop := 0 < z.length ∧ z.length ≤ 100 ∧ ∀ c ∈ z.cps.toList, 97 ≤ c ∧ c ≤ 100
def spGrown (n : Nat) : Sp := fun vs H Q _ => ∃ (a : Addr) (z : Str) (room deep : Nat) (outer : Option Bool), vs = [.ref a, .str z, .int room, .int deep, .str (outS outer)] ∧ Strm H a ∧ Lets z ∧ room ≤ 100 ∧ deep < n ∧
  ∀ v H' e, Go a H H' → Rep H' v e.toD → Drawn e room deep outer → Q v H'
section
variable {P : Program} {w : World} {K : PySem.W.Frag} {mg : Str → Option Value} {base : Heap} {a_BOUNDS a_LONG_BOUNDS : Addr} {tL tM : Tok}
theorem none_left {f : Addr} {fd : FuncData} {k : Nat} {ps : List Str} {sp : Sp} (no : ∀ vs H Q E, ¬ sp vs H Q E) : FnOk P w K mg base CX0 k f fd ps sp :=
  ⟨fun vs H Q E h => absurd h (no vs H Q E), fun A outer s H args us vs Q E _ _ _ _ h => absurd h (no vs H Q E)⟩
theorem mem_signs {v : V} {z : Str} (h : v ∈ signsV z) : ∃ c ∈ z.cps.toList, v = .str ⟨#[c]⟩ := by
  unfold signsV at h
  rw [List.mem_map] at h
  obtain ⟨c, hc, rfl⟩ := h
  exact ⟨c, hc, rfl⟩
theorem rep_sym {H : Hp} (c : Nat) : Rep H (.str ⟨#[c]⟩) (E.sym c).toD := by
  rw [E.toD]
  exact .str (by show 1 ≤ 1000; decide)
theorem rep_eps {H : Hp} : Rep H (.str sNo) E.eps.toD := by
  rw [E.toD]
  exact .str (by rw [lE]; decide)
theorem drawn_sym {c room deep : Nat} {outer : Option Bool} (h : 97 ≤ c ∧ c ≤ 100) (hr : 0 < room) : Drawn (.sym c) room deep outer where
  ok := by
    rw [E.ok, decide_eq_true h.1, decide_eq_true h.2]
    rfl
  pl := by rw [E.places]; omega
  dp := by rw [E.depth]; omega
  pt := by rw [E.parts]; exact Nat.le_trans (by decide) (pb_mono (Nat.zero_le deep))
  hd := .inl rfl
theorem drawn_eps {room deep : Nat} {outer : Option Bool} : Drawn .eps room deep outer where
  ok := rfl
  pl := by rw [E.places]; omega
  dp := by rw [E.depth]; omega
  pt := by rw [E.parts]; exact Nat.le_trans (by decide) (pb_mono (Nat.zero_le deep))
  hd := .inl rfl
theorem signs_len (z : Str) : (signsV z).length = z.length := by
  unfold signsV
  rw [List.length_map, Array.length_toList]
  rfl
theorem outS_inj {x y : Option Bool} (h : outS x = outS y) : x = y := by
  match x, y, h with
  | none, none, _ => rfl
  | none, some false, h => exact absurd h.symm je
  | none, some true, h => exact absurd h.symm oe
  | some false, none, h => exact absurd h je
  | some true, none, h => exact absurd h oe
  | some false, some false, _ => rfl
  | some true, some true, _ => rfl
  | some false, some true, h => exact absurd h jo
  | some true, some false, h => exact absurd h.symm jo
theorem any_no {α : Type} {p : α → Bool} {xs : List α} (h : ∀ x ∈ xs, p x = false) : xs.any p = false := by
  rw [List.any_eq_false]
  intro x hx c
  rw [h x hx] at c
  cases c
theorem sum_le_mul {es : List E} {f : E → Nat} {n : Nat} (h : ∀ e ∈ es, f e ≤ n) : (es.map f).sum ≤ es.length * n := by
  induction es with
  | nil => exact Nat.zero_le _
  | cons e es ih =>
    have h1 := h e (List.mem_cons_self ..)
    have h2 := ih fun x hx => h x (List.mem_cons_of_mem _ hx)
    rw [List.map_cons, List.sum_cons, List.length_cons, Nat.succ_mul]
    omega
end
end My
namespace My
open PySem PySem.Spec PyProof.Rows L2
def rLenOf (K : PySem.W.Frag) : List V → Hp → VK → Prop := fun xs H Q => ∃ x n, xs = [x] ∧ LenV K x H n ∧ Q (.int n) H
theorem call_lenK {X : Cx} : CallR X (.builtin "len") (rLenOf X.K) := call_len
def wrapE (b : Bool) (e : E) : E := if b then .many e else .maybe e
theorem wrap_ok (b : Bool) (e : E) : (wrapE b e).ok = e.ok := by
  cases b
  · show E.ok (.maybe e) = _
    rw [E.ok]
  · show E.ok (.many e) = _
    rw [E.ok]
theorem wrap_places (b : Bool) (e : E) : (wrapE b e).places = e.places := by
  cases b
  · show E.places (.maybe e) = _
    rw [E.places]
  · show E.places (.many e) = _
    rw [E.places]
theorem wrap_leaves (b : Bool) (e : E) : (wrapE b e).leaves = e.leaves := by
  cases b
  · show E.leaves (.maybe e) = _
    rw [E.leaves]
  · show E.leaves (.many e) = _
    rw [E.leaves]
theorem wrap_wr (b : Bool) (e : E) : (wrapE b e).wr = e.wr + 1 := by
  cases b
  · show E.wr (.maybe e) = _
    rw [E.wr]
  · show E.wr (.many e) = _
    rw [E.wr]
def wrapW (b : Bool) : Str := if b then sMany else sMaybe
theorem wrap_rep {H : Hp} {p : Addr} {v : V} {b : Bool} {e : E} (h : H p = some (.tup [.str (wrapW b), v])) (r : Rep H v e.toD) : Rep H (.ref p) (wrapE b e).toD := by
  cases b
  · show Rep H _ (E.toD (.maybe e))
    rw [E.toD]
    exact Rep.tup2 h (by show 2 ≤ 100000; decide) (.cons (.str (by show sMaybe.length ≤ 1000; rw [lM]; decide)) (.cons r .nil))
  · show Rep H _ (E.toD (.many e))
    rw [E.toD]
    exact Rep.tup2 h (by show 2 ≤ 100000; decide) (.cons (.str (by show sMany.length ≤ 1000; rw [lN]; decide)) (.cons r .nil))
theorem wrap_at (c : Bool) : atI [V.str sMaybe, V.str sMany] (if c = true then 1 else 0) = some (.str (wrapW c)) := by
  cases c
  · exact at_zero
  · exact at_one
theorem erase_mid {α : Type} (A : List α) (x : α) (B : List α) : (A ++ x :: B).eraseIdx A.length = A ++ B := by
  induction A with
  | nil => rfl
  | cons a A ih => rw [List.cons_append, List.length_cons, List.eraseIdx_cons_succ, ih]; rfl
theorem get_mid {α : Type} (A : List α) (x : α) (B : List α) : (A ++ x :: B)[A.length]? = some x := by simp
theorem get_mid1 {α : Type} (A : List α) (x y : α) (B : List α) : (A ++ x :: y :: B)[A.length + 1]? = some y := by simp
theorem split_two {α : Type} : ∀ (l : List α) (k : Nat), k + 1 < l.length → ∃ A x y B, l = A ++ x :: y :: B ∧ A.length = k
  | x :: y :: B, 0, _ => ⟨[], x, y, B, rfl, rfl⟩
  | [], k, h => by simp at h
  | [x], 0, h => by simp at h
  | x :: l, k + 1, h => by
    obtain ⟨A, a, b, B, e, el⟩ := split_two l k (by rw [List.length_cons] at h; omega)
    exact ⟨x :: A, a, b, B, by rw [e]; rfl, by rw [List.length_cons, el]⟩
theorem Two.uncons {α β : Type} {R : α → β → Prop} {as : List α} {b : β} {bs : List β} (h : Two R as (b :: bs)) : ∃ a as', as = a :: as' ∧ R a b ∧ Two R as' bs := by
  cases h with
  | cons h t => exact ⟨_, _, rfl, h, t⟩
theorem Two.split {α β : Type} {R : α → β → Prop} : ∀ {as : List α} {bs cs : List β}, Two R as (bs ++ cs) → ∃ as1 as2, as = as1 ++ as2 ∧ as1.length = bs.length ∧ Two R as1 bs ∧ Two R as2 cs
  | as, [], cs, h => ⟨[], as, rfl, rfl, .nil, h⟩
  | as, b :: bs, cs, h => by
    obtain ⟨a, as', rfl, ha, ht⟩ := Two.uncons (bs := bs ++ cs) h
    obtain ⟨a1, a2, e, el, h1, h2⟩ := ht.split
    exact ⟨a :: a1, a2, by rw [e]; rfl, by rw [List.length_cons, List.length_cons, el], .cons ha h1, h2⟩
theorem seqIx {k n : Nat} (h : k < n) : seqIndex? (k : Int) n = some k := by
  unfold seqIndex?
  have h1 : ¬ (k : Int) < 0 := by omega
  rw [if_neg h1]
  have h2 : (decide (0 ≤ (k : Int)) && decide ((k : Int) < (n : Int))) = true := by
    rw [Bool.and_eq_true, decide_eq_true_eq, decide_eq_true_eq]
    omega
  rw [if_pos h2]
  rfl
def sumB (g : E → Nat) (es : List E) : Nat := (es.map g).sum
theorem sumB_app (g : E → Nat) (es fs : List E) : sumB g (es ++ fs) = sumB g es + sumB g fs := by
  unfold sumB
  rw [List.map_append, List.sum_append]
theorem sumB_cons (g : E → Nat) (e : E) (fs : List E) : sumB g (e :: fs) = g e + sumB g fs := by
  unfold sumB
  rw [List.map_cons, List.sum_cons]
theorem len_leaves {es : List E} (h : ∀ e ∈ es, e.ok = true) : es.length ≤ sumB E.leaves es := by
  have := (cnts (es := es) (by rw [oks_eq]; exact List.all_eq_true.mpr h)).l
  rw [leavess_eq] at this
  exact this
def symsE (cs : List Nat) : List E := cs.map E.sym
theorem syms_sum (g : E → Nat) (k : Nat) (h : ∀ c, g (.sym c) = k) : ∀ cs : List Nat, sumB g (symsE cs) = cs.length * k
  | [] => by rw [List.length_nil, Nat.zero_mul]; rfl
  | c :: cs => by
    show sumB g (.sym c :: symsE cs) = _
    rw [sumB_cons, h, syms_sum g k h cs, List.length_cons, Nat.succ_mul, Nat.add_comm]
theorem syms_rep {H : Hp} : ∀ cs : List Nat, Two (Rep H) (cs.map fun c => V.str ⟨#[c]⟩) ((symsE cs).map E.toD)
  | [] => .nil
  | c :: cs => .cons (rep_sym c) (syms_rep cs)
def LetIn (z : Str) (e : E) : Prop := ∀ c ∈ e.letters, c ∈ z.cps.toList
theorem letterss_app : ∀ es fs : List E, E.letters.letterss (es ++ fs) = E.letters.letterss es ++ E.letters.letterss fs
  | [], fs => rfl
  | e :: es, fs => by
    show E.letters.letterss (e :: (es ++ fs)) = _
    rw [E.letters.letterss, E.letters.letterss, letterss_app es fs, List.append_assoc]
theorem kids_letters (b : Bool) (e : E) : E.letters.letterss (kidsOf b e) = e.letters := by
  cases e <;> cases b <;> simp [kidsOf, E.letters, E.letters.letterss]
theorem letIn_row {z : Str} {b : Bool} {x y : E} (hx : LetIn z x) (hy : LetIn z y) : LetIn z (mkRow b x y) := by
  have e : (mkRow b x y).letters = x.letters ++ y.letters := by
    have h : (mkRow b x y).letters = E.letters.letterss (kidsOf b x ++ kidsOf b y) := by
      cases b
      · show E.letters (.alt _) = _
        rw [E.letters]
      · show E.letters (.join _) = _
        rw [E.letters]
    rw [h, letterss_app, kids_letters, kids_letters]
  intro c hc
  rw [e] at hc
  rcases List.mem_append.mp hc with h | h
  · exact hx c h
  · exact hy c h
theorem letIn_wrap {z : Str} {b : Bool} {e : E} (h : LetIn z e) : LetIn z (wrapE b e) := by
  have e : (wrapE b e).letters = e.letters := by
    cases b
    · show E.letters (.maybe e) = _
      rw [E.letters]
    · show E.letters (.many e) = _
      rw [E.letters]
  intro c hc
  rw [e] at hc
  exact h c hc
/-- what the parts are while they are put together -/
structure BldA (H : Hp) (L : Addr) (z : Str) (es : List E) (most wr : Nat) : Prop where
  ls : ∃ xs, H L = some (.lst xs) ∧ Two (Rep H) xs (es.map E.toD)
  ok : ∀ e ∈ es, e.ok = true ∧ LetIn z e
  p1 : 1 ≤ sumB E.places es
  p2 : sumB E.places es ≤ most
  lv : sumB E.leaves es ≤ most + 1
  wr : sumB E.wr es ≤ wr
def spPutA : Sp := fun vs H Q _ => ∃ (b : Bool) (u v : V) (x y : E), vs = [.str (rowW b), u, v] ∧ x.ok = true ∧ y.ok = true ∧ x.leaves ≤ 50 ∧ y.leaves ≤ 50 ∧ Rep H u x.toD ∧ Rep H v y.toD ∧ ∀ r H', Same H H' → Rep H' r (mkRow b x y).toD → Q r H'
def spExpA : Sp := fun vs H Q _ => ∃ (a : Addr) (z : Str) (most : Nat), vs = [.ref a, .str z, .int most] ∧ Strm H a ∧ 0 < most ∧ most ≤ 24 ∧ Lets z ∧
  ∀ v H' (e : E), Go a H H' → Rep H' v e.toD → e.ok = true → 1 ≤ e.places → e.places ≤ most → e.leaves ≤ most + 1 → e.wr ≤ most + 3 → LetIn z e → Q v H'
section
variable {P : Program} {w : World} {K : PySem.W.Frag} {mg : Str → Option Value} {base : Heap} {a_BOUNDS a_LONG_BOUNDS : Addr} {tL tM : Tok}
abbrev N__law_put : List Str := ["word", "one", "other", "parts", "item"]
theorem sc__law_put : FnScope ["word", "one", "other", "parts", "item"] ["word", "one", "other"] (defScope s__law_put) := ⟨rfl, rfl, rfl, by decide +kernel, rfl, by decide +kernel, by decide +kernel⟩
theorem ok_put {f : Addr} {fd : FuncData} (B : Bt K mg a_BOUNDS a_LONG_BOUNDS tL tM) (Dd : Df K mg "_law_put" s__law_put ["word", "one", "other"] f fd) : FnOk P w K mg base CX0 1 f fd ["word", "one", "other"] spPutA := by
  refine Dd.F.ok sc__law_put (fun vs H Q Ex h => ?_) (fun cdv A outer s H vs Q Ex hr h => ?_)
  · obtain ⟨b, u, v, x, y, rfl, _⟩ := h
    rfl
  obtain ⟨b, u, v, x, y, rfl, hx, hy, hlx, hly, hRx, hRy, q⟩ := h
  refine ⟨_, (pss_cons (ps_set (i := 3) sc__law_put.nd rfl (Or.inl rfl) (pe_lst pa_nil))
    (pss_cons (ps_for PassesOwn.never rfl (pi_list (pe_lst (pa_cons (pv 1) (pa_cons (pv 2) pa_nil)))) (pg_name (i := 4) sc__law_put.nd rfl (Or.inl rfl)) (pss_one (ps_if (PW.pt (pw_and (pt_val (pe_callB call_isi rfl B.b_isinstance boot_isinstance (pa_cons (pv 4) (pa_cons (pe_bltn (v := .ty "tuple") rfl B.b_tuple boot_tuple rfl) pa_nil)))) (pw_and1 (pt_cmpR op_eq (pe_ix (r := rIxT K) ix_tup (pv 4) pe_int (fun _ _ => rfl)) (pv 0) (nomark _))))) (pss_one (ps_set (i := 3) sc__law_put.nd rfl (Or.inl rfl) (pe_op op_cat (pv 3) (pe_callTy call_list_of rfl B.b_list boot_list (pa_cons (pe_ix (r := rIxT K) ix_tup (pv 4) pe_int (fun _ _ => rfl)) pa_nil))))) (pss_one (ps_expr (pe_bm PySem.F.plainAttrs_list PySem.F.slot_list_append PySem.F.type_list_append mt_append (pv 3) (pa_cons (pv 4) pa_nil)))))))
    (pss_one (ps_ret (pe_tup (pa_cons (pv 0) (pa_cons (pe_callTy call_tuple_ofK rfl B.b_tuple boot_tuple (pa_cons (pv 3) pa_nil)) pa_nil))))))), ?_⟩
  refine ⟨Nat.zero_le _, fun t0 ht0 => ?_⟩
  have hu : ∀ i (e : E), ([x, y] : List E)[i]? = some e → e.ok = true ∧ e.leaves ≤ 50 := fun (i : Nat) e h => by
    rcases i with _ | _ | i
    · cases h
      exact ⟨hx, hlx⟩
    · cases h
      exact ⟨hy, hly⟩
    · simp at h
  have s0 := same_upd (o := .lst []) ht0
  refine ⟨_, rfl, _, rfl, (by show 2 ≤ sizeLine; decide), fun L hL => ?_⟩
  have s1 := s0.trans (same_upd (o := .lst [u, v]) hL)
  have hL2 : (upd (upd H t0 (.lst [])) L (.lst [u, v])) L = some (.lst [u, v]) := upd_same
  have ht2 : (upd (upd H t0 (.lst [])) L (.lst [u, v])) t0 = some (.lst []) := (same_upd hL) _ _ upd_same
  have hLt : t0 ≠ L := ne_of_none upd_same hL
  have hLH : H L = none := s0.free hL
  revert s1 hL2 ht2
  generalize upd (upd H t0 (.lst [])) L (.lst [u, v]) = H1
  intro s1 hL2 ht2
  refine ⟨L, rfl, ⟨_, SqL.of hL2⟩, for_list (K := K) (a := L) (xs := [u, v]) (fun i σ' H' => ∃ (t : Addr) (xs : List V) (o1 : Option V), σ' = [some (.str (rowW b)), some u, some v, some (.ref t), o1] ∧ Same H H' ∧ H' L = some (.lst [u, v]) ∧ t ≠ L ∧ H t = none ∧ H' t = some (.lst xs) ∧ Two (Rep H') xs (((([x, y].take i).map (kidsOf b)).flatten).map E.toD)) ?_ ?_ ?_ ?_⟩
  · exact ⟨t0, [], none, rfl, s1, hL2, hLt, ht0, ht2, .nil⟩
  · rintro i σ' H' hi ⟨t, xs, o1, rfl, s2, hLL, _⟩
    exact SqL.of hLL
  · rintro i z σ' H' hz ⟨t, xs, o1, rfl, s2, hLL, htL, htn, ht, hX⟩
    have hRs : Two (Rep H') [u, v] ([x, y].map E.toD) := .cons (hRx.pers (Pers.same s2)) (.cons (hRy.pers (Pers.same s2)) .nil)
    obtain ⟨d, hd1, hzd⟩ := hRs.get hz
    rw [List.getElem?_map] at hd1
    obtain ⟨e, he, rfl⟩ := Option.map_eq_some_iff.mp hd1
    obtain ⟨hok, hle⟩ := hu i e he
    obtain ⟨ty, T1, k1, k2⟩ := hzd.ty (K := K)
    have hlen : xs.length ≤ 100 := by
      rw [hX.len, List.length_map]
      rcases i with _ | _ | i
      · exact Nat.zero_le _
      · show ((kidsOf b x) ++ []).length ≤ 100
        rw [List.append_nil]
        exact Nat.le_trans (kids_len hx) (by omega)
      · have : (i + 1 + 1) < 2 := (List.getElem?_eq_some_iff.mp hz).1
        omega
    have hkl : (kidsOf b e).length ≤ 50 := Nat.le_trans (kids_len hok) hle
    have fl : (([x, y].take (i + 1)).map (kidsOf b)).flatten = (([x, y].take i).map (kidsOf b)).flatten ++ kidsOf b e := by
      rw [take_snoc he, List.map_append, List.flatten_append]
      show _ ++ (kidsOf b e ++ []) = _
      rw [List.append_nil]
    refine ⟨_, rfl, _, _, _, _, _, rfl, .ty _, T1, k2, _, rfl, ?_⟩
    have alone : kidsOf b e = [e] → ∃ (t2 : Addr) (xs2 : List V) (o1 : Option V), ([some (.str (rowW b)), some u, some v, some (.ref t), some z] : L2.St) = [some (.str (rowW b)), some u, some v, some (.ref t2), o1] ∧ Same H (upd H' t (.lst (xs ++ [z]))) ∧ (upd H' t (.lst (xs ++ [z]))) L = some (.lst [u, v]) ∧ t2 ≠ L ∧ H t2 = none ∧ (upd H' t (.lst (xs ++ [z]))) t2 = some (.lst xs2) ∧ Two (Rep (upd H' t (.lst (xs ++ [z])))) xs2 (((([x, y].take (i + 1)).map (kidsOf b)).flatten).map E.toD) := fun hk => by
      refine ⟨t, xs ++ [z], some z, rfl, fun b o hb => by rw [upd_ne (ne_of_none hb htn)]; exact s2 _ _ hb, by rw [upd_ne htL.symm]; exact hLL, htL, htn, upd_same, ?_⟩
      rw [fl, hk, List.map_append]
      exact (Rep.pers2 (Pers.store ht) hX).app (.cons (hzd.pers (Pers.store ht)) .nil)
    have app : kidsOf b e = [e] → rAppend (.ref t) [z] H' fun _ H3 => ∃ (t2 : Addr) (xs2 : List V) (o1 : Option V), ([some (.str (rowW b)), some u, some v, some (.ref t), some z] : L2.St) = [some (.str (rowW b)), some u, some v, some (.ref t2), o1] ∧ Same H H3 ∧ H3 L = some (.lst [u, v]) ∧ t2 ≠ L ∧ H t2 = none ∧ H3 t2 = some (.lst xs2) ∧ Two (Rep H3) xs2 (((([x, y].take (i + 1)).map (kidsOf b)).flatten).map E.toD) := fun hk =>
      ⟨t, xs, z, rfl, rfl, ht, Nat.lt_of_le_of_lt hlen (by decide), alone hk⟩
    refine ite2 (fun c1 => ?_) (fun c1 => ?_)
    · obtain ⟨w', y', h1, h2⟩ := row_word b c1
      rw [h1] at hzd
      obtain ⟨pz, zs, rfl, hpz, hzz, hZ⟩ := hzd.untup
      match zs, hZ with
      | [_, x'], .cons (.str hw) (.cons hx' .nil) =>
      refine ⟨_, rfl, pz, _, 0, _, rfl, rfl, SqT.of hpz, at_zero, _, rfl, rfl, _, rfl, ite2 (fun c2 => ?_) (fun c2 => ?_)⟩
      · have h3 := h2.resolve_right fun c => by rw [c2] at c; cases c.1
        rw [h3.2] at hx'
        obtain ⟨pk, ks, rfl, hpk, hkz, hK⟩ := hx'.untup
        have hkl2 := hK.len
        rw [List.length_map] at hkl2
        refine ⟨_, rfl, _, rfl, pz, _, 1, _, rfl, rfl, SqT.of hpz, at_one, pk, ks, rfl, .inr (SqT.of hpk), fun l hl => ?_⟩
        have s3 := same_upd (o := .lst ks) hl
        refine ⟨t, l, xs, ks, rfl, rfl, s3 _ _ ht, upd_same, Nat.le_trans (m := 200) (by omega) (by decide), fun p hp => ?_⟩
        have s4 := same_upd (o := .lst (xs ++ ks)) hp
        have S := s2.trans (s3.trans s4)
        refine ⟨p, xs ++ ks, _, rfl, S, s4 _ _ (s3 _ _ hLL), (ne_of_none (s3 _ _ hLL) hp).symm, (s2.trans s3).free hp, upd_same, ?_⟩
        rw [fl, List.map_append]
        exact (Rep.pers2 (Pers.same (s3.trans s4)) hX).app (Rep.pers2 (Pers.same (s3.trans s4)) hK)
      · have h3 := h2.resolve_left fun c => c2 c.1
        exact ⟨_, rfl, .inl ⟨rfl, _, SqL.of ht⟩, _, rfl, app h3.2⟩
    · exact ⟨_, rfl, .inl ⟨rfl, _, SqL.of ht⟩, _, rfl, app (kids_flat b (Bool.eq_false_iff.mpr c1))⟩
  · rintro σ' H' ⟨t, xs, o1, rfl, s2, hLL, htL, htn, ht, hX⟩
    refine ⟨_, rfl, _, rfl, t, xs, rfl, .inl ⟨SqL.of ht, fun l hl => ⟨by show 2 ≤ sizeLine; decide, fun p hp => ?_⟩⟩⟩
    have s3 := same_upd (o := .tup xs) hl
    have s4 := same_upd (o := .tup [V.str (rowW b), .ref l]) hp
    refine q _ _ (s2.trans (s3.trans s4)) ?_
    have e1 : (([x, y].take [u, v].length).map (kidsOf b)).flatten = kidsOf b x ++ kidsOf b y := by
      show kidsOf b x ++ (kidsOf b y ++ []) = _
      rw [List.append_nil]
    rw [e1] at hX
    unfold mkRow
    rw [rowE_toD]
    refine Rep.tup2 upd_same (by show 2 ≤ 100000; decide) (.cons (.str (by cases b <;> decide +kernel)) (.cons (Rep.tup2 (s4 _ _ upd_same) ?_ (Rep.pers2 (Pers.same (s3.trans s4)) hX)) .nil))
    have := hX.len
    rw [List.length_map, List.length_append] at this
    have h1 := kids_len (b := b) hx
    have h2 := kids_len (b := b) hy
    omega
abbrev N__law_expression : List Str := ["stream", "letters", "most", "items", "turn", "item", "pick", "at"]
theorem sc__law_expression : FnScope ["stream", "letters", "most", "items", "turn", "item", "pick", "at"] ["stream", "letters", "most"] (defScope s__law_expression) := ⟨rfl, rfl, rfl, by decide +kernel, rfl, by decide +kernel, by decide +kernel⟩
set_option maxHeartbeats 1000000 in
theorem ok_exprA {f : Addr} {fd : FuncData} (B : Bt K mg a_BOUNDS a_LONG_BOUNDS tL tM) (Dd : Df K mg "_law_expression" s__law_expression ["stream", "letters", "most"] f fd) (G_law_next : Cl P w K mg base 1 "_law_next" ["stream", "many"] spNext) (G_law_put : Cl P w K mg base 1 "_law_put" ["word", "one", "other"] spPutA) : FnOk P w K mg base CX0 2 f fd ["stream", "letters", "most"] spExpA := by
  refine Dd.F.ok sc__law_expression (fun vs H Q Ex h => ?_) (fun cdv A outer s H vs Q Ex hr h => ?_)
  · obtain ⟨a, z, most, rfl, _⟩ := h
    rfl
  obtain ⟨a, z, most, rfl, hS, hm0, hm, hz, q⟩ := h
  refine ⟨_, (pss_cons (ps_set (i := 3) sc__law_expression.nd rfl (Or.inl rfl) (pe_lst pa_nil))
    (pss_cons (ps_for PassesOwn.never rfl (pi_range1 rfl B.b_range (pa_cons (pe_op op_add pe_int (pe_cl G_law_next (hr.mono (by omega)) rfl (pa_cons (pv 0) (pa_cons (pv 2) pa_nil)))) pa_nil)) (pg_name (i := 4) sc__law_expression.nd rfl (Or.inl rfl)) (pss_cons (ps_set (i := 5) sc__law_expression.nd rfl (Or.inl rfl) (pe_ix ix_str (pv 1) (pe_cl G_law_next (hr.mono (by omega)) rfl (pa_cons (pv 0) (pa_cons (pe_callB call_len rfl B.b_len boot_len (pa_cons (pv 1) pa_nil)) pa_nil))) (fun _ _ => rfl)))
    (pss_cons (ps_set (i := 6) sc__law_expression.nd rfl (Or.inl rfl) (pe_cl G_law_next (hr.mono (by omega)) rfl (pa_cons (pv 0) (pa_cons pe_int pa_nil))))
    (C8.pss_cut (ps_if (pt_cmpR op_eq (pv 6) pe_int (nomark _)) (pss_one (ps_set (i := 5) sc__law_expression.nd rfl (Or.inl rfl) (pe_tup (pa_cons pe_str (pa_cons (pv 5) pa_nil))))) pss_nil)
    (C8.pss_cut (ps_if (pt_cmpR op_eq (pv 6) pe_int (nomark _)) (pss_one (ps_set (i := 5) sc__law_expression.nd rfl (Or.inl rfl) (pe_tup (pa_cons pe_str (pa_cons (pv 5) pa_nil))))) pss_nil)
    (pss_one (ps_expr (pe_bm PySem.F.plainAttrs_list PySem.F.slot_list_append PySem.F.type_list_append mt_append (pv 3) (pa_cons (pv 5) pa_nil)))))))))
    (C8.pss_cut (ps_if (pt_cmpR op_eq (pe_cl G_law_next (hr.mono (by omega)) rfl (pa_cons (pv 0) (pa_cons pe_int pa_nil))) pe_int (nomark _)) (pss_one (ps_expr (pe_bm PySem.F.plainAttrs_list PySem.F.slot_list_append PySem.F.type_list_append mt_append (pv 3) (pa_cons pe_str pa_nil)))) pss_nil)
    (pss_cons (ps_for PassesOwn.never rfl (pi_range1 rfl B.b_range (pa_cons (pe_op op_sub (pe_callB call_len rfl B.b_len boot_len (pa_cons (pv 3) pa_nil)) pe_int) pa_nil)) (pg_name (i := 4) sc__law_expression.nd rfl (Or.inl rfl)) (pss_cons (ps_set (i := 7) sc__law_expression.nd rfl (Or.inl rfl) (pe_cl G_law_next (hr.mono (by omega)) rfl (pa_cons (pv 0) (pa_cons (pe_op op_sub (pe_callB call_len rfl B.b_len boot_len (pa_cons (pv 3) pa_nil)) pe_int) pa_nil))))
    (pss_cons (ps_set (i := 5) sc__law_expression.nd rfl (Or.inl rfl) (pe_cl G_law_put (hr.mono (by omega)) rfl (pa_cons (pe_ix (r := rIxL K) ix_list (pe_lst (pa_cons pe_str (pa_cons pe_str pa_nil))) (pe_cl G_law_next (hr.mono (by omega)) rfl (pa_cons (pv 0) (pa_cons pe_int pa_nil))) (fun _ _ => rfl)) (pa_cons (pe_ix (r := rIxL K) ix_list (pv 3) (pv 7) (fun _ _ => rfl)) (pa_cons (pe_ix (r := rIxL K) ix_list (pv 3) (pe_op op_add (pv 7) pe_int) (fun _ _ => rfl)) pa_nil)))))
    (pss_cons (ps_set (i := 6) sc__law_expression.nd rfl (Or.inl rfl) (pe_cl G_law_next (hr.mono (by omega)) rfl (pa_cons (pv 0) (pa_cons pe_int pa_nil))))
    (C8.pss_cut (ps_if (PW.pt (pw_and (pt_cmpR op_eq (pv 6) pe_int (nomark _)) (pw_and1 (pt_cmpR op_lt (pv 4) pe_int (nomark _))))) (pss_one (ps_set (i := 5) sc__law_expression.nd rfl (Or.inl rfl) (pe_tup (pa_cons pe_str (pa_cons (pv 5) pa_nil))))) pss_nil)
    (C8.pss_cut (ps_if (PW.pt (pw_and (pt_cmpR op_eq (pv 6) pe_int (nomark _)) (pw_and1 (pt_cmpR op_lt (pv 4) pe_int (nomark _))))) (pss_one (ps_set (i := 5) sc__law_expression.nd rfl (Or.inl rfl) (pe_tup (pa_cons pe_str (pa_cons (pv 5) pa_nil))))) pss_nil)
    (pss_one (ps_set (i := 3) sc__law_expression.nd rfl (Or.inl rfl) (pe_op op_cat (pe_op op_cat (pe_slice sl_list (pv 3) po_none (po_some (pv 7))) (pe_lst (pa_cons (pv 5) pa_nil))) (pe_slice sl_list (pv 3) (po_some (pe_op op_add (pv 7) pe_int)) po_none))))))))))
    (pss_one (ps_ret (pe_ix (r := rIxL K) ix_list (pv 3) pe_int (fun _ _ => rfl)))))))), ?_⟩
  refine ⟨by show 0 ≤ sizeLine; decide, fun L0 hL0 => ?_⟩
  have hLa0 : L0 ≠ a := (hS.ne hL0).symm
  have g0 := Go.new (o := .lst []) hS hL0
  refine ⟨_, rfl, _, rfl, a, most, rfl, g0.st, by omega, by omega, fun d0 H1 d00 d01 g1 => ?_⟩
  refine ⟨_, _, rfl, rfl, _, rfl, by omega, by omega, for_range (lo := 0) (n := (1 + d0).toNat) (fun i σ' H' => ∃ (es : List E) (xs : List V) (o4 o5 o6 o7 : Option V), σ' = [some (.ref a), some (.str z), some (.int most), some (.ref L0), o4, o5, o6, o7] ∧ Go a H H' ∧ H' L0 = some (.lst xs) ∧ Two (Rep H') xs (es.map E.toD) ∧ (∀ e ∈ es, e.ok = true ∧ LetIn z e) ∧ sumB E.places es = i ∧ sumB E.leaves es = i ∧ sumB E.wr es ≤ i ∧ es.length = i) ?_ ?_ ?_⟩
  · exact ⟨[], [], _, _, _, _, rfl, g0.trans g1, g1.keep _ _ upd_same hLa0, .nil, (fun e he => by cases he), rfl, rfl, Nat.le_refl _, rfl⟩
  · rintro i σ' H2 hi ⟨es, xs, o4, o5, o6, o7, rfl, G2, hL2, hX, hok, hp, hlv, hwr, hel⟩
    refine ⟨_, rfl, _, rfl, _, rfl, _, z.length, rfl, ⟨Nat.le_trans hz.2.1 (by decide), rfl⟩, a, z.length, rfl, G2.st, by have := hz.1; omega, by have := hz.2.1; omega, fun d H3 d0 d1 g3 => ?_⟩
    obtain ⟨c, hcz⟩ : ∃ c, z.cps.toList[d.toNat]? = some c := ⟨_, List.getElem?_eq_getElem (by rw [len_toList2]; omega)⟩
    have hcl := hz.2.2 c (List.mem_of_getElem? hcz)
    refine ⟨z, d, c, rfl, rfl, Nat.le_trans hz.2.1 (by decide), ?_, ?_⟩
    · have e1 : d = ((d.toNat : Nat) : Int) := by omega
      rw [e1]
      exact atI_nat hcz
    refine ⟨_, rfl, a, 6, rfl, g3.st, by decide, by decide, fun pk H4 pk0 pk1 g4 => ?_⟩
    have G4 := G2.trans (g3.trans g4)
    refine ⟨fun σ' H' => ∃ (v : V) (e : E) (o4 o7 : Option V), σ' = [some (.ref a), some (.str z), some (.int most), some (.ref L0), o4, some v, some (.int pk), o7] ∧ Go a H4 H' ∧ Rep H' v e.toD ∧ (e.ok = true ∧ LetIn z e) ∧ e.places = 1 ∧ e.leaves = 1 ∧ (pk = 0 ∧ e.wr ≤ 1 ∨ pk ≠ 0 ∧ e.wr = 0), ?_, ?_⟩
    · have hsok : (E.sym c).ok = true ∧ LetIn z (E.sym c) := ⟨by rw [E.ok, decide_eq_true hcl.1, decide_eq_true hcl.2]; rfl, fun x hx => by rw [E.letters, List.mem_singleton] at hx; rw [hx]; exact List.mem_of_getElem? hcz⟩
      refine ⟨_, rfl, rfl, _, rfl, ite2 (fun c1 => ?_) (fun c1 => ?_)⟩
      · have e0 : pk = 0 := V.int.inj (of_decide_eq_true c1)
        refine ⟨_, rfl, by show 2 ≤ sizeLine; decide, fun p hp => ?_⟩
        refine ⟨_, wrapE true (.sym c), _, _, rfl, Go.new g4.st hp, wrap_rep upd_same (rep_sym c), ⟨by rw [wrap_ok]; exact hsok.1, letIn_wrap hsok.2⟩, by rw [wrap_places]; rfl, by rw [wrap_leaves]; rfl, .inl ⟨e0, by rw [wrap_wr]; exact Nat.le_refl _⟩⟩
      · have e0 : pk ≠ 0 := fun h => c1 (decide_eq_true (congrArg V.int h))
        exact ⟨_, .sym c, _, _, rfl, Go.refl g4.st, rep_sym c, hsok, rfl, rfl, .inr ⟨e0, rfl⟩⟩
    rintro σ' H5 ⟨v, e, o4', o7', rfl, g5, hv, e1, e2, e3, e4⟩
    refine ⟨fun σ' H' => ∃ (v : V) (e : E) (o4 o6 o7 : Option V), σ' = [some (.ref a), some (.str z), some (.int most), some (.ref L0), o4, some v, o6, o7] ∧ Go a H5 H' ∧ Rep H' v e.toD ∧ (e.ok = true ∧ LetIn z e) ∧ e.places = 1 ∧ e.leaves = 1 ∧ e.wr ≤ 1, ?_, ?_⟩
    · refine ⟨_, rfl, rfl, _, rfl, ite2 (fun c1 => ?_) (fun c1 => ?_)⟩
      · have e0 : pk = 1 := V.int.inj (of_decide_eq_true c1)
        refine ⟨_, rfl, by show 2 ≤ sizeLine; decide, fun p hp => ?_⟩
        have hw : e.wr = 0 := by
          rcases e4 with ⟨h, _⟩ | ⟨_, h⟩
          · omega
          · exact h
        refine ⟨_, wrapE false e, _, _, _, rfl, Go.new g5.st hp, wrap_rep upd_same (hv.pers (Pers.new hp)), ⟨by rw [wrap_ok]; exact e1.1, letIn_wrap e1.2⟩, by rw [wrap_places]; exact e2, by rw [wrap_leaves]; exact e3, by rw [wrap_wr, hw]; exact Nat.le_refl _⟩
      · exact ⟨v, e, _, _, _, rfl, Go.refl g5.st, hv, e1, e2, e3, by rcases e4 with ⟨_, h⟩ | ⟨_, h⟩ <;> omega⟩
    rintro σ' H6 ⟨v', e', o4'', o6'', o7'', rfl, g6, hv6, f1, f2, f3, f4⟩
    have G6 := G4.trans (g5.trans g6)
    have gg := g3.trans (g4.trans (g5.trans g6))
    have hL6 := gg.keep _ _ hL2 hLa0
    have hXl := hX.len
    rw [List.length_map] at hXl
    refine ⟨_, rfl, .inl ⟨rfl, _, SqL.of hL6⟩, _, rfl, L0, xs, v', rfl, rfl, hL6, Nat.lt_of_le_of_lt (m := 25) (by omega) (by decide), ?_⟩
    refine ⟨es ++ [e'], xs ++ [v'], _, _, _, _, rfl, G6.loc hL0, upd_same, ?_, ?_, ?_, ?_, ?_, ?_⟩
    · rw [List.map_append]
      exact (Rep.pers2 (gg.pers.trans (Pers.store hL6)) hX).app (.cons (hv6.pers (Pers.store hL6)) .nil)
    · intro x hx
      rcases List.mem_append.mp hx with h | h
      · exact hok x h
      · rw [List.mem_singleton.mp h]
        exact f1
    · rw [sumB_app, hp, sumB_cons, f2]; rfl
    · rw [sumB_app, hlv, sumB_cons, f3]; rfl
    · rw [sumB_app, sumB_cons]
      show _ + (_ + 0) ≤ _
      omega
    · rw [List.length_append, hel]; rfl
  · rintro σ' H2 ⟨es, xs, o4, o5, o6, o7, rfl, G2, hL2, hX, hok, hp, hlv, hwr, hel⟩
    have hn1 : (1 + d0).toNat ≤ most := by omega
    have hn0 : 1 ≤ (1 + d0).toNat := by omega
    refine ⟨fun σ' H' => ∃ (es : List E) (o4 o5 o6 o7 : Option V), σ' = [some (.ref a), some (.str z), some (.int most), some (.ref L0), o4, o5, o6, o7] ∧ Go a H H' ∧ BldA H' L0 z es most most, ?_, ?_⟩
    · refine ⟨_, rfl, a, 6, rfl, G2.st, by decide, by decide, fun d H3 d0' d1' g3 => ⟨rfl, _, rfl, ite2 (fun _ => ?_) (fun _ => ?_)⟩⟩
      · have h3 := g3.keep _ _ hL2 hLa0
        have hXl := hX.len
        rw [List.length_map] at hXl
        refine ⟨_, rfl, .inl ⟨rfl, _, SqL.of h3⟩, L0, _, _, rfl, rfl, h3, Nat.lt_of_le_of_lt (m := 25) (by omega) (by decide), ?_⟩
        refine ⟨es ++ [.eps], _, _, _, _, rfl, (G2.trans g3).loc hL0, ⟨⟨_, upd_same, ?_⟩, ?_, ?_, ?_, ?_, ?_⟩⟩
        · rw [List.map_append]
          exact (Rep.pers2 (g3.pers.trans (Pers.store h3)) hX).app (.cons rep_eps .nil)
        · intro e he
          rcases List.mem_append.mp he with he | he
          · exact hok e he
          · rw [List.mem_singleton] at he
            subst he
            exact ⟨rfl, fun c hc => by rw [E.letters] at hc; cases hc⟩
        · rw [sumB_app]; omega
        · rw [sumB_app]; show _ + 0 ≤ _; omega
        · rw [sumB_app]; show _ + 1 ≤ _; omega
        · rw [sumB_app]; show _ + 0 ≤ _; omega
      · have h3 := g3.keep _ _ hL2 hLa0
        exact ⟨es, _, _, _, _, rfl, G2.trans g3, ⟨⟨xs, h3, Rep.pers2 g3.pers hX⟩, hok, by omega, by omega, by omega, by omega⟩⟩
    rintro σ' H3 ⟨es0, o4, o5, o6, o7, rfl, G3, B3⟩
    obtain ⟨xs0, hx0, hX0⟩ := B3.ls
    have hl0 := hX0.len
    rw [List.length_map] at hl0
    have hn2 : 0 < es0.length := by
      rcases es0 with _ | ⟨e, r⟩
      · have := B3.p1
        have e : sumB E.places [] = 0 := rfl
        omega
      · exact Nat.succ_pos _
    have hb0 := len_leaves fun e he => (B3.ok e he).1
    have hv0 := B3.lv
    refine ⟨_, rfl, _, xs0.length, rfl, .inl ⟨_, SqL.of hx0, rfl⟩, _, _, rfl, rfl, _, rfl, by omega, by omega, for_range (lo := 0) (n := (((xs0.length : Nat) : Int) - 1).toNat) (fun i σ' H' => ∃ (es : List E) (L : Addr) (o4 o5 o6 o7 : Option V), σ' = [some (.ref a), some (.str z), some (.int most), some (.ref L), o4, o5, o6, o7] ∧ Go a H H' ∧ L ≠ a ∧ BldA H' L z es most (most + min i 3) ∧ es.length + i = es0.length) ?_ ?_ ?_⟩
    · exact ⟨es0, L0, _, _, _, _, rfl, G3, hLa0, ⟨B3.ls, B3.ok, B3.p1, B3.p2, B3.lv, B3.wr⟩, rfl⟩
    · rintro i σ' H4 hi ⟨es, L, o4, o5, o6, o7, rfl, G4, hLa, B4, hle⟩
      obtain ⟨⟨xs, hx, hX⟩, b2, b3, b4, b5, b6⟩ := B4
      have hlx := hX.len
      rw [List.length_map] at hlx
      have hbe := len_leaves fun e he => (b2 e he).1
      refine ⟨_, rfl, _, rfl, _, xs.length, rfl, .inl ⟨_, SqL.of hx, rfl⟩, _, _, rfl, rfl, a, ((xs.length : Nat) : Int) - 1, rfl, G4.st, by omega, by omega, fun d H5 d0 d1 g5 => ?_⟩
      obtain ⟨k, rfl⟩ : ∃ k : Nat, d = (k : Int) := ⟨d.toNat, by omega⟩
      obtain ⟨Es, x, y, Fs, rfl, hEl⟩ := split_two es k (by omega)
      rw [List.map_append] at hX
      obtain ⟨As, r1, rfl, hAl, hA, hr1⟩ := hX.split
      rw [List.map_cons] at hr1
      obtain ⟨u, r2, rfl, hu, hr2⟩ := hr1.uncons
      rw [List.map_cons] at hr2
      obtain ⟨v, Bs, rfl, hv, hB⟩ := hr2.uncons
      rw [List.length_map, hEl] at hAl
      subst hAl
      have hx5 := g5.keep _ _ hx hLa
      have hAB : As.length + Bs.length + 2 ≤ 25 := by
        have h1 : (As ++ u :: v :: Bs).length = As.length + Bs.length + 2 := by
          rw [List.length_append, List.length_cons, List.length_cons]
          omega
        omega
      have bok : x.ok = true ∧ y.ok = true := ⟨(b2 x (by simp)).1, (b2 y (by simp)).1⟩
      have blt : LetIn z x ∧ LetIn z y := ⟨(b2 x (by simp)).2, (b2 y (by simp)).2⟩
      have bs : ∀ g : E → Nat, sumB g (Es ++ x :: y :: Fs) = sumB g Es + (g x + (g y + sumB g Fs)) := fun g => by rw [sumB_app, sumB_cons, sumB_cons]
      rw [bs] at b3 b4 b5 b6
      refine ⟨(by show 2 ≤ sizeLine; decide), fun l hl => ?_⟩
      have hla : l ≠ a := (g5.st.ne hl).symm
      refine ⟨_, rfl, a, 2, rfl, g5.st.same (same_upd hl), by decide, by decide, fun d H8 d0' d1' g8 => ?_⟩
      obtain ⟨b, hb⟩ : ∃ b, atI [V.str sJoin, V.str sOr] d = some (.str (rowW b)) := by
        have : d = 0 ∨ d = 1 := by omega
        rcases this with rfl | rfl
        · exact ⟨true, at_zero⟩
        · exact ⟨false, at_one⟩
      have g58 : Go a H5 H8 := (Go.new g5.st hl).trans g8
      have P8 : Pers H4 H8 := g5.pers.trans g58.pers
      have hx8 := g58.keep _ _ hx5 hLa
      refine ⟨l, _, d, _, rfl, rfl, SqL.of (g8.keep _ _ upd_same hla), hb, ?_⟩
      refine ⟨_, rfl, _, rfl, L, _, (As.length : Int), u, rfl, rfl, SqL.of hx8, at_of (j := As.length) rfl (get_mid _ _ _), ?_⟩
      have hxl : x.leaves ≤ 25 ∧ y.leaves ≤ 25 := ⟨by omega, by omega⟩
      refine ⟨_, rfl, _, rfl, _, _, rfl, rfl, L, _, ((As.length : Nat) : Int) + 1, v, rfl, rfl, SqL.of hx8, at_of (j := As.length + 1) (by omega) (get_mid1 _ _ _ _), b, u, v, x, y, rfl, bok.1, bok.2, by omega, by omega, hu.pers P8, hv.pers P8, fun r H9 s9 hr9 => ?_⟩
      have hx9 := s9 _ _ hx8
      have g89 := Go.same g8.st s9
      refine ⟨_, rfl, a, 8, rfl, g89.st, by decide, by decide, fun pk H10 pk0 pk1 g10 => ?_⟩
      refine ⟨fun σ' H' => ∃ (r' : V) (e' : E), σ' = [some (.ref a), some (.str z), some (.int most), some (.ref L), some (.int (0 + (i : Int))), some r', some (.int pk), some (.int As.length)] ∧ Go a H10 H' ∧ Rep H' r' e'.toD ∧ (e'.ok = true ∧ LetIn z e') ∧ e'.places = x.places + y.places ∧ e'.leaves = x.leaves + y.leaves ∧ (pk = 0 ∧ i < 3 ∧ e'.wr ≤ x.wr + y.wr + 1 ∨ e'.wr ≤ x.wr + y.wr), ?_, ?_⟩
      · have no : ∃ (r' : V) (e' : E), ([some (.ref a), some (.str z), some (.int most), some (.ref L), some (.int (0 + (i : Int))), some r, some (.int pk), some (.int As.length)] : L2.St) = [some (.ref a), some (.str z), some (.int most), some (.ref L), some (.int (0 + (i : Int))), some r', some (.int pk), some (.int As.length)] ∧ Go a H10 H10 ∧ Rep H10 r' e'.toD ∧ (e'.ok = true ∧ LetIn z e') ∧ e'.places = x.places + y.places ∧ e'.leaves = x.leaves + y.leaves ∧ (pk = 0 ∧ i < 3 ∧ e'.wr ≤ x.wr + y.wr + 1 ∨ e'.wr ≤ x.wr + y.wr) :=
          ⟨r, mkRow b x y, rfl, Go.refl g10.st, hr9.pers g10.pers, ⟨ok_mkRow bok.1 bok.2, letIn_row blt.1 blt.2⟩, mkRow_places b x y, mkRow_leaves b x y, .inr (Nat.le_of_eq (mkRow_wr b x y))⟩
        refine ⟨_, rfl, rfl, _, rfl, ite2 (fun c1 => ?_) (fun c1 => ?_)⟩
        · refine ⟨_, rfl, _, _, rfl, rfl, _, rfl, ite2 (fun c2 => ?_) (fun c2 => ?_)⟩
          · have e0 : pk = 0 := V.int.inj (of_decide_eq_true c1)
            have hi3 : i < 3 := by
              have : (0 : Int) + (i : Int) < 3 := of_decide_eq_true c2
              omega
            refine ⟨_, rfl, by show 2 ≤ sizeLine; decide, fun p hp => ?_⟩
            exact ⟨_, wrapE true (mkRow b x y), rfl, Go.new g10.st hp, wrap_rep upd_same ((hr9.pers g10.pers).pers (Pers.new hp)), ⟨by rw [wrap_ok]; exact ok_mkRow bok.1 bok.2, letIn_wrap (letIn_row blt.1 blt.2)⟩, by rw [wrap_places]; exact mkRow_places b x y, by rw [wrap_leaves]; exact mkRow_leaves b x y, .inl ⟨e0, hi3, by rw [wrap_wr, mkRow_wr]; exact Nat.le_refl _⟩⟩
          · exact no
        · exact no
      rintro σ' H11 ⟨r1, e1, rfl, g11, hr11, f1, f2, f3, f4⟩
      refine ⟨fun σ' H' => ∃ (r' : V) (e' : E), σ' = [some (.ref a), some (.str z), some (.int most), some (.ref L), some (.int (0 + (i : Int))), some r', some (.int pk), some (.int As.length)] ∧ Go a H11 H' ∧ Rep H' r' e'.toD ∧ (e'.ok = true ∧ LetIn z e') ∧ e'.places = x.places + y.places ∧ e'.leaves = x.leaves + y.leaves ∧ e'.wr + min i 3 ≤ x.wr + y.wr + min (i + 1) 3, ?_, ?_⟩
      · have no : (pk = 1 → ¬ i < 3) → ∃ (r' : V) (e' : E), ([some (.ref a), some (.str z), some (.int most), some (.ref L), some (.int (0 + (i : Int))), some r1, some (.int pk), some (.int As.length)] : L2.St) = [some (.ref a), some (.str z), some (.int most), some (.ref L), some (.int (0 + (i : Int))), some r', some (.int pk), some (.int As.length)] ∧ Go a H11 H11 ∧ Rep H11 r' e'.toD ∧ (e'.ok = true ∧ LetIn z e') ∧ e'.places = x.places + y.places ∧ e'.leaves = x.leaves + y.leaves ∧ e'.wr + min i 3 ≤ x.wr + y.wr + min (i + 1) 3 := fun hn =>
          ⟨r1, e1, rfl, Go.refl g11.st, hr11, f1, f2, f3, by rcases f4 with ⟨_, h, h2⟩ | h <;> omega⟩
        refine ⟨_, rfl, rfl, _, rfl, ite2 (fun c1 => ?_) (fun c1 => ?_)⟩
        · have e0 : pk = 1 := V.int.inj (of_decide_eq_true c1)
          refine ⟨_, rfl, _, _, rfl, rfl, _, rfl, ite2 (fun c2 => ?_) (fun c2 => ?_)⟩
          · have hi3 : i < 3 := by
              have : (0 : Int) + (i : Int) < 3 := of_decide_eq_true c2
              omega
            have hw : e1.wr ≤ x.wr + y.wr := by
              rcases f4 with ⟨h, _⟩ | h
              · omega
              · exact h
            refine ⟨_, rfl, by show 2 ≤ sizeLine; decide, fun p hp => ?_⟩
            exact ⟨_, wrapE false e1, rfl, Go.new g11.st hp, wrap_rep upd_same (hr11.pers (Pers.new hp)), ⟨by rw [wrap_ok]; exact f1.1, letIn_wrap f1.2⟩, by rw [wrap_places]; exact f2, by rw [wrap_leaves]; exact f3, by rw [wrap_wr]; omega⟩
          · exact no fun _ hi3 => c2 (decide_eq_true (by show (0 : Int) + (i : Int) < 3; omega))
        · exact no fun e0 => absurd (decide_eq_true (congrArg V.int e0)) c1
      rintro σ' H12 ⟨r', e', rfl, g12, hr12, h1, h2, h3, h4⟩
      have g912 := g89.trans (g10.trans (g11.trans g12))
      have hx12 := (g10.trans (g11.trans g12)).keep _ _ hx9 hLa
      refine ⟨_, rfl, _, rfl, _, rfl, L, _, rfl, SqL.of hx12, fun p1 hp1 => ?_⟩
      have e1 : cutV (As ++ u :: v :: Bs) none (some ((As.length : Nat) : Int)) = As := by rw [cut_hiV, List.take_left]
      rw [e1]
      have n1 := g12.st.ne hp1
      have k1 := Go.new (o := .lst As) g12.st hp1
      refine ⟨_, rfl, by show 1 ≤ sizeLine; decide, fun p2 hp2 => ?_⟩
      have k2 := Go.new (o := .lst [r']) k1.st hp2
      have hp1' := k2.keep _ _ (upd_same (H := H12) (a := p1) (o := .lst As)) n1.symm
      refine ⟨p1, p2, _, _, rfl, rfl, hp1', upd_same, Nat.le_trans (m := 25) (by show As.length + 1 ≤ 25; omega) (by decide), fun p3 hp3 => ?_⟩
      have k3 := Go.new (o := .lst (As ++ [r'])) k2.st hp3
      have gx := k1.trans (k2.trans k3)
      have hx15 := gx.keep _ _ hx12 hLa
      refine ⟨_, rfl, _, rfl, _, _, rfl, rfl, _, rfl, L, _, rfl, SqL.of hx15, fun p4 hp4 => ?_⟩
      have e2 : cutV (As ++ u :: v :: Bs) (some (((As.length : Nat) : Int) + 2)) none = Bs := by
        have := cut_loV (As ++ u :: v :: Bs) (As.length + 2)
        rw [show (((As.length + 2 : Nat)) : Int) = ((As.length : Nat) : Int) + 2 by omega] at this
        rw [this, show As ++ u :: v :: Bs = (As ++ [u, v]) ++ Bs by rw [List.append_assoc]; rfl, List.drop_left' (by rw [List.length_append]; rfl)]
      rw [e2]
      have k4 := Go.new (o := .lst Bs) k3.st hp4
      have n3 : p3 ≠ a := (k2.st.ne hp3).symm
      have hp3' := k4.keep _ _ (upd_same (o := .lst (As ++ [r']))) n3
      refine ⟨p3, p4, _, _, rfl, rfl, hp3', upd_same, Nat.le_trans (m := 30) (by rw [List.length_append]; show As.length + 1 + Bs.length ≤ 30; omega) (by decide), fun p5 hp5 => ?_⟩
      have k5 := Go.new (o := .lst ((As ++ [r']) ++ Bs)) k4.st hp5
      have g1215 := k1.trans (k2.trans (k3.trans (k4.trans k5)))
      have PA : Pers H4 _ := (P8.trans g912.pers).trans g1215.pers
      have bs2 : ∀ g : E → Nat, sumB g (Es ++ e' :: Fs) = sumB g Es + (g e' + sumB g Fs) := fun g => by rw [sumB_app, sumB_cons]
      refine ⟨Es ++ e' :: Fs, p5, _, _, _, _, rfl, G4.trans (g5.trans (g58.trans (g912.trans g1215))), (k4.st.ne hp5).symm, ⟨⟨_, upd_same, ?_⟩, ?_, ?_, ?_, ?_, ?_⟩, ?_⟩
      · rw [List.map_append, List.map_cons, show As ++ [r'] ++ Bs = As ++ r' :: Bs by rw [List.append_assoc]; rfl] at *
        exact (Rep.pers2 PA hA).app (.cons (hr12.pers g1215.pers) (Rep.pers2 PA hB))
      · intro e he
        rcases List.mem_append.mp he with he | he
        · exact b2 e (List.mem_append_left _ he)
        · rcases List.mem_cons.mp he with rfl | he
          · exact h1
          · exact b2 e (List.mem_append_right _ (List.mem_cons_of_mem _ (List.mem_cons_of_mem _ he)))
      · rw [bs2]; omega
      · rw [bs2]; omega
      · rw [bs2]; omega
      · rw [bs2]; omega
      · rw [List.length_append, List.length_cons]
        rw [List.length_append, List.length_cons, List.length_cons] at hle
        omega
    · rintro σ' H4 ⟨es, L, o4, o5, o6, o7, rfl, G4, hLa, B4, hle⟩
      obtain ⟨⟨xs, hx, hX⟩, b2, b3, b4, b5, b6⟩ := B4
      obtain ⟨e, rfl⟩ : ∃ e, es = [e] := by
        match es, hle with
        | [e], _ => exact ⟨e, rfl⟩
        | [], h => rw [List.length_nil] at h; omega
        | e :: e2 :: r, h => rw [List.length_cons, List.length_cons] at h; omega
      match xs, hX with
      | [v], .cons hv .nil =>
      have s1 : ∀ g : E → Nat, sumB g [e] = g e := fun g => by
        show (g e) + 0 = _
        omega
      rw [s1] at b3 b4 b5 b6
      have hok := b2 e (List.mem_singleton.mpr rfl)
      exact ⟨_, rfl, L, _, 0, v, rfl, rfl, SqL.of hx, at_zero, q v H4 e G4 hv hok.1 b3 b4 b5 (by omega) hok.2⟩
end
end My
namespace My
open PySem PySem.Spec PyProof.Rows L2
theorem row_kids (b : Bool) (es : List E) : (rowE b es).kids = es := by cases b <;> rfl
theorem wrap_kids (b : Bool) (e : E) : (wrapE b e).kids = [e] := by cases b <;> rfl
theorem row_places (b : Bool) (es : List E) : (rowE b es).places = E.places.placess es := by
  cases b
  · show E.places (.alt es) = _
    rw [E.places]
  · show E.places (.join es) = _
    rw [E.places]
theorem row_letters (b : Bool) (es : List E) : (rowE b es).letters = E.letters.letterss es := by
  cases b
  · show E.letters (.alt es) = _
    rw [E.letters]
  · show E.letters (.join es) = _
    rw [E.letters]
theorem wrap_letters (b : Bool) (e : E) : (wrapE b e).letters = e.letters := by
  cases b
  · show E.letters (.maybe e) = _
    rw [E.letters]
  · show E.letters (.many e) = _
    rw [E.letters]
theorem node2 {H : Hp} {v : V} {e : E} (hok : e.ok = true) (hR : Rep H v e.toD) (hs : ¬ isStr e.toD = true) : ∃ (w : Str) (p : Addr) (x : V), v = .ref p ∧ H p = some (.tup [.str w, x]) ∧ w.length ≤ 1000 ∧
    ((inV (V.str w) [V.str sMaybe, V.str sMany] = true ∧ ∃ b k, w = wrapW b ∧ e = wrapE b k ∧ Rep H x k.toD ∧ k.ok = true ∧ k.depth + 1 ≤ e.depth) ∨
     (inV (V.str w) [V.str sMaybe, V.str sMany] = false ∧ ∃ b es p2 xs, w = rowW b ∧ e = rowE b es ∧ x = .ref p2 ∧ H p2 = some (.tup xs) ∧ xs.length ≤ 100000 ∧ Two (Rep H) xs (es.map E.toD) ∧ ∀ k ∈ es, k.ok = true ∧ k.depth + 1 ≤ e.depth)) := by
  obtain ⟨w, y, p, x, hw, hv, hp, hx, h⟩ := node_of hok hR hs
  refine ⟨w, p, x, hv, hp, hw, ?_⟩
  have kd : ∀ k ∈ e.kids, k.ok = true ∧ k.depth + 1 ≤ e.depth := fun k hk => ⟨ok_kids hok k hk, depth_kids e k hk⟩
  rcases h with (⟨rfl, k, rfl, rfl⟩ | ⟨rfl, k, rfl, rfl⟩) | (⟨rfl, es, rfl, h2, rfl⟩ | ⟨rfl, es, rfl, h2, rfl⟩)
  · exact .inl ⟨by decide +kernel, false, k, rfl, rfl, hx, kd k (by rw [E.kids]; exact List.mem_singleton.mpr rfl)⟩
  · exact .inl ⟨by decide +kernel, true, k, rfl, rfl, hx, kd k (by rw [E.kids]; exact List.mem_singleton.mpr rfl)⟩
  · obtain ⟨p2, xs, h3, h4, h5, h6⟩ := hx.untup
    exact .inr ⟨by decide +kernel, true, es, p2, xs, rfl, rfl, h3, h4, h5, h6, kd⟩
  · obtain ⟨p2, xs, h3, h4, h5, h6⟩ := hx.untup
    exact .inr ⟨by decide +kernel, false, es, p2, xs, rfl, rfl, h3, h4, h5, h6, kd⟩
/-- a leaf is its letters -/
theorem leaf2 {H : Hp} {v : V} {e : E} (hR : Rep H v e.toD) (hs : isStr e.toD = true) : ∃ z : Str, v = .str z ∧ z.cps.toList = e.letters ∧ z.length = e.places ∧ ((z = sNo ∧ e = .eps) ∨ ∃ c, z = ⟨#[c]⟩ ∧ e = .sym c) := by
  cases e with
  | eps =>
    rw [E.toD] at hR
    cases hR with
    | str h => exact ⟨_, rfl, by decide +kernel, by decide +kernel, .inl ⟨rfl, rfl⟩⟩
  | sym c =>
    rw [E.toD] at hR
    cases hR with
    | str h => exact ⟨_, rfl, rfl, rfl, .inr ⟨c, rfl, rfl⟩⟩
  | maybe k => exact absurd hs (by rw [E.toD]; intro c; cases c)
  | many k => exact absurd hs (by rw [E.toD]; intro c; cases c)
  | join es => exact absurd hs (by rw [E.toD]; intro c; cases c)
  | alt es => exact absurd hs (by rw [E.toD]; intro c; cases c)
def spLet2 (n : Nat) : Sp := fun vs H Q _ => ∃ (v : V) (e : E), vs = [v] ∧ e.ok = true ∧ e.depth < n ∧ e.places ≤ 1000 ∧ Rep H v e.toD ∧ ∀ (z : Str) H', Same H H' → z.cps.toList = e.letters → z.length = e.places → Q (.str z) H'
theorem len_toL (z : Str) : z.cps.toList.length = z.length := Array.length_toList
section
variable {P : Program} {w : World} {K : PySem.W.Frag} {mg : Str → Option Value} {base : Heap} {a_BOUNDS a_LONG_BOUNDS : Addr} {tL tM : Tok}
end
end My
namespace My
open PySem PySem.Spec PyProof.Rows L2
/-! ### depth and parts as the statements count them -/
theorem row_depth (b : Bool) (es : List E) : (rowE b es).depth = E.depth.depths es + 1 := by
  cases b
  · show E.depth (.alt es) = _
    rw [E.depth]
  · show E.depth (.join es) = _
    rw [E.depth]
theorem row_parts (b : Bool) (es : List E) : (rowE b es).parts = (es.map E.parts).sum + 1 := by
  cases b
  · show E.parts (.alt es) = _
    rw [E.parts, partss_eq]
  · show E.parts (.join es) = _
    rw [E.parts, partss_eq]
theorem wrap_depth (b : Bool) (e : E) : (wrapE b e).depth = e.depth + 1 := by
  cases b
  · show E.depth (.maybe e) = _
    rw [E.depth]
  · show E.depth (.many e) = _
    rw [E.depth]
theorem wrap_parts (b : Bool) (e : E) : (wrapE b e).parts = e.parts + 1 := by
  cases b
  · show E.parts (.maybe e) = _
    rw [E.parts]
  · show E.parts (.many e) = _
    rw [E.parts]
theorem leaf_dp {e : E} (h : isStr e.toD = true) : e.depth = 0 ∧ e.parts = 1 := by
  cases e with
  | eps => exact ⟨rfl, rfl⟩
  | sym c => exact ⟨rfl, rfl⟩
  | maybe k => exact absurd h (by rw [E.toD]; intro c; cases c)
  | many k => exact absurd h (by rw [E.toD]; intro c; cases c)
  | join es => exact absurd h (by rw [E.toD]; intro c; cases c)
  | alt es => exact absurd h (by rw [E.toD]; intro c; cases c)
theorem depths_max {es : List E} {m : Int} (hm : m ∈ es.map fun e => ((e.depth : Nat) : Int)) (hy : ∀ y ∈ es.map (fun e => ((e.depth : Nat) : Int)), y ≤ m) : m = ((E.depth.depths es : Nat) : Int) := by
  obtain ⟨e, he, rfl⟩ := List.mem_map.mp hm
  have h1 : e.depth ≤ E.depth.depths es := by
    clear hm hy
    induction es with
    | nil => cases he
    | cons x es ih =>
      rw [E.depth.depths]
      rcases List.mem_cons.mp he with rfl | h
      · omega
      · have := ih h
        omega
  have h2 : E.depth.depths es ≤ e.depth := depths_le fun x hx => by
    have := hy _ (List.mem_map_of_mem (f := fun e => ((e.depth : Nat) : Int)) hx)
    omega
  omega
theorem sum_casts (es : List E) : (es.map fun e => ((e.parts : Nat) : Int)).sum = (((es.map E.parts).sum : Nat) : Int) := by
  induction es with
  | nil => rfl
  | cons e es ih =>
    rw [List.map_cons, List.map_cons, List.sum_cons, List.sum_cons, ih]
    omega
def spDepA (n : Nat) : Sp := fun vs H Q _ => ∃ (v : V) (e : E), vs = [v] ∧ e.ok = true ∧ e.depth < n ∧ Rep H v e.toD ∧ ∀ H', Same H H' → Q (.int e.depth) H'
def spPrtA (n : Nat) : Sp := fun vs H Q _ => ∃ (v : V) (e : E), vs = [v] ∧ e.ok = true ∧ e.depth < n ∧ Rep H v e.toD ∧ ∀ H', Same H H' → Q (.int e.parts) H'
def spSomeA : Sp := fun vs H Q _ => ∃ (a : Addr) (z : Str) (most : Nat), vs = [.ref a, .str z, .int most] ∧ Strm H a ∧ 2 ≤ most ∧ most ≤ 8 ∧ Lets z ∧ ∀ v H' (e : E), Go a H H' → Rep H' v e.toD → Esh e → 1 ≤ e.places → e.places ≤ most → LetIn z e → Q v H'
theorem esh_of {e : E} (h : e.ok = true) (h1 : e.depth ≤ 6) (h2 : e.places ≤ 8) (h3 : e.parts ≤ 24) : Esh e := ⟨h, h1, h2, h3, by have := (cnt h).s; omega⟩
theorem at_lastN {xs : List Nat} {c : Nat} (h : xs.getLast? = some c) : atI xs (-1) = some c := by
  rw [List.getLast?_eq_getElem?] at h
  have hl := (List.getElem?_eq_some_iff.mp h).1
  have e : ixN xs.length (-1) = some (xs.length - 1) := by
    unfold ixN
    have h1 : ¬ (0 : Int) ≤ -1 := by omega
    rw [if_neg h1]
    have h2 : -(xs.length : Int) ≤ -1 := by omega
    rw [if_pos h2]
    congr 1
    omega
  unfold atI
  rw [e]
  exact h
theorem fall_esh {c0 c1 : Nat} (h0 : 97 ≤ c0 ∧ c0 ≤ 100) (h1 : 97 ≤ c1 ∧ c1 ≤ 100) : Esh (.join [.sym c0, .many (.sym c1)]) := by
  refine esh_of ?_ (by show 2 ≤ 6; decide) (by show 2 ≤ 8; decide) (by show 4 ≤ 24; decide)
  have a0 : (E.sym c0).ok = true := by rw [E.ok, decide_eq_true h0.1, decide_eq_true h0.2]; rfl
  have a1 : (E.many (.sym c1)).ok = true := by rw [E.ok, E.ok, decide_eq_true h1.1, decide_eq_true h1.2]; rfl
  rw [E.ok, oks_eq]
  simp only [List.all_cons, List.all_nil, a0, a1]
  rfl
theorem fall_in {z : Str} {c0 c1 : Nat} (h0 : c0 ∈ z.cps.toList) (h1 : c1 ∈ z.cps.toList) : LetIn z (.join [.sym c0, .many (.sym c1)]) := by
  intro c hc
  have e : E.letters (.join [.sym c0, .many (.sym c1)]) = [c0, c1] := rfl
  rw [e] at hc
  rcases List.mem_cons.mp hc with rfl | hc
  · exact h0
  · rw [List.mem_singleton] at hc
    rw [hc]
    exact h1
theorem fall_rep {H : Hp} {p1 p2 p3 : Addr} {c0 c1 : Nat} (h3 : H p3 = some (.tup [V.str sMany, .str ⟨#[c1]⟩])) (h2 : H p2 = some (.tup [V.str ⟨#[c0]⟩, .ref p3])) (h1 : H p1 = some (.tup [V.str sJoin, .ref p2])) : Rep H (.ref p1) (E.toD (.join [.sym c0, .many (.sym c1)])) := by
  rw [E.toD, toDs_eq]
  refine Rep.tup2 h1 (by show 2 ≤ 100000; decide) (.cons (.str (by decide +kernel)) (.cons (Rep.tup2 h2 (by show 2 ≤ 100000; decide) (.cons (rep_sym c0) (.cons ?_ .nil))) .nil))
  rw [E.toD]
  exact Rep.tup2 h3 (by show 2 ≤ 100000; decide) (.cons (.str (by decide +kernel)) (.cons (rep_sym c1) .nil))
section
variable {P : Program} {w : World} {K : PySem.W.Frag} {mg : Str → Option Value} {base : Heap} {a_BOUNDS a_LONG_BOUNDS : Addr} {tL tM : Tok}
abbrev N__law_depth : List Str := ["expression", "part"]
theorem sc__law_depth : FnScope ["expression", "part"] ["expression"] (defScope s__law_depth) := ⟨rfl, rfl, rfl, by decide +kernel, rfl, by decide +kernel, by decide +kernel⟩
theorem ok_depA_step {f : Addr} {fd : FuncData} (B : Bt K mg a_BOUNDS a_LONG_BOUNDS tL tM) (Dd : Df K mg "_law_depth" s__law_depth ["expression"] f fd) (n : Nat)
    (G_law_depth : Cl P w K mg base n "_law_depth" ["expression"] (spDepA n)) : FnOk P w K mg base CX0 (n + 1) f fd ["expression"] (spDepA (n + 1)) := by
  refine Dd.F.ok sc__law_depth (fun vs H Q Ex h => ?_) (fun cdv A outer s H vs Q Ex hr h => ?_)
  · obtain ⟨v, e, rfl, _⟩ := h
    rfl
  obtain ⟨v, e, rfl, hok, hd, hR, q⟩ := h
  refine ⟨_, (pss_cons (ps_if (pt_val (pe_callB call_isi rfl B.b_isinstance boot_isinstance (pa_cons (pv 0) (pa_cons (pe_bltn (v := .ty "str") rfl B.b_str boot_str rfl) pa_nil)))) (pss_one (ps_ret pe_int)) pss_nil)
    (pss_cons (ps_if (pt_cmpR op_in_seq (pe_ix (r := rIxT K) ix_tup (pv 0) pe_int (fun _ _ => rfl)) (pe_lst (pa_cons pe_str (pa_cons pe_str pa_nil))) rfl) (pss_one (ps_ret (pe_op op_add pe_int (pe_cl G_law_depth (hr.mono (by omega)) rfl (pa_cons (pe_ix (r := rIxT K) ix_tup (pv 0) pe_int (fun _ _ => rfl)) pa_nil))))) pss_nil)
    (pss_one (ps_ret (pe_op op_add pe_int (pe_callB (cr_max rfl) rfl B.b_max boot_max (pa_cons (pe_lc (own := [("part", 1)]) (g := gName 1) (tt := tYes) rfl sc__law_depth.nd (pi_tup (pe_ix (r := rIxT K) ix_tup (pv 0) pe_int (fun _ _ => rfl))) (blkOk_by (N := N__law_depth) (sc := defScope s__law_depth) (by decide +kernel)) (fun _ _ _ _ _ => pg_name (i := 1) sc__law_depth.nd rfl (Or.inl rfl)) (fun _ _ _ _ _ => pts_nil) (fun _ _ _ _ _ => (pe_cl G_law_depth (hr.mono (by omega)) rfl (pa_cons (pv 1) pa_nil)))) pa_nil))))))), ?_⟩
  obtain ⟨t, ht, k1, _⟩ := hR.ty (K := K)
  refine ⟨_, rfl, _, _, _, _, _, rfl, .ty _, ht, k1, _, rfl, ite2 (fun e1 => ?_) (fun e1 => ?_)⟩
  · have h := q H (Same.refl H)
    rw [(leaf_dp e1).1] at h
    exact h
  obtain ⟨w', p, x, rfl, hp, hw, hk⟩ := node2 hok hR e1
  refine ⟨_, rfl, p, _, 0, _, rfl, rfl, SqT.of hp, at_zero, (by show 2 ≤ sizeLine; decide), fun l hl => ⟨l, _, rfl, .inl (SqL.of upd_same), rfl, rfl, _, rfl, ?_⟩⟩
  have hp2 : (upd H l (.lst [V.str sMaybe, V.str sMany])) p = some (.tup [.str w', x]) := (same_upd hl) _ _ hp
  refine ite2 (fun e2 => ?_) (fun e2 => ?_)
  · obtain ⟨_, b, k, rfl, rfl, hx, hko, hkd⟩ := hk.resolve_right fun c => by
      have e3 : inV (V.str w') [V.str sMaybe, V.str sMany] = true := e2
      rw [c.1] at e3
      cases e3
    refine ⟨_, rfl, p, _, 1, x, rfl, rfl, SqT.of hp2, at_one, x, k, rfl, hko, by omega, hx.pers (Pers.new hl), fun H3 s3 => ⟨_, _, rfl, rfl, ?_⟩⟩
    have h := q H3 ((same_upd hl).trans s3)
    rw [wrap_depth] at h
    show Q (V.int (1 + (k.depth : Int))) H3
    rw [show (1 : Int) + (k.depth : Int) = ((k.depth + 1 : Nat) : Int) by omega]
    exact h
  · obtain ⟨_, b, es, p2, xs, rfl, rfl, rfl, h4, h5, hX, hks⟩ := hk.resolve_left fun c => e2 c.1
    have hl2 := hX.len
    rw [List.length_map] at hl2
    have hX1 : Two (Rep (upd H l (.lst [V.str sMaybe, V.str sMany]))) xs (es.map E.toD) := Rep.pers2 (Pers.new hl) hX
    have h41 := (same_upd (o := .lst [V.str sMaybe, V.str sMany]) hl) _ _ h4
    have hne : 0 < es.length := by
      have h2 : 2 ≤ es.length := by
        cases b
        · have := hok
          unfold rowE at this
          rw [if_neg (by decide), E.ok] at this
          simp only [Bool.and_eq_true, decide_eq_true_eq] at this
          exact this.1.1
        · have := hok
          unfold rowE at this
          rw [if_pos rfl, E.ok] at this
          simp only [Bool.and_eq_true, decide_eq_true_eq] at this
          exact this.1.1
      omega
    refine ⟨_, rfl, p, _, 1, _, rfl, rfl, SqT.of hp2, at_one, p2, rfl, ⟨_, SqT.of h41⟩, fun L hL => ?_⟩
    refine lc_tup (K := K) (a := p2) (xs := xs) (fun i H2 => Same (upd H l (.lst [V.str sMaybe, V.str sMany])) H2 ∧ H2 L = some (.lst (((es.take i).map fun e => ((e.depth : Nat) : Int)).map V.int))) ⟨same_upd hL, upd_same⟩ (fun i H2 _ h => SqT.of (h.1 _ _ h41)) (fun i x H2 hx h => ?_) (fun H2 h => ?_)
    · obtain ⟨h0, h2⟩ := h
      obtain ⟨d, hd1, hxd⟩ := hX1.get hx
      rw [List.getElem?_map] at hd1
      obtain ⟨k, hk, rfl⟩ := Option.map_eq_some_iff.mp hd1
      have hix : i < xs.length := (List.getElem?_eq_some_iff.mp hx).1
      obtain ⟨hk1, hk2⟩ := hks k (List.mem_of_getElem? hk)
      refine ⟨rfl, tyes ⟨_, rfl, x, k, rfl, hk1, by omega, hxd.pers (Pers.same h0), fun H3 s3 => ⟨_, s3 _ _ h2, ?_, ?_, ?_⟩⟩⟩
      · rw [List.length_map, List.length_map, List.length_take]
        exact Nat.lt_of_le_of_lt (m := 100000) (by omega) (by decide)
      · exact fun b o e => by rw [upd_ne (ne_of_none e hL)]; exact s3 _ _ (h0 b o e)
      · rw [upd_same, take_snoc hk, List.map_append, List.map_append]
        rfl
    · obtain ⟨h0, h2⟩ := h
      rw [hl2, List.take_length] at h2
      refine ⟨L, _, rfl, SqL.of h2, by rw [List.length_map]; exact hne, fun m hm hy => ⟨_, _, rfl, rfl, ?_⟩⟩
      have h := q H2 ((same_upd hl).trans h0)
      rw [row_depth] at h
      rw [depths_max hm hy]
      show Q (V.int (1 + ((E.depth.depths es : Nat) : Int))) H2
      rw [show (1 : Int) + ((E.depth.depths es : Nat) : Int) = ((E.depth.depths es + 1 : Nat) : Int) by omega]
      exact h
abbrev N__law_parts : List Str := ["expression", "part"]
theorem sc__law_parts : FnScope ["expression", "part"] ["expression"] (defScope s__law_parts) := ⟨rfl, rfl, rfl, by decide +kernel, rfl, by decide +kernel, by decide +kernel⟩
theorem ok_prtA_step {f : Addr} {fd : FuncData} (B : Bt K mg a_BOUNDS a_LONG_BOUNDS tL tM) (Dd : Df K mg "_law_parts" s__law_parts ["expression"] f fd) (n : Nat)
    (G_law_parts : Cl P w K mg base n "_law_parts" ["expression"] (spPrtA n)) : FnOk P w K mg base CX0 (n + 1) f fd ["expression"] (spPrtA (n + 1)) := by
  refine Dd.F.ok sc__law_parts (fun vs H Q Ex h => ?_) (fun cdv A outer s H vs Q Ex hr h => ?_)
  · obtain ⟨v, e, rfl, _⟩ := h
    rfl
  obtain ⟨v, e, rfl, hok, hd, hR, q⟩ := h
  refine ⟨_, (pss_cons (ps_if (pt_val (pe_callB call_isi rfl B.b_isinstance boot_isinstance (pa_cons (pv 0) (pa_cons (pe_bltn (v := .ty "str") rfl B.b_str boot_str rfl) pa_nil)))) (pss_one (ps_ret pe_int)) pss_nil)
    (pss_cons (ps_if (pt_cmpR op_in_seq (pe_ix (r := rIxT K) ix_tup (pv 0) pe_int (fun _ _ => rfl)) (pe_lst (pa_cons pe_str (pa_cons pe_str pa_nil))) rfl) (pss_one (ps_ret (pe_op op_add pe_int (pe_cl G_law_parts (hr.mono (by omega)) rfl (pa_cons (pe_ix (r := rIxT K) ix_tup (pv 0) pe_int (fun _ _ => rfl)) pa_nil))))) pss_nil)
    (pss_one (ps_ret (pe_op op_add pe_int (pe_callB (cr_sum rfl) rfl B.b_sum boot_sum (pa_cons (pe_lc (own := [("part", 1)]) (g := gName 1) (tt := tYes) rfl sc__law_parts.nd (pi_tup (pe_ix (r := rIxT K) ix_tup (pv 0) pe_int (fun _ _ => rfl))) (blkOk_by (N := N__law_parts) (sc := defScope s__law_parts) (by decide +kernel)) (fun _ _ _ _ _ => pg_name (i := 1) sc__law_parts.nd rfl (Or.inl rfl)) (fun _ _ _ _ _ => pts_nil) (fun _ _ _ _ _ => (pe_cl G_law_parts (hr.mono (by omega)) rfl (pa_cons (pv 1) pa_nil)))) pa_nil))))))), ?_⟩
  obtain ⟨t, ht, k1, _⟩ := hR.ty (K := K)
  refine ⟨_, rfl, _, _, _, _, _, rfl, .ty _, ht, k1, _, rfl, ite2 (fun e1 => ?_) (fun e1 => ?_)⟩
  · have h := q H (Same.refl H)
    rw [(leaf_dp e1).2] at h
    exact h
  obtain ⟨w', p, x, rfl, hp, hw, hk⟩ := node2 hok hR e1
  refine ⟨_, rfl, p, _, 0, _, rfl, rfl, SqT.of hp, at_zero, (by show 2 ≤ sizeLine; decide), fun l hl => ⟨l, _, rfl, .inl (SqL.of upd_same), rfl, rfl, _, rfl, ?_⟩⟩
  have hp2 : (upd H l (.lst [V.str sMaybe, V.str sMany])) p = some (.tup [.str w', x]) := (same_upd hl) _ _ hp
  refine ite2 (fun e2 => ?_) (fun e2 => ?_)
  · obtain ⟨_, b, k, rfl, rfl, hx, hko, hkd⟩ := hk.resolve_right fun c => by
      have e3 : inV (V.str w') [V.str sMaybe, V.str sMany] = true := e2
      rw [c.1] at e3
      cases e3
    refine ⟨_, rfl, p, _, 1, x, rfl, rfl, SqT.of hp2, at_one, x, k, rfl, hko, by omega, hx.pers (Pers.new hl), fun H3 s3 => ⟨_, _, rfl, rfl, ?_⟩⟩
    have h := q H3 ((same_upd hl).trans s3)
    rw [wrap_parts] at h
    show Q (V.int (1 + (k.parts : Int))) H3
    rw [show (1 : Int) + (k.parts : Int) = ((k.parts + 1 : Nat) : Int) by omega]
    exact h
  · obtain ⟨_, b, es, p2, xs, rfl, rfl, rfl, h4, h5, hX, hks⟩ := hk.resolve_left fun c => e2 c.1
    have hl2 := hX.len
    rw [List.length_map] at hl2
    have hX1 : Two (Rep (upd H l (.lst [V.str sMaybe, V.str sMany]))) xs (es.map E.toD) := Rep.pers2 (Pers.new hl) hX
    have h41 := (same_upd (o := .lst [V.str sMaybe, V.str sMany]) hl) _ _ h4
    refine ⟨_, rfl, p, _, 1, _, rfl, rfl, SqT.of hp2, at_one, p2, rfl, ⟨_, SqT.of h41⟩, fun L hL => ?_⟩
    refine lc_tup (K := K) (a := p2) (xs := xs) (fun i H2 => Same (upd H l (.lst [V.str sMaybe, V.str sMany])) H2 ∧ H2 L = some (.lst (((es.take i).map fun e => ((e.parts : Nat) : Int)).map V.int))) ⟨same_upd hL, upd_same⟩ (fun i H2 _ h => SqT.of (h.1 _ _ h41)) (fun i x H2 hx h => ?_) (fun H2 h => ?_)
    · obtain ⟨h0, h2⟩ := h
      obtain ⟨d, hd1, hxd⟩ := hX1.get hx
      rw [List.getElem?_map] at hd1
      obtain ⟨k, hk, rfl⟩ := Option.map_eq_some_iff.mp hd1
      have hix : i < xs.length := (List.getElem?_eq_some_iff.mp hx).1
      obtain ⟨hk1, hk2⟩ := hks k (List.mem_of_getElem? hk)
      refine ⟨rfl, tyes ⟨_, rfl, x, k, rfl, hk1, by omega, hxd.pers (Pers.same h0), fun H3 s3 => ⟨_, s3 _ _ h2, ?_, ?_, ?_⟩⟩⟩
      · rw [List.length_map, List.length_map, List.length_take]
        exact Nat.lt_of_le_of_lt (m := 100000) (by omega) (by decide)
      · exact fun b o e => by rw [upd_ne (ne_of_none e hL)]; exact s3 _ _ (h0 b o e)
      · rw [upd_same, take_snoc hk, List.map_append, List.map_append]
        rfl
    · obtain ⟨h0, h2⟩ := h
      rw [hl2, List.take_length] at h2
      refine ⟨L, _, rfl, SqL.of h2, _, _, rfl, rfl, ?_⟩
      have h := q H2 ((same_upd hl).trans h0)
      rw [row_parts] at h
      show Q (V.int (1 + (es.map fun e => ((e.parts : Nat) : Int)).sum)) H2
      rw [sum_casts, show (1 : Int) + (((es.map E.parts).sum : Nat) : Int) = (((es.map E.parts).sum + 1 : Nat) : Int) by omega]
      exact h
abbrev N__law_some : List Str := ["stream", "letters", "most", "expression"]
theorem sc__law_some : FnScope ["stream", "letters", "most", "expression"] ["stream", "letters", "most"] (defScope s__law_some) := ⟨rfl, rfl, rfl, by decide +kernel, rfl, by decide +kernel, by decide +kernel⟩
theorem ok_someA {f : Addr} {fd : FuncData} (B : Bt K mg a_BOUNDS a_LONG_BOUNDS tL tM) (Dd : Df K mg "_law_some" s__law_some ["stream", "letters", "most"] f fd) (G_law_expression : Cl P w K mg base 2 "_law_expression" ["stream", "letters", "most"] spExpA) (G_law_depth : Cl P w K mg base 22 "_law_depth" ["expression"] (spDepA 22)) (G_law_parts : Cl P w K mg base 22 "_law_parts" ["expression"] (spPrtA 22)) : FnOk P w K mg base CX0 23 f fd ["stream", "letters", "most"] spSomeA := by
  refine Dd.F.ok sc__law_some (fun vs H Q Ex h => ?_) (fun cdv A outer s H vs Q Ex hr h => ?_)
  · obtain ⟨a, z, most, rfl, _⟩ := h
    rfl
  obtain ⟨a, z, most, rfl, hS, hm2, hm8, hz, q⟩ := h
  refine ⟨_, (pss_cons (ps_set (i := 3) sc__law_some.nd rfl (Or.inl rfl) (pe_cl G_law_expression (hr.mono (by omega)) rfl (pa_cons (pv 0) (pa_cons (pv 1) (pa_cons (pv 2) pa_nil)))))
    (pss_cons (ps_if (PW.pt (pw_or (pt_cmpR op_gt (pe_cl G_law_depth (hr.mono (by omega)) rfl (pa_cons (pv 3) pa_nil)) pe_int (nomark _)) (pw_or1 (pt_cmpR op_gt (pe_cl G_law_parts (hr.mono (by omega)) rfl (pa_cons (pv 3) pa_nil)) pe_int (nomark _))))) (pss_one (ps_ret (pe_tup (pa_cons pe_str (pa_cons (pe_tup (pa_cons (pe_ix ix_str (pv 1) pe_int (fun _ _ => rfl)) (pa_cons (pe_tup (pa_cons pe_str (pa_cons (pe_ix ix_str (pv 1) (pe_un un_neg pe_int) (fun _ _ => rfl)) pa_nil))) pa_nil))) pa_nil))))) pss_nil)
    (pss_one (ps_ret (pv 3))))), ?_⟩
  refine ⟨_, rfl, _, rfl, _, rfl, a, z, most, rfl, hS, by omega, by omega, hz, fun v H1 e g1 hR hok hp1 hp2 hlv hwr hin => ?_⟩
  have hc := cnt hok
  have hd := hc.d
  refine ⟨_, rfl, v, e, rfl, hok, by omega, hR, fun H2 s2 => ⟨_, _, rfl, rfl, _, rfl, ite2 (fun cc => ?_) (fun cc => ?_)⟩⟩
  · have gX := g1.trans (Go.same g1.st s2)
    obtain ⟨c0, hc0⟩ : ∃ c, z.cps.toList[0]? = some c := ⟨_, List.getElem?_eq_getElem (by rw [len_toList2]; exact hz.1)⟩
    obtain ⟨c1, hc1⟩ : ∃ c, z.cps.toList.getLast? = some c := by
      cases hl : z.cps.toList.getLast? with
      | none =>
        rw [List.getLast?_eq_none_iff] at hl
        rw [hl] at hc0
        cases hc0
      | some c => exact ⟨c, rfl⟩
    have l0 := hz.2.2 c0 (List.mem_of_getElem? hc0)
    have l1 := hz.2.2 c1 (List.mem_of_getLast? hc1)
    refine ⟨_, rfl, z, 0, c0, rfl, rfl, Nat.le_trans hz.2.1 (by decide), atI_nat hc0, _, rfl, _, rfl, z, -1, c1, rfl, rfl, Nat.le_trans hz.2.1 (by decide), at_lastN hc1, by show 2 ≤ sizeLine; decide, fun p3 hp3 => ⟨by show 2 ≤ sizeLine; decide, fun p2 hp2 => ⟨by show 2 ≤ sizeLine; decide, fun p1 hp1 => ?_⟩⟩⟩
    have s3 := same_upd (o := .tup [V.str sMany, .str ⟨#[c1]⟩]) hp3
    have s4 := same_upd (o := .tup [V.str ⟨#[c0]⟩, .ref p3]) hp2
    have s5 := same_upd (o := .tup [V.str sJoin, .ref p2]) hp1
    refine q _ _ (.join [.sym c0, .many (.sym c1)]) ((gX.trans (Go.new gX.st hp3)).trans (Go.same (Go.new gX.st hp3).st (s4.trans s5))) ?_ (fall_esh l0 l1) (by show 1 ≤ 2; decide) (by show 2 ≤ most; exact hm2) (fall_in (List.mem_of_getElem? hc0) (List.mem_of_getLast? hc1))
    exact fall_rep (s5 _ _ (s4 _ _ upd_same)) (s5 _ _ upd_same) upd_same
  refine ⟨_, rfl, v, e, rfl, hok, by omega, hR.pers (Pers.same s2), fun H3 s3 => ⟨_, _, rfl, rfl, _, rfl, ite2 (fun cd => ?_) (fun cd => ?_)⟩⟩
  · have gX := g1.trans (Go.same g1.st (s2.trans s3))
    obtain ⟨c0, hc0⟩ : ∃ c, z.cps.toList[0]? = some c := ⟨_, List.getElem?_eq_getElem (by rw [len_toList2]; exact hz.1)⟩
    obtain ⟨c1, hc1⟩ : ∃ c, z.cps.toList.getLast? = some c := by
      cases hl : z.cps.toList.getLast? with
      | none =>
        rw [List.getLast?_eq_none_iff] at hl
        rw [hl] at hc0
        cases hc0
      | some c => exact ⟨c, rfl⟩
    have l0 := hz.2.2 c0 (List.mem_of_getElem? hc0)
    have l1 := hz.2.2 c1 (List.mem_of_getLast? hc1)
    refine ⟨_, rfl, z, 0, c0, rfl, rfl, Nat.le_trans hz.2.1 (by decide), atI_nat hc0, _, rfl, _, rfl, z, -1, c1, rfl, rfl, Nat.le_trans hz.2.1 (by decide), at_lastN hc1, by show 2 ≤ sizeLine; decide, fun p3 hp3 => ⟨by show 2 ≤ sizeLine; decide, fun p2 hp2 => ⟨by show 2 ≤ sizeLine; decide, fun p1 hp1 => ?_⟩⟩⟩
    have s3 := same_upd (o := .tup [V.str sMany, .str ⟨#[c1]⟩]) hp3
    have s4 := same_upd (o := .tup [V.str ⟨#[c0]⟩, .ref p3]) hp2
    have s5 := same_upd (o := .tup [V.str sJoin, .ref p2]) hp1
    refine q _ _ (.join [.sym c0, .many (.sym c1)]) ((gX.trans (Go.new gX.st hp3)).trans (Go.same (Go.new gX.st hp3).st (s4.trans s5))) ?_ (fall_esh l0 l1) (by show 1 ≤ 2; decide) (by show 2 ≤ most; exact hm2) (fall_in (List.mem_of_getElem? hc0) (List.mem_of_getLast? hc1))
    exact fall_rep (s5 _ _ (s4 _ _ upd_same)) (s5 _ _ upd_same) upd_same
  · have h6 : e.depth ≤ 6 := by
      have : ¬ (6 : Int) < (e.depth : Int) := fun h => cc (decide_eq_true h)
      omega
    have h24 : e.parts ≤ 24 := by
      have : ¬ (24 : Int) < (e.parts : Int) := fun h => cd (decide_eq_true h)
      omega
    exact ⟨_, rfl, q v H3 e (g1.trans (Go.same g1.st (s2.trans s3))) (hR.pers (Pers.same (s2.trans s3))) (esh_of hok h6 (by omega) h24) hp1 hp2 hin⟩
end
end My
namespace My
open PySem PySem.Spec PyProof.Rows L2
theorem _root_.L2.Room.u65 {k : Nat} {A : Around} (r : Room k A) : A.units + 65 < cLine := by
  have := r.un
  omega
def PairsL (H : Hp) (vs : List V) (ij : List (Nat × Nat)) : Prop := Two (fun v x => ∃ q : Addr, v = V.ref q ∧ H q = some (.tup [.int ((x.1 : Nat) : Int), .int ((x.2 : Nat) : Int)])) vs ij
theorem PairsL.same {H H' : Hp} {vs : List V} {ij : List (Nat × Nat)} (s : Same H H') (h : PairsL H vs ij) : PairsL H' vs ij := h.mono fun v x ⟨q, e, h⟩ => ⟨q, e, s _ _ h⟩
theorem PairsL.upd {H : Hp} {vs : List V} {ij : List (Nat × Nat)} {L : Addr} {zs ys : List V} (hL : H L = some (.lst zs)) (h : PairsL H vs ij) : PairsL (upd H L (.lst ys)) vs ij := h.mono fun v x ⟨q, e, h⟩ => ⟨q, e, by rw [upd_ne fun c => by rw [c, hL] at h; cases h]; exact h⟩
structure PairsAt (H : Hp) (p : Addr) (ij : List (Nat × Nat)) : Prop where
  ex : ∃ vs : List V, H p = some (.lst vs) ∧ PairsL H vs ij
theorem PairsAt.same {H H' : Hp} {p : Addr} {ij : List (Nat × Nat)} (s : Same H H') (h : PairsAt H p ij) : PairsAt H' p ij := by
  obtain ⟨vs, h1, h2⟩ := h.ex
  exact ⟨vs, s _ _ h1, h2.same s⟩
theorem PairsL.push {H : Hp} {L q : Addr} {acc : List V} {ij : List (Nat × Nat)} {x : Nat × Nat} (h1 : H L = some (.lst acc)) (h2 : PairsL H acc ij) (hq : H q = some (.tup [.int ((x.1 : Nat) : Int), .int ((x.2 : Nat) : Int)])) : PairsAt (L2.upd H L (.lst (acc ++ [.ref q]))) L (ij ++ [x]) :=
  ⟨_, upd_same, Two.app (PairsL.upd h1 h2) (.cons ⟨q, rfl, by rw [upd_ne fun c => by rw [c, h1] at hq; cases hq]; exact hq⟩ .nil)⟩
theorem PairsL.cat {H : Hp} {p : Addr} {vs ws : List V} {ij kl : List (Nat × Nat)} (hp : H p = none) (h1 : PairsL H vs ij) (h2 : PairsL H ws kl) : PairsAt (L2.upd H p (.lst (vs ++ ws))) p (ij ++ kl) :=
  ⟨_, upd_same, Two.app (h1.same (same_upd hp)) (h2.same (same_upd hp))⟩
theorem natsV_get {xs : List Nat} {m : Nat} {y : V} (h : (natsV xs)[m]? = some y) : ∃ i, xs[m]? = some i ∧ y = .int (i : Int) := by
  unfold natsV at h
  rw [List.getElem?_map] at h
  obtain ⟨i, h1, rfl⟩ := Option.map_eq_some_iff.mp h
  exact ⟨i, h1, rfl⟩
theorem prodL_snoc {xs ys : List Nat} {m i : Nat} (h : xs[m]? = some i) : prodL (xs.take (m + 1)) ys = prodL (xs.take m) ys ++ ys.map fun j => (i, j) := by
  unfold prodL
  rw [take_snoc h, List.map_append, List.flatten_append]
  simp
def pd (x : Nat × Nat) : PyData := .tuple [.int ((x.1 : Nat) : Int), .int ((x.2 : Nat) : Int)]
theorem pd_dp {K : PySem.W.Frag} {H : Hp} {q : Addr} {x : Nat × Nat} (h : H q = some (.tup [.int ((x.1 : Nat) : Int), .int ((x.2 : Nat) : Int)])) : Dp K H (.ref q) (pd x) := .tup (SqT.of h) (.cons (.int _) (.cons (.int _) .nil))
theorem PairsL.dp {K : PySem.W.Frag} {H : Hp} {vs : List V} {ij : List (Nat × Nat)} (h : PairsL H vs ij) : DpAll K H vs (ij.map pd) := by
  induction h with
  | nil => exact .nil
  | cons h _ ih =>
    obtain ⟨q, rfl, hq⟩ := h
    exact .cons (pd_dp hq) ih
theorem PairsAt.dp {K : PySem.W.Frag} {H : Hp} {p : Addr} {ij : List (Nat × Nat)} (h : PairsAt H p ij) : Dp K H (.ref p) (.list (ij.map pd)) := by
  obtain ⟨vs, h1, h2⟩ := h.ex
  exact .lst (SqL.of h1) h2.dp
theorem pd_shaped (x : Nat × Nat) : SeqAt.shaped (pd x) = true := by
  unfold SeqAt.shaped pd
  simp [PyData.canLay0, PyData.canLayAll0, PyData.depth, PyData.depthAll]
theorem pds_lay : ∀ ij : List (Nat × Nat), PyData.canLayAll0 (ij.map pd) = true ∧ PyData.depthAll (ij.map pd) ≤ 1
  | [] => ⟨rfl, Nat.zero_le _⟩
  | x :: ij => by
    obtain ⟨h1, h2⟩ := pds_lay ij
    rw [List.map_cons, PyData.canLayAll0, PyData.depthAll, h1]
    refine ⟨?_, Nat.max_le.mpr ⟨?_, h2⟩⟩
    · unfold pd
      simp [PyData.canLay0, PyData.canLayAll0]
    · unfold pd
      simp [PyData.depth, PyData.depthAll]
theorem pds_shaped (ij : List (Nat × Nat)) : SeqAt.shaped (.list (ij.map pd)) = true := by
  obtain ⟨h1, h2⟩ := pds_lay ij
  unfold SeqAt.shaped
  rw [PyData.canLay0, PyData.depth, h1, decide_eq_true (by omega)]
  rfl
theorem pd_eqv (x y : Nat × Nat) : PyData.eqv (pd y) (pd x) = decide (x = y) := by
  obtain ⟨a, b⟩ := x
  obtain ⟨c, d⟩ := y
  unfold pd
  simp only [PyData.eqv, PyData.eqvAll, Bool.and_true]
  rw [Bool.eq_iff_iff]
  simp only [Bool.and_eq_true, beq_iff_eq, decide_eq_true_eq, Prod.mk.injEq]
  omega
theorem pd_any (x : Nat × Nat) (ij : List (Nat × Nat)) : ((ij.map pd).any fun z => PyData.eqv z (pd x)) = decide (x ∈ ij) := by
  induction ij with
  | nil => rfl
  | cons y ij ih =>
    rw [List.map_cons, List.any_cons, ih, pd_eqv, ← Bool.decide_or]
    exact decide_eq_decide.mpr List.mem_cons.symm
theorem rg_leaf0 (o : Nat) : rgV (o : Int) ((o : Int) + ((0 : Nat) : Int)) = [] := by
  simp [rgV]
theorem rg_leaf1 (o : Nat) : rgV (o : Int) ((o : Int) + ((1 : Nat) : Int)) = [V.int (o : Int)] := by
  have e : ((o : Int) + ((1 : Nat) : Int) - (o : Int)).toNat = 1 := by omega
  simp [rgV, e]
def gR (b : Bool) (es : List E) (o : Nat) : Gl := if b then gl.glJ es o else gl.glA es o
theorem gl_row (b : Bool) (es : List E) (o : Nat) : gl (rowE b es) o = gR b es o := by
  cases b
  · show gl (.alt es) o = gl.glA es o
    rw [gl]
  · show gl (.join es) o = gl.glJ es o
    rw [gl]
def gStep (b : Bool) (x y : Gl) : Gl := if b then x.seq y else x.par y
theorem gR_snoc (b : Bool) (es : List E) (e : E) (o : Nat) : Eqv (gR b (es ++ [e]) o) (gStep b (gR b es o) (gl e (o + E.places.placess es))) := by
  cases b
  · show Eqv (gl.glA (es ++ [e]) o) ((gl.glA es o).par (gl e (o + E.places.placess es)))
    rw [glA_snoc, ← placess_eq]
    exact Eqv.refl _
  · show Eqv (gl.glJ (es ++ [e]) o) ((gl.glJ es o).seq (gl e (o + E.places.placess es)))
    rw [placess_eq]
    exact glJ_snoc es e o
theorem gR_len (b : Bool) (es : List E) (o : Nat) : Short (gR b es o) (E.places.placess es) := by
  cases b
  · exact glA_len es o
  · exact glJ_len es o
theorem sq_bound {W a b x y z : Nat} (h1 : x ≤ (W + 1) * (a * a)) (h2 : y ≤ (W + 1) * (b * b)) (h3 : z ≤ a * b) : x + y + z ≤ (W + 1) * ((a + b) * (a + b)) := by
  have e : (W + 1) * ((a + b) * (a + b)) = (W + 1) * (a * a) + (W + 1) * (a * b) + ((W + 1) * (b * a) + (W + 1) * (b * b)) := by
    rw [Nat.add_mul a b, Nat.mul_add a, Nat.mul_add b, Nat.mul_add, Nat.mul_add, Nat.mul_add]
  have h4 : a * b ≤ (W + 1) * (a * b) := Nat.le_mul_of_pos_left _ (Nat.succ_pos _)
  rw [e]
  omega
theorem row_wr (b : Bool) (es : List E) : (rowE b es).wr = E.wr.wrs es := by
  cases b
  · show E.wr (.alt es) = _
    rw [E.wr]
  · show E.wr (.join es) = _
    rw [E.wr]
theorem wrs_mem {k : E} : ∀ {es : List E}, k ∈ es → k.wr ≤ E.wr.wrs es
  | e :: es, h => by
    rw [E.wr.wrs]
    rcases List.mem_cons.mp h with rfl | h
    · omega
    · have := wrs_mem h
      omega
theorem app_toL (a b : Str) : (a ++ b).cps.toList = a.cps.toList ++ b.cps.toList := by
  show (a.cps ++ b.cps).toList = _
  exact Array.toList_append
def spAcrA : Sp := fun vs H Q _ => ∃ (l f : Addr) (xs ys : List Nat), vs = [.ref l, .ref f] ∧ H l = some (.lst (natsV xs)) ∧ H f = some (.lst (natsV ys)) ∧ xs.length ≤ 8 ∧ ys.length ≤ 8 ∧ ∀ p H', Same H H' → PairsAt H' p (prodL xs ys) → Q (.ref p) H'
theorem prodL_len (xs ys : List Nat) : (prodL xs ys).length = xs.length * ys.length := by
  unfold prodL
  induction xs with
  | nil => simp
  | cons x xs ih => rw [List.map_cons, List.flatten_cons, List.length_append, ih, List.length_map, List.length_cons, Nat.succ_mul, Nat.add_comm]
structure TabA (H : Hp) (t : Addr) (z : Str) (f l p : Addr) (ij : List (Nat × Nat)) (e : E) (o : Nat) : Prop where
  tp : H t = some (.tup [.str z, .ref f, .ref l, .ref p, .bl (gl e o).nul])
  lt : z.cps.toList = e.letters
  ln : z.length = e.places
  fs : H f = some (.lst (natsV (gl e o).fst))
  ls : H l = some (.lst (natsV (gl e o).lst))
  pr : PairsAt H p ij
  mem : ∀ x, x ∈ ij ↔ x ∈ (gl e o).fol
  len : ij.length + 64 ≤ 128 * e.parts
theorem TabA.same {H H' : Hp} {t : Addr} {z : Str} {f l p : Addr} {ij : List (Nat × Nat)} {e : E} {o : Nat} (s : Same H H') (h : TabA H t z f l p ij e o) : TabA H' t z f l p ij e o :=
  ⟨s _ _ h.tp, h.lt, h.ln, s _ _ h.fs, s _ _ h.ls, h.pr.same s, h.mem, h.len⟩
def spNumdA (n : Nat) : Sp := fun vs H Q _ => ∃ (v : V) (e : E) (o : Nat), vs = [v, .int o] ∧ e.ok = true ∧ e.depth < n ∧ e.places ≤ 8 ∧ e.parts ≤ 1000 ∧ o + e.places ≤ 1000 ∧ Rep H v e.toD ∧
  ∀ (t : Addr) (z : Str) (f l p : Addr) (ij : List (Nat × Nat)) H', Same H H' → TabA H' t z f l p ij e o → Q (.ref t) H'
section
variable {P : Program} {w : World} {K : PySem.W.Frag} {mg : Str → Option Value} {base : Heap} {a_BOUNDS a_LONG_BOUNDS : Addr} {tL tM : Tok}
abbrev N__law_across : List Str := ["last", "first", "found", "place", "after"]
theorem sc__law_across : FnScope ["last", "first", "found", "place", "after"] ["last", "first"] (defScope s__law_across) := ⟨rfl, rfl, rfl, by decide +kernel, rfl, by decide +kernel, by decide +kernel⟩
theorem ok_across {f : Addr} {fd : FuncData} (B : Bt K mg a_BOUNDS a_LONG_BOUNDS tL tM) (Dd : Df K mg "_law_across" s__law_across ["last", "first"] f fd) : FnOk P w K mg base CX0 1 f fd ["last", "first"] spAcrA := by
  refine Dd.F.ok sc__law_across (fun vs H Q Ex h => ?_) (fun cdv A outer s H vs Q Ex hr h => ?_)
  · obtain ⟨l, f, xs, ys, rfl, _⟩ := h
    rfl
  obtain ⟨l, f, xs, ys, rfl, hl, hf, hx8, hy8, q⟩ := h
  refine ⟨_, (pss_cons (ps_set (i := 2) sc__law_across.nd rfl (Or.inl rfl) (pe_lst pa_nil))
    (pss_cons (ps_for PassesOwn.never rfl (pi_list (pv 0)) (pg_name (i := 3) sc__law_across.nd rfl (Or.inr rfl)) (pss_one (ps_set (i := 2) sc__law_across.nd rfl (Or.inl rfl) (pe_op op_cat (pv 2) (pe_lc (own := [("after", 4)]) (g := gName 4) (tt := tYes) rfl sc__law_across.nd (pi_list (pv 1)) (blkOk_by (N := N__law_across) (sc := defScope s__law_across) (by decide +kernel)) (fun _ _ _ _ _ => pg_name (i := 4) sc__law_across.nd rfl (Or.inl rfl)) (fun _ _ _ _ _ => pts_nil) (fun _ _ _ _ _ => (pe_tup (pa_cons (pv 3) (pa_cons (pv 4) pa_nil)))))))))
    (pss_one (ps_ret (pv 2))))), ?_⟩
  refine ⟨by show 0 ≤ sizeLine; decide, fun r0 hr0 => ?_⟩
  have s0 := same_upd (o := .lst []) hr0
  refine ⟨_, rfl, l, rfl, ⟨_, SqL.of (s0 _ _ hl)⟩, for_list (K := K) (a := l) (xs := natsV xs) (fun i σ' H' => ∃ (r : Addr) (o3 : Option V), σ' = [some (.ref l), some (.ref f), some (.ref r), o3, none] ∧ Same H H' ∧ PairsAt H' r (prodL (xs.take i) ys)) ?_ ?_ ?_ ?_⟩
  · exact ⟨r0, none, rfl, s0, ⟨[], upd_same, .nil⟩⟩
  · rintro i σ' H' _ ⟨r, o3, rfl, s1, _⟩
    exact SqL.of (s1 _ _ hl)
  · rintro i v σ' H1 hv ⟨r, o3, rfl, s1, hP⟩
    obtain ⟨x, hx, rfl⟩ := natsV_get hv
    have hil := (List.getElem?_eq_some_iff.mp hx).1
    refine ⟨_, rfl, _, rfl, f, rfl, ⟨_, SqL.of (s1 _ _ hf)⟩, fun L hL => ?_⟩
    refine lc_list (K := K) (a := f) (xs := natsV ys) (fun k H2 => Same H1 H2 ∧ PairsAt H2 L ((ys.take k).map fun y => (x, y))) ⟨same_upd hL, ⟨[], upd_same, .nil⟩⟩ (fun k H2 _ h => SqL.of (h.1 _ _ (s1 _ _ hf))) (fun k u H2 hu h => ?_) (fun H2 h => ?_)
    · obtain ⟨s2, hN⟩ := h
      obtain ⟨y, hy, rfl⟩ := natsV_get hu
      have hkl := (List.getElem?_eq_some_iff.mp hy).1
      refine ⟨rfl, tyes ⟨_, rfl, _, rfl, (by show 2 ≤ sizeLine; decide), fun q1 hq1 => ?_⟩⟩
      have s3 := same_upd (o := .tup [V.int (x : Int), V.int (y : Int)]) hq1
      obtain ⟨acc, a1, a2⟩ := (hN.same s3).ex
      have hal := a2.len
      rw [List.length_map, List.length_take] at hal
      refine ⟨acc, a1, Nat.lt_of_le_of_lt (m := 8) (by omega) (by decide), fun b' o' hb' => by rw [upd_ne (ne_of_none hb' hL)]; exact s3 _ _ (s2 _ _ hb'), ?_⟩
      rw [take_snoc hy, List.map_append]
      exact PairsL.push (x := (x, y)) a1 a2 upd_same
    · obtain ⟨s2, hN⟩ := h
      rw [natsV_len, List.take_length] at hN
      obtain ⟨vs1, v1, v2⟩ := (hP.same s2).ex
      obtain ⟨vs2, v3, v4⟩ := hN.ex
      have l1 := v2.len
      have l2 := v4.len
      rw [prodL_len, List.length_take] at l1
      rw [List.length_map] at l2
      have h64 : vs1.length ≤ 64 := by rw [l1]; exact Nat.mul_le_mul (by omega : min i xs.length ≤ 8) hy8
      refine ⟨r, L, vs1, vs2, rfl, rfl, v1, v3, Nat.le_trans (m := 72) (by omega) (by decide), fun p3 hp3 => ?_⟩
      refine ⟨p3, _, rfl, (s1.trans s2).trans (same_upd hp3), ?_⟩
      rw [prodL_snoc hx]
      exact PairsL.cat hp3 v2 v4
  · rintro σ' H1 ⟨r, o3, rfl, s1, hP⟩
    rw [natsV_len, List.take_length] at hP
    exact ⟨_, rfl, q r H1 s1 hP⟩
abbrev N__law_numbered : List Str := ["expression", "count", "places", "letters", "first", "last", "pairs", "empty", "part", "own", "begin", "end", "more", "is_empty"]
theorem sc__law_numbered : FnScope ["expression", "count", "places", "letters", "first", "last", "pairs", "empty", "part", "own", "begin", "end", "more", "is_empty"] ["expression", "count"] (defScope s__law_numbered) := ⟨rfl, rfl, rfl, by decide +kernel, rfl, by decide +kernel, by decide +kernel⟩
set_option maxHeartbeats 1000000 in
theorem ok_numbered_step {f : Addr} {fd : FuncData} (B : Bt K mg a_BOUNDS a_LONG_BOUNDS tL tM) (Dd : Df K mg "_law_numbered" s__law_numbered ["expression", "count"] f fd) (G_law_across : Cl P w K mg base 1 "_law_across" ["last", "first"] spAcrA) (n : Nat)
    (G_law_numbered : Cl P w K mg base (n + 1) "_law_numbered" ["expression", "count"] (spNumdA n)) : FnOk P w K mg base CX0 (n + 2) f fd ["expression", "count"] (spNumdA (n + 1)) := by
  refine Dd.F.ok sc__law_numbered (fun vs H Q Ex h => ?_) (fun cdv A outer s H vs Q Ex hr h => ?_)
  · obtain ⟨v, e, o, rfl, _⟩ := h
    rfl
  obtain ⟨v, e, o, rfl, hok, hd, hpl, hpt, ho, hR, q⟩ := h
  refine ⟨_, (pss_cons (ps_if (pt_val (pe_callB call_isi rfl B.b_isinstance boot_isinstance (pa_cons (pv 0) (pa_cons (pe_bltn (v := .ty "str") rfl B.b_str boot_str rfl) pa_nil)))) (pss_cons (ps_set (i := 2) sc__law_numbered.nd rfl (Or.inl rfl) (pe_listRg rfl rfl B.b_list (prg_2 rfl B.b_range (pv 1) (pe_op op_add (pv 1) (pe_callB call_len rfl B.b_len boot_len (pa_cons (pv 0) pa_nil))))))
    (pss_one (ps_ret (pe_tup (pa_cons (pv 0) (pa_cons (pv 2) (pa_cons (pv 2) (pa_cons (pe_lst pa_nil) (pa_cons (pe_cmpR op_eq (pv 0) pe_str (nomark _)) pa_nil))))))))) pss_nil)
    (pss_cons (ps_if (pt_cmpR op_in_seq (pe_ix (r := rIxT K) ix_tup (pv 0) pe_int (fun _ _ => rfl)) (pe_lst (pa_cons pe_str (pa_cons pe_str pa_nil))) rfl) (pss_cons (ps_asg (pe_cl G_law_numbered (hr.mono (by omega)) rfl (pa_cons (pe_ix (r := rIxT K) ix_tup (pv 0) pe_int (fun _ _ => rfl)) (pa_cons (pv 1) pa_nil))) (pg_tup rfl (pgs_cons (pg_name (i := 3) sc__law_numbered.nd rfl (Or.inl rfl)) (pgs_cons (pg_name (i := 4) sc__law_numbered.nd rfl (Or.inl rfl)) (pgs_cons (pg_name (i := 5) sc__law_numbered.nd rfl (Or.inl rfl)) (pgs_cons (pg_name (i := 6) sc__law_numbered.nd rfl (Or.inl rfl)) (pgs_cons (pg_name (i := 7) sc__law_numbered.nd rfl (Or.inl rfl)) pgs_nil)))))))
    (C8.pss_cut (ps_if (pt_cmpR op_eq (pe_ix (r := rIxT K) ix_tup (pv 0) pe_int (fun _ _ => rfl)) pe_str (nomark _)) (pss_one (ps_set (i := 6) sc__law_numbered.nd rfl (Or.inl rfl) (pe_op op_cat (pv 6) (pe_cl G_law_across (hr.mono (by omega)) rfl (pa_cons (pv 5) (pa_cons (pv 4) pa_nil)))))) pss_nil)
    (pss_one (ps_ret (pe_tup (pa_cons (pv 3) (pa_cons (pv 4) (pa_cons (pv 5) (pa_cons (pv 6) (pa_cons pe_bl pa_nil)))))))))) pss_nil)
    (pss_cons (ps_set (i := 3) sc__law_numbered.nd rfl (Or.inl rfl) pe_str)
    (pss_cons (ps_set (i := 4) sc__law_numbered.nd rfl (Or.inl rfl) (pe_lst pa_nil))
    (pss_cons (ps_set (i := 5) sc__law_numbered.nd rfl (Or.inl rfl) (pe_lst pa_nil))
    (pss_cons (ps_set (i := 6) sc__law_numbered.nd rfl (Or.inl rfl) (pe_lst pa_nil))
    (pss_cons (ps_set (i := 7) sc__law_numbered.nd rfl (Or.inl rfl) (pe_cmpR op_eq (pe_ix (r := rIxT K) ix_tup (pv 0) pe_int (fun _ _ => rfl)) pe_str (nomark _)))
    (pss_cons (ps_for PassesOwn.never rfl (pi_tup (pe_ix (r := rIxT K) ix_tup (pv 0) pe_int (fun _ _ => rfl))) (pg_name (i := 8) sc__law_numbered.nd rfl (Or.inl rfl)) (pss_cons (ps_asg (pe_cl G_law_numbered (hr.mono (by omega)) rfl (pa_cons (pv 8) (pa_cons (pe_op op_add (pv 1) (pe_callB call_len rfl B.b_len boot_len (pa_cons (pv 3) pa_nil))) pa_nil))) (pg_tup rfl (pgs_cons (pg_name (i := 9) sc__law_numbered.nd rfl (Or.inl rfl)) (pgs_cons (pg_name (i := 10) sc__law_numbered.nd rfl (Or.inl rfl)) (pgs_cons (pg_name (i := 11) sc__law_numbered.nd rfl (Or.inl rfl)) (pgs_cons (pg_name (i := 12) sc__law_numbered.nd rfl (Or.inl rfl)) (pgs_cons (pg_name (i := 13) sc__law_numbered.nd rfl (Or.inl rfl)) pgs_nil)))))))
    (pss_cons (ps_set (i := 3) sc__law_numbered.nd rfl (Or.inl rfl) (pe_op op_add_str (pv 3) (pv 9)))
    (pss_cons (ps_set (i := 6) sc__law_numbered.nd rfl (Or.inl rfl) (pe_op op_cat (pv 6) (pv 12)))
    (pss_one (ps_if (pt_cmpR op_eq (pe_ix (r := rIxT K) ix_tup (pv 0) pe_int (fun _ _ => rfl)) pe_str (nomark _)) (pss_cons (ps_set (i := 4) sc__law_numbered.nd rfl (Or.inl rfl) (pe_op op_cat (pv 4) (pv 10)))
    (pss_cons (ps_set (i := 5) sc__law_numbered.nd rfl (Or.inl rfl) (pe_op op_cat (pv 5) (pv 11)))
    (pss_one (ps_set (i := 7) sc__law_numbered.nd rfl (Or.inl rfl) (pe_or (pv 7) (pe_one (pv 13))))))) (pss_cons (ps_set (i := 6) sc__law_numbered.nd rfl (Or.inl rfl) (pe_op op_cat (pv 6) (pe_cl G_law_across (hr.mono (by omega)) rfl (pa_cons (pv 5) (pa_cons (pv 10) pa_nil)))))
    (C8.pss_cut (ps_if (pt_truth (pv 7) (by intro _; rfl)) (pss_one (ps_set (i := 4) sc__law_numbered.nd rfl (Or.inl rfl) (pe_op op_cat (pv 4) (pv 10)))) pss_nil)
    (C8.pss_cut (ps_if (pt_truth (pv 13) (by intro _; rfl)) (pss_one (ps_set (i := 5) sc__law_numbered.nd rfl (Or.inl rfl) (pe_op op_cat (pv 5) (pv 11)))) (pss_one (ps_set (i := 5) sc__law_numbered.nd rfl (Or.inl rfl) (pv 11))))
    (pss_one (ps_set (i := 7) sc__law_numbered.nd rfl (Or.inl rfl) (pe_and (pv 7) (pe_one (pv 13))))))))))))))
    (pss_one (ps_ret (pe_tup (pa_cons (pv 3) (pa_cons (pv 4) (pa_cons (pv 5) (pa_cons (pv 6) (pa_cons (pv 7) pa_nil)))))))))))))))), ?_⟩
  obtain ⟨t, ht, k1, _⟩ := hR.ty (K := K)
  refine ⟨_, rfl, _, _, _, _, _, rfl, .ty _, ht, k1, _, rfl, ite2 (fun e1 => ?_) (fun e1 => ?_)⟩
  · obtain ⟨z, rfl, h1, h2, h3⟩ := leaf2 hR e1
    have hz1 : z.length ≤ 1 := by
      rcases h3 with ⟨rfl, _⟩ | ⟨c, rfl, _⟩
      · rw [lE]; omega
      · exact Nat.le_refl _
    refine ⟨_, rfl, _, rfl, _, rfl, _, z.length, rfl, ⟨Nat.le_trans hz1 (by decide), rfl⟩, _, _, rfl, rfl, _, _, rfl, rfl, ?_, fun pl hpl => ?_⟩
    · unfold RgOk
      omega
    have sA := (same_upd (o := .lst (rgV (o : Int) ((o : Int) + ((z.length : Nat) : Int)))) hpl)
    refine ⟨_, rfl, _, rfl, _, rfl, by show 0 ≤ sizeLine; decide, fun pr hpr => ⟨_, rfl, rfl, by show 5 ≤ sizeLine; decide, fun t2 ht2 => ?_⟩⟩
    have sB := same_upd (o := .lst []) hpr
    have sC := same_upd (o := .tup [V.str z, .ref pl, .ref pl, .ref pr, .bl (decide (V.str z = V.str sNo))]) ht2
    have hpl2 := sC _ _ (sB _ _ (upd_same (H := H) (a := pl) (o := .lst (rgV (o : Int) ((o : Int) + ((z.length : Nat) : Int))))))
    have hnr : PairsAt (upd (upd (upd H pl (.lst (rgV (o : Int) ((o : Int) + ((z.length : Nat) : Int))))) pr (.lst [])) t2 (.tup [V.str z, .ref pl, .ref pl, .ref pr, .bl (decide (V.str z = V.str sNo))])) pr [] := ⟨[], sC _ _ upd_same, .nil⟩
    rcases h3 with ⟨rfl, rfl⟩ | ⟨c, rfl, rfl⟩
    · have e0 : rgV (o : Int) ((o : Int) + ((sNo.length : Nat) : Int)) = [] := by
        rw [lE]
        exact rg_leaf0 o
      refine q t2 sNo pl pl pr [] _ (sA.trans (sB.trans sC)) ⟨?_, h1, h2, hpl2.trans (by rw [e0]; rfl), hpl2.trans (by rw [e0]; rfl), hnr, fun x => Iff.rfl, by show 0 + 64 ≤ 128 * 1; decide⟩
      rw [upd_same, decide_eq_true rfl]
      rfl
    · have e0 : rgV (o : Int) ((o : Int) + (((⟨#[c]⟩ : Str).length : Nat) : Int)) = [V.int (o : Int)] := rg_leaf1 o
      refine q t2 ⟨#[c]⟩ pl pl pr [] _ (sA.trans (sB.trans sC)) ⟨?_, h1, h2, hpl2.trans (by rw [e0]; rfl), hpl2.trans (by rw [e0]; rfl), hnr, fun x => Iff.rfl, by show 0 + 64 ≤ 128 * 1; decide⟩
      rw [upd_same]
      have : decide (V.str (⟨#[c]⟩ : Str) = V.str sNo) = false := decide_eq_false fun h => by
        have := congrArg Str.length (V.str.inj h)
        rw [lE] at this
        cases this
      rw [this]
      rfl
  obtain ⟨w', p, x, rfl, hp, hw, hk⟩ := node2 hok hR e1
  refine ⟨_, rfl, p, _, 0, _, rfl, rfl, SqT.of hp, at_zero, (by show 2 ≤ sizeLine; decide), fun l hl => ⟨l, _, rfl, .inl (SqL.of upd_same), rfl, rfl, _, rfl, ?_⟩⟩
  have sl := same_upd (o := .lst [V.str sMaybe, V.str sMany]) hl
  have hp2 := sl _ _ hp
  refine ite2 (fun e2 => ?_) (fun e2 => ?_)
  · obtain ⟨_, b, k, rfl, rfl, hx, hko, hkd⟩ := hk.resolve_right fun c => by
      have e3 : inV (V.str w') [V.str sMaybe, V.str sMany] = true := e2
      rw [c.1] at e3
      cases e3
    rw [wrap_places] at hpl ho
    rw [wrap_parts] at hpt
    have hx1 := hx.pers (Pers.new (o := .lst [V.str sMaybe, V.str sMany]) hl)
    refine ⟨_, rfl, p, _, 1, x, rfl, rfl, SqT.of hp2, at_one, _, rfl, x, k, o, rfl, hko, by omega, hpl, by omega, ho, hx1, fun t2 z2 f2 l2 pr ij H3 s3 hT => ?_⟩
    have hS := gl_len k o
    have hSf : (gl k o).fst.length ≤ k.places := hS.fst
    have hSl : (gl k o).lst.length ≤ k.places := hS.lst
    refine ⟨t2, _, rfl, SqT.of hT.tp, rfl, _, _, rfl, _, _, rfl, _, _, rfl, _, _, rfl, _, _, rfl, rfl, ?_⟩
    refine ⟨fun σ' H' => ∃ (pr' : Addr) (ij' : List (Nat × Nat)), σ' = [some (.ref p), some (.int o), none, some (.str z2), some (.ref f2), some (.ref l2), some (.ref pr'), some (.bl (gl k o).nul), none, none, none, none, none, none] ∧ Same H3 H' ∧ PairsAt H' pr' ij' ∧ (∀ x, x ∈ ij' ↔ x ∈ (gl (wrapE b k) o).fol) ∧ ij'.length + 64 ≤ 128 * (k.parts + 1), ?_, ?_⟩
    · refine ⟨_, rfl, p, _, 0, _, rfl, rfl, SqT.of (s3 _ _ hp2), at_zero, rfl, _, rfl, ite2 (fun e3 => ?_) (fun e3 => ?_)⟩
      · have hb : b = true := by
          cases b
          · exact absurd (vstr e3) mn
          · rfl
        subst hb
        refine ⟨_, rfl, _, rfl, _, rfl, l2, f2, _, _, rfl, hT.ls, hT.fs, by omega, by omega, fun pa H4 s4 hP4 => ?_⟩
        obtain ⟨vs1, v1, v2⟩ := (hT.pr.same s4).ex
        obtain ⟨vs2, v3, v4⟩ := hP4.ex
        have l1 := v2.len
        have l2' := v4.len
        rw [prodL_len] at l2'
        have h64 : vs2.length ≤ 64 := by rw [l2']; exact Nat.mul_le_mul (by omega : _ ≤ 8) (by omega : _ ≤ 8)
        have hTl := hT.len
        refine ⟨pr, pa, vs1, vs2, rfl, rfl, v1, v3, Nat.le_trans (m := 200000) (by omega) (by decide), fun p3 hp3 => ?_⟩
        refine ⟨p3, _, rfl, s4.trans (same_upd hp3), PairsL.cat hp3 v2 v4, fun x => ?_, ?_⟩
        · show _ ↔ x ∈ (gl (.many k) o).fol
          rw [gl, List.mem_append, hT.mem]
          exact List.mem_append.symm
        · rw [List.length_append, prodL_len]
          omega
      · have hb : b = false := by
          cases b
          · rfl
          · exact absurd rfl (vstrN e3)
        subst hb
        refine ⟨pr, ij, rfl, Same.refl _, hT.pr, fun x => ?_, by have := hT.len; omega⟩
        rw [hT.mem]
        show _ ↔ x ∈ (gl (.maybe k) o).fol
        rw [gl]
    rintro σ' H5 ⟨pr', ij', rfl, s5, hP5, hm5, hl5⟩
    refine ⟨_, rfl, _, rfl, _, rfl, _, rfl, (by show 5 ≤ sizeLine; decide), fun t3 ht3 => ?_⟩
    have s6 := same_upd (o := .tup [.str z2, .ref f2, .ref l2, .ref pr', .bl true]) ht3
    refine q t3 z2 f2 l2 pr' ij' _ (((sl.trans s3).trans s5).trans s6) ⟨?_, by rw [wrap_letters]; exact hT.lt, by rw [wrap_places]; exact hT.ln, ?_, ?_, hP5.same s6, hm5, by rw [wrap_parts]; exact hl5⟩
    · rw [upd_same]
      cases b
      · show _ = some (HO.tup [.str z2, .ref f2, .ref l2, .ref pr', .bl (gl (.maybe k) o).nul])
        rw [gl]
      · show _ = some (HO.tup [.str z2, .ref f2, .ref l2, .ref pr', .bl (gl (.many k) o).nul])
        rw [gl]
    · rw [s6 _ _ (s5 _ _ hT.fs)]
      cases b
      · show _ = some (HO.lst (natsV (gl (.maybe k) o).fst))
        rw [gl]
      · show _ = some (HO.lst (natsV (gl (.many k) o).fst))
        rw [gl]
    · rw [s6 _ _ (s5 _ _ hT.ls)]
      cases b
      · show _ = some (HO.lst (natsV (gl (.maybe k) o).lst))
        rw [gl]
      · show _ = some (HO.lst (natsV (gl (.many k) o).lst))
        rw [gl]
  · obtain ⟨_, b, es, p2, xs, rfl, rfl, rfl, h4, h5, hX, hks⟩ := hk.resolve_left fun c => e2 c.1
    rw [row_places] at hpl ho
    rw [row_parts] at hpt
    have hX1 : Two (Rep (L2.upd H l (.lst [V.str sMaybe, V.str sMany]))) xs (es.map E.toD) := Rep.pers2 (Pers.new hl) hX
    have h41 := sl _ _ h4
    have hlx := hX.len
    rw [List.length_map] at hlx
    refine ⟨(by show 0 ≤ sizeLine; decide), fun f0 hf0 => ⟨(by show 0 ≤ sizeLine; decide), fun l0 hl0 => ⟨(by show 0 ≤ sizeLine; decide), fun r0 hr0 => ?_⟩⟩⟩
    have sf := same_upd (o := .lst []) hf0
    have s2 := same_upd (o := .lst []) hl0
    have s3 := same_upd (o := .lst []) hr0
    have hf1 := s3 _ _ (s2 _ _ (upd_same (a := f0) (o := .lst [])))
    have hl1 := s3 _ _ (upd_same (a := l0) (o := .lst []))
    have hr1 := upd_same (H := L2.upd (L2.upd (L2.upd H l (.lst [V.str sMaybe, V.str sMany])) f0 (.lst [])) l0 (.lst [])) (a := r0) (o := .lst [])
    have S := sf.trans (s2.trans s3)
    revert hf1 hl1 hr1 S
    generalize L2.upd (L2.upd (L2.upd (L2.upd H l (.lst [V.str sMaybe, V.str sMany])) f0 (.lst [])) l0 (.lst [])) r0 (.lst []) = H0
    intro hf1 hl1 hr1 S
    have hp3 := S _ _ hp2
    have h42 := S _ _ h41
    have hX2 : Two (Rep H0) xs (es.map E.toD) := Rep.pers2 (Pers.same S) hX1
    have sH : Same H H0 := sl.trans S
    clear sf s2 s3 S hf0 hl0 hr0
    refine ⟨_, rfl, p, _, 0, _, rfl, rfl, SqT.of hp3, at_zero, rfl, ?_⟩
    have hnul : decide (V.str (rowW b) = V.str sJoin) = (gR b [] o).nul := by
      cases b
      · exact decide_eq_false fun c => jo (V.str.inj c).symm
      · exact decide_eq_true rfl
    refine ⟨_, rfl, p, _, 1, _, rfl, rfl, SqT.of hp3, at_one, p2, rfl, ⟨_, SqT.of h42⟩, for_tup (K := K) (a := p2) (xs := xs) (fun i σ' H' => ∃ (z : Str) (f l r : Addr) (ij : List (Nat × Nat)) (o8 o9 o10 o11 o12 o13 : Option V), σ' = [some (.ref p), some (.int o), none, some (.str z), some (.ref f), some (.ref l), some (.ref r), some (.bl (gR b (es.take i) o).nul), o8, o9, o10, o11, o12, o13] ∧ Same H0 H' ∧ z.cps.toList = E.letters.letterss (es.take i) ∧ z.length = E.places.placess (es.take i) ∧ H' f = some (.lst (natsV (gR b (es.take i) o).fst)) ∧ H' l = some (.lst (natsV (gR b (es.take i) o).lst)) ∧ PairsAt H' r ij ∧ (∀ x, x ∈ ij ↔ x ∈ (gR b (es.take i) o).fol) ∧ ij.length ≤ 128 * ((es.take i).map E.parts).sum) ?_ ?_ ?_ ?_⟩
    · refine ⟨sNo, f0, l0, r0, [], none, none, none, none, none, none, by rw [show (gR b (es.take 0) o).nul = decide (V.str (rowW b) = V.str sJoin) from hnul.symm]; rfl, Same.refl _, rfl, lE, ?_, ?_, ⟨[], hr1, .nil⟩, fun x => ?_, Nat.zero_le _⟩
      · rw [hf1]; cases b <;> rfl
      · rw [hl1]; cases b <;> rfl
      · cases b <;> exact ⟨(fun h => by cases h), fun h => by cases h⟩
    · rintro i σ' H' hi ⟨z, f, l, r, ij, o8, o9, o10, o11, o12, o13, rfl, s4, _⟩
      exact SqT.of (s4 _ _ h42)
    · rintro i y σ' H4 hy ⟨z, f, l, r, ij, o8, o9, o10, o11, o12, o13, rfl, s4, hz1, hz2, hf, hl', hP, hm, hln⟩
      obtain ⟨d, hd1, hxd⟩ := hX2.get hy
      rw [List.getElem?_map] at hd1
      obtain ⟨k, hk, rfl⟩ := Option.map_eq_some_iff.mp hd1
      have hmem := List.mem_of_getElem? hk
      obtain ⟨hk1, hk2⟩ := hks k hmem
      have hpi : E.places.placess (es.take (i + 1)) = E.places.placess (es.take i) + k.places := by rw [take_snoc hk, placess_snoc]
      have hpt2 := placess_take es (i + 1)
      have hpa : ((es.take (i + 1)).map E.parts).sum = ((es.take i).map E.parts).sum + k.parts := by rw [take_snoc hk, List.map_append, List.sum_append]; simp
      have hpb : ((es.take (i + 1)).map E.parts).sum ≤ (es.map E.parts).sum := by
        rw [List.map_take]
        exact sum_take_leN _ _
      have hxk := hxd.pers (Pers.same s4)
      have hev : Eqv (gR b (es.take (i + 1)) o) (gStep b (gR b (es.take i) o) (gl k (o + E.places.placess (es.take i)))) := by
        rw [take_snoc hk]
        exact gR_snoc b _ k o
      have hSi := gR_len b (es.take i) o
      have hSk := gl_len k (o + E.places.placess (es.take i))
      refine ⟨_, rfl, _, rfl, _, rfl, _, z.length, rfl, ⟨by rw [hz2]; exact Nat.le_trans (m := 8) (by omega) (by decide), rfl⟩, _, _, rfl, rfl, y, k, o + E.places.placess (es.take i), by rw [hz2]; rfl, hk1, by omega, by omega, by omega, by omega, hxk, fun t2 z2 f2 l2 r2 kl H5 s5 hT => ?_⟩
      refine ⟨t2, _, rfl, SqT.of hT.tp, rfl, _, _, rfl, _, _, rfl, _, _, rfl, _, _, rfl, _, _, rfl, rfl, ?_⟩
      have hzl := hT.ln
      refine ⟨_, rfl, _, rfl, z, z2, rfl, rfl, Nat.le_trans (m := 8) (by omega) (by decide), ?_⟩
      obtain ⟨vs1, v1, v2⟩ := (hP.same s5).ex
      obtain ⟨vs2, v3, v4⟩ := hT.pr.ex
      have vl1 := v2.len
      have vl2 := v4.len
      have hTl := hT.len
      refine ⟨_, rfl, _, rfl, r, r2, vs1, vs2, rfl, rfl, v1, v3, Nat.le_trans (m := 300000) (by omega) (by decide), fun r3 hr3 => ?_⟩
      have s7 := same_upd (o := .lst (vs1 ++ vs2)) hr3
      have hP3 := PairsL.cat hr3 v2 v4
      have hm3 : ∀ x, x ∈ ij ++ kl ↔ x ∈ (gR b (es.take i) o).fol ∨ x ∈ (gl k (o + E.places.placess (es.take i))).fol := fun x => by rw [List.mem_append, hm, hT.mem]
      have hl3 : (ij ++ kl).length + 64 ≤ 128 * ((es.take (i + 1)).map E.parts).sum := by rw [List.length_append]; omega
      have hf7 := s7 _ _ (s5 _ _ hf)
      have hl7 := s7 _ _ (s5 _ _ hl')
      have hf27 := s7 _ _ hT.fs
      have hl27 := s7 _ _ hT.ls
      have S7 := s4.trans (s5.trans s7)
      revert hP3 hf7 hl7 hf27 hl27 S7
      generalize L2.upd H5 r3 (.lst (vs1 ++ vs2)) = H7
      intro hP3 hf7 hl7 hf27 hl27 S7
      have hzz1 : (z ++ z2).cps.toList = E.letters.letterss (es.take (i + 1)) := by rw [app_toL, hz1, hT.lt, take_snoc hk, letterss_snoc]
      have hzz2 : (z ++ z2).length = E.places.placess (es.take (i + 1)) := by rw [← len_toL, hzz1, letterss_len]
      have a1 := hSi.fst
      have a2 := hSk.fst
      have a3 := hSi.lst
      have a4 := hSk.lst
      refine ⟨_, rfl, p, _, 0, _, rfl, rfl, SqT.of (S7 _ _ hp3), at_zero, rfl, _, rfl, ite2 (fun e3 => ?_) (fun e3 => ?_)⟩
      · have hb : b = false := by
          cases b
          · rfl
          · exact absurd (vstr e3) jo
        subst hb
        obtain ⟨ev1, ev2, ev3, ev4⟩ := hev
        refine ⟨_, rfl, _, rfl, f, f2, _, _, rfl, rfl, hf7, hf27, ?_, fun f3 hf3 => ?_⟩
        · rw [natsV_len, natsV_len]
          exact Nat.le_trans (m := 24) (by omega) (by decide)
        have s8 := same_upd (o := .lst (natsV (gR false (es.take i) o).fst ++ natsV (gl k (o + E.places.placess (es.take i))).fst)) hf3
        refine ⟨_, rfl, _, rfl, l, l2, _, _, rfl, rfl, s8 _ _ hl7, s8 _ _ hl27, ?_, fun l3 hl3' => ?_⟩
        · rw [natsV_len, natsV_len]
          exact Nat.le_trans (m := 24) (by omega) (by decide)
        have s9 := same_upd (o := .lst (natsV (gR false (es.take i) o).lst ++ natsV (gl k (o + E.places.placess (es.take i))).lst)) hl3'
        have e7 : (upd H7 f3 (.lst (natsV (gR false (es.take i) o).fst ++ natsV (gl k (o + E.places.placess (es.take i))).fst))) f3 = some (.lst (natsV (gR false (es.take (i + 1)) o).fst)) := by
          rw [upd_same, natsV_app, ev2]
          rfl
        have e8 : (upd (upd H7 f3 (.lst (natsV (gR false (es.take i) o).fst ++ natsV (gl k (o + E.places.placess (es.take i))).fst))) l3 (.lst (natsV (gR false (es.take i) o).lst ++ natsV (gl k (o + E.places.placess (es.take i))).lst))) l3 = some (.lst (natsV (gR false (es.take (i + 1)) o).lst)) := by
          rw [upd_same, natsV_app, ev3]
          rfl
        have mm : ∀ x, x ∈ ij ++ kl ↔ x ∈ (gR false (es.take (i + 1)) o).fol := fun x => by
          rw [hm3, ev4]
          exact List.mem_append.symm
        refine ⟨_, rfl, _, rfl, ite2 (fun c1 => ?_) (fun c1 => ?_)⟩
        · refine ⟨z ++ z2, f3, l3, r3, ij ++ kl, some y, some (.str z2), some (.ref f2), some (.ref l2), some (.ref r2), some (.bl (gl k (o + E.places.placess (es.take i))).nul), ?_, (S7.trans s8).trans s9, hzz1, hzz2, s9 _ _ e7, e8, (hP3.same s8).same s9, mm, by omega⟩
          have hv : (gR false (es.take (i + 1)) o).nul = true := by
            rw [ev1]
            show ((gR false (es.take i) o).nul || (gl k (o + E.places.placess (es.take i))).nul) = true
            rw [c1]
            rfl
          rw [hv]
          rfl
        · refine ⟨_, rfl, ⟨z ++ z2, f3, l3, r3, ij ++ kl, some y, some (.str z2), some (.ref f2), some (.ref l2), some (.ref r2), some (.bl (gl k (o + E.places.placess (es.take i))).nul), ?_, (S7.trans s8).trans s9, hzz1, hzz2, s9 _ _ e7, e8, (hP3.same s8).same s9, mm, by omega⟩⟩
          have hv : (gR false (es.take (i + 1)) o).nul = (gl k (o + E.places.placess (es.take i))).nul := by
            rw [ev1]
            show ((gR false (es.take i) o).nul || (gl k (o + E.places.placess (es.take i))).nul) = _
            rw [Bool.eq_false_iff.mpr c1]
            rfl
          rw [hv]
          rfl
      · have hb : b = true := by
          cases b
          · exact absurd rfl (vstrN e3)
          · rfl
        subst hb
        obtain ⟨ev1, ev2, ev3, ev4⟩ := hev
        refine ⟨_, rfl, _, rfl, _, rfl, l, f2, _, _, rfl, hl7, hf27, by omega, by omega, fun pa H8 s8 hP8 => ?_⟩
        obtain ⟨us1, u1, u2⟩ := (hP3.same s8).ex
        obtain ⟨us2, u3, u4⟩ := hP8.ex
        have ul1 := u2.len
        have ul2 := u4.len
        rw [prodL_len] at ul2
        have h64 : (gR true (es.take i) o).lst.length * (gl k (o + E.places.placess (es.take i))).fst.length ≤ 64 := Nat.mul_le_mul (by omega : _ ≤ 8) (by omega : _ ≤ 8)
        refine ⟨r3, pa, us1, us2, rfl, rfl, u1, u3, Nat.le_trans (m := 300000) (by omega) (by decide), fun r4 hr4 => ?_⟩
        have s9 := same_upd (o := .lst (us1 ++ us2)) hr4
        have hP9 := PairsL.cat hr4 u2 u4
        have S9 := S7.trans (s8.trans s9)
        have hf9 := s9 _ _ (s8 _ _ hf7)
        have hl9 := s9 _ _ (s8 _ _ hl7)
        have hf29 := s9 _ _ (s8 _ _ hf27)
        have hl29 := s9 _ _ (s8 _ _ hl27)
        revert hP9 S9 hf9 hl9 hf29 hl29
        generalize L2.upd H8 r4 (.lst (us1 ++ us2)) = H9
        intro hP9 S9 hf9 hl9 hf29 hl29
        have mm : ∀ x, x ∈ ij ++ kl ++ prodL (gR true (es.take i) o).lst (gl k (o + E.places.placess (es.take i))).fst ↔ x ∈ (gR true (es.take (i + 1)) o).fol := fun x => by
          rw [List.mem_append, hm3, ev4]
          unfold gStep
          rw [if_pos rfl]
          unfold Gl.seq
          dsimp only
          rw [List.mem_append, List.mem_append]
          constructor
          · rintro ((h | h) | h)
            · exact .inl h
            · exact .inr (.inr h)
            · exact .inr (.inl h)
          · rintro (h | h | h)
            · exact .inl (.inl h)
            · exact .inr h
            · exact .inl (.inr h)
        refine ⟨fun σ' H' => ∃ f3 : Addr, σ' = [some (.ref p), some (.int o), none, some (.str (z ++ z2)), some (.ref f3), some (.ref l), some (.ref r4), some (.bl (gR true (es.take i) o).nul), some y, some (.str z2), some (.ref f2), some (.ref l2), some (.ref r2), some (.bl (gl k (o + E.places.placess (es.take i))).nul)] ∧ Same H9 H' ∧ H' f3 = some (.lst (natsV (gR true (es.take (i + 1)) o).fst)), ?_, ?_⟩
        · refine ⟨_, rfl, _, rfl, ite2 (fun c1 => ?_) (fun c1 => ?_)⟩
          · refine ⟨_, rfl, _, rfl, f, f2, _, _, rfl, rfl, hf9, hf29, ?_, fun f3 hf3 => ?_⟩
            · rw [natsV_len, natsV_len]
              exact Nat.le_trans (m := 24) (by omega) (by decide)
            refine ⟨f3, rfl, same_upd hf3, ?_⟩
            rw [upd_same, natsV_app, ev2]
            show some (HO.lst (natsV (_ ++ _))) = some (HO.lst (natsV (_ ++ if (gR true (es.take i) o).nul = true then _ else [])))
            rw [if_pos c1]
          · refine ⟨f, rfl, Same.refl _, ?_⟩
            rw [hf9, ev2]
            show _ = some (HO.lst (natsV (_ ++ if (gR true (es.take i) o).nul = true then _ else [])))
            rw [if_neg c1, List.append_nil]
        rintro σ' H10 ⟨f3, rfl, s10, hf10⟩
        refine ⟨fun σ' H' => ∃ l3 : Addr, σ' = [some (.ref p), some (.int o), none, some (.str (z ++ z2)), some (.ref f3), some (.ref l3), some (.ref r4), some (.bl (gR true (es.take i) o).nul), some y, some (.str z2), some (.ref f2), some (.ref l2), some (.ref r2), some (.bl (gl k (o + E.places.placess (es.take i))).nul)] ∧ Same H10 H' ∧ H' l3 = some (.lst (natsV (gR true (es.take (i + 1)) o).lst)), ?_, ?_⟩
        · refine ⟨_, rfl, _, rfl, ite2 (fun c1 => ?_) (fun c1 => ?_)⟩
          · refine ⟨_, rfl, _, rfl, l, l2, _, _, rfl, rfl, s10 _ _ hl9, s10 _ _ hl29, ?_, fun l3 hl3' => ?_⟩
            · rw [natsV_len, natsV_len]
              exact Nat.le_trans (m := 24) (by omega) (by decide)
            refine ⟨l3, rfl, same_upd hl3', ?_⟩
            rw [upd_same, natsV_app, ev3]
            show some (HO.lst (natsV (_ ++ _))) = some (HO.lst (natsV ((if (gl k (o + E.places.placess (es.take i))).nul = true then _ else []) ++ _)))
            rw [if_pos c1]
          · refine ⟨_, rfl, ⟨l2, rfl, Same.refl _, ?_⟩⟩
            rw [s10 _ _ hl29, ev3]
            show _ = some (HO.lst (natsV ((if (gl k (o + E.places.placess (es.take i))).nul = true then _ else []) ++ _)))
            rw [if_neg c1, List.nil_append]
        rintro σ' H11 ⟨l3, rfl, s11, hl11⟩
        have ln3 : (ij ++ kl ++ prodL (gR true (es.take i) o).lst (gl k (o + E.places.placess (es.take i))).fst).length ≤ 128 * ((es.take (i + 1)).map E.parts).sum := by
          rw [List.length_append, prodL_len]
          omega
        refine ⟨_, rfl, _, rfl, ite2 (fun c1 => ?_) (fun c1 => ?_)⟩
        · refine ⟨_, rfl, ⟨z ++ z2, f3, l3, r4, _, some y, some (.str z2), some (.ref f2), some (.ref l2), some (.ref r2), some (.bl (gl k (o + E.places.placess (es.take i))).nul), ?_, S9.trans (s10.trans s11), hzz1, hzz2, s11 _ _ hf10, hl11, (hP9.same s10).same s11, mm, ln3⟩⟩
          have hv : (gR true (es.take (i + 1)) o).nul = (gl k (o + E.places.placess (es.take i))).nul := by
            rw [ev1]
            show ((gR true (es.take i) o).nul && (gl k (o + E.places.placess (es.take i))).nul) = _
            rw [c1]
            rfl
          rw [hv]
          rfl
        · refine ⟨z ++ z2, f3, l3, r4, _, some y, some (.str z2), some (.ref f2), some (.ref l2), some (.ref r2), some (.bl (gl k (o + E.places.placess (es.take i))).nul), ?_, S9.trans (s10.trans s11), hzz1, hzz2, s11 _ _ hf10, hl11, (hP9.same s10).same s11, mm, ln3⟩
          have hv : (gR true (es.take (i + 1)) o).nul = false := by
            rw [ev1]
            show ((gR true (es.take i) o).nul && (gl k (o + E.places.placess (es.take i))).nul) = false
            rw [Bool.eq_false_iff.mpr c1]
            rfl
          rw [hv]
          rfl
    · rintro σ' H4 ⟨z, f, l, r, ij, o8, o9, o10, o11, o12, o13, rfl, s4, hz1, hz2, hf, hl', hP, hm, hln⟩
      rw [hlx, List.take_length] at hz1 hz2 hf hl' hm hln
      refine ⟨_, rfl, _, rfl, _, rfl, _, rfl, _, rfl, (by show 5 ≤ sizeLine; decide), fun t3 ht3 => ?_⟩
      have s6 := same_upd (o := .tup [.str z, .ref f, .ref l, .ref r, .bl (gR b (es.take xs.length) o).nul]) ht3
      refine q t3 z f l r ij _ ((sH.trans s4).trans s6) ⟨?_, by rw [row_letters]; exact hz1, by rw [row_places]; exact hz2, by rw [s6 _ _ hf, gl_row], by rw [s6 _ _ hl', gl_row], hP.same s6, by rw [gl_row]; exact hm, by rw [row_parts]; omega⟩
      rw [upd_same, gl_row, hlx, List.take_length]
end
end My
namespace My
open PySem PySem.Spec PyProof.Rows L2
def spTabsA : Sp := fun vs H Q _ => ∃ (v : V) (e : E), vs = [v] ∧ Esh e ∧ Rep H v e.toD ∧
  ∀ (t : Addr) (z : Str) (f l p : Addr) (ij : List (Nat × Nat)) H', Same H H' → TabA H' t z f l p ij e 0 → Q (.ref t) H'
/-- None for the beginning, else the places -/
def PlV (H : Hp) (v : V) (S : List Nat) : Prop := (v = .non ∧ S = []) ∨ ∃ a, v = .ref a ∧ H a = some (.tup (natsV S)) ∧ S ≠ []
theorem PlV.same {H H' : Hp} {v : V} {S : List Nat} (s : Same H H') (h : PlV H v S) : PlV H' v S := h.imp id fun ⟨a, h1, h2, h3⟩ => ⟨a, h1, s _ _ h2, h3⟩
def spBehA : Sp := fun vs H Q _ => ∃ (t : Addr) (z : Str) (f l p : Addr) (ij : List (Nat × Nat)) (e : E) (pz : V) (S : List Nat) (c : Nat), vs = [.ref t, pz, .str ⟨#[c]⟩] ∧ TabA H t z f l p ij e 0 ∧ e.places ≤ 8 ∧ e.parts ≤ 24 ∧ PlV H pz S ∧ (∀ x ∈ S, x < e.places) ∧
  ∀ r H', Same H H' → H' r = some (.tup (natsV (stS e S c))) → Q (.ref r) H'
def spEndA : Sp := fun vs H Q _ => ∃ (t : Addr) (z : Str) (f l p : Addr) (ij : List (Nat × Nat)) (e : E) (pz : V) (S : List Nat), vs = [.ref t, pz] ∧ TabA H t z f l p ij e 0 ∧ PlV H pz S ∧ S.length ≤ 100 ∧
  ∀ H', Same H H' → Q (.bl (endS e S)) H'
theorem beh_mem {e : E} {S : List Nat} {c : Nat} {ij : List (Nat × Nat)} (hm : ∀ x, x ∈ ij ↔ x ∈ (gl e 0).fol) (h0 : S ≠ []) (y : Nat) : y ∈ ((ij.filter fun x => decide (x.1 ∈ S) && decide (e.letters[x.2]? = some c)).map (·.2)) ↔ y ∈ stS e S c := by
  rw [mem_stS, List.mem_map]
  constructor
  · rintro ⟨x, hx, rfl⟩
    rw [List.mem_filter, Bool.and_eq_true, decide_eq_true_eq, decide_eq_true_eq] at hx
    exact ⟨hx.2.2, .inr ⟨h0, x.1, hx.2.1, (hm x).mp hx.1⟩⟩
  · rintro ⟨h1, h2 | ⟨_, x, h3, h4⟩⟩
    · exact absurd h2.1 h0
    · exact ⟨(x, y), List.mem_filter.mpr ⟨(hm _).mpr h4, by rw [decide_eq_true h3, decide_eq_true h1]; rfl⟩, rfl⟩
theorem beh_mem0 {e : E} {c : Nat} (y : Nat) : y ∈ (gl e 0).fst.filter (fun x => decide (e.letters[x]? = some c)) ↔ y ∈ stS e [] c := by
  rw [mem_stS, List.mem_filter, decide_eq_true_eq]
  exact ⟨fun h => ⟨h.2, .inl ⟨rfl, h.1⟩⟩, fun h => ⟨h.2.elim (fun k => k.2) fun k => absurd rfl k.1, h.1⟩⟩
theorem sym_eq {c d : Nat} (h : (⟨#[c]⟩ : Str) = ⟨#[d]⟩) : c = d := by
  have e2 := congrArg (fun s : Str => s.cps.toList) h
  exact (List.cons.inj e2).1
section
variable {P : Program} {w : World} {K : PySem.W.Frag} {mg : Str → Option Value} {base : Heap} {a_BOUNDS a_LONG_BOUNDS : Addr} {tL tM : Tok}
abbrev N__law_tables : List Str := ["expression"]
theorem sc__law_tables : FnScope ["expression"] ["expression"] (defScope s__law_tables) := ⟨rfl, rfl, rfl, by decide +kernel, rfl, by decide +kernel, by decide +kernel⟩
theorem ok_tabsA {f : Addr} {fd : FuncData} (B : Bt K mg a_BOUNDS a_LONG_BOUNDS tL tM) (Dd : Df K mg "_law_tables" s__law_tables ["expression"] f fd) (G_law_numbered : Cl P w K mg base 8 "_law_numbered" ["expression", "count"] (spNumdA 7)) : FnOk P w K mg base CX0 9 f fd ["expression"] spTabsA := by
  refine Dd.F.ok sc__law_tables (fun vs H Q Ex h => ?_) (fun cdv A outer s H vs Q Ex hr h => ?_)
  · obtain ⟨v, e, rfl, _⟩ := h
    rfl
  obtain ⟨v, e, rfl, hE, hR, q⟩ := h
  refine ⟨_, (pss_one (ps_ret (pe_cl G_law_numbered (hr.mono (by omega)) rfl (pa_cons (pv 0) (pa_cons pe_int pa_nil))))), ?_⟩
  have h1 := hE.dep
  have h2 := hE.pl
  have h3 := hE.pt
  exact ⟨_, rfl, v, e, 0, rfl, hE.ok, by omega, h2, by omega, by omega, hR, fun t z f l p ij H1 s1 hT => q t z f l p ij H1 s1 hT⟩
abbrev N__law_behind : List Str := ["tables", "places", "letter", "found", "place", "after"]
theorem sc__law_behind : FnScope ["tables", "places", "letter", "found", "place", "after"] ["tables", "places", "letter"] (defScope s__law_behind) := ⟨rfl, rfl, rfl, by decide +kernel, rfl, by decide +kernel, by decide +kernel⟩
set_option maxHeartbeats 1000000 in
theorem ok_behA {f : Addr} {fd : FuncData} (B : Bt K mg a_BOUNDS a_LONG_BOUNDS tL tM) (Dd : Df K mg "_law_behind" s__law_behind ["tables", "places", "letter"] f fd) : FnOk P w K mg base CX0 1 f fd ["tables", "places", "letter"] spBehA := by
  refine Dd.F.ok sc__law_behind (fun vs H Q Ex h => ?_) (fun cdv A outer s H vs Q Ex hr h => ?_)
  · obtain ⟨t, z, f, l, p, ij, e, pz, S, c, rfl, _⟩ := h
    rfl
  obtain ⟨t, z, f, l, p, ij, e, pz, S, c, rfl, hT, h8, hpt, hS, hb, q⟩ := h
  refine ⟨_, (C8.pss_cut (ps_if (pt_cmpR op_isN (pv 1) pe_non (nomark _)) (pss_one (ps_setLc (i := 3) (own := [("place", 4)]) (g := gName 4) rfl sc__law_behind.nd rfl rfl (sw_true rfl rfl rfl (by decide +kernel)) (pi_list (pe_ix (r := rIxT K) ix_tup (pv 0) pe_int (fun _ _ => rfl))) (blkOk_by (N := N__law_behind) (sc := defScope s__law_behind) (by decide +kernel)) (fun _ _ _ _ _ => pg_name (i := 4) sc__law_behind.nd rfl (Or.inl rfl)) (fun _ _ _ _ _ => pts_one (pt_cmpR op_eq (pe_ix ix_str (pe_ix (r := rIxT K) ix_tup (pv 0) pe_int (fun _ _ => rfl)) (pv 4) (fun _ _ => rfl)) (pv 2) (nomark _))) (fun _ _ _ _ _ => (pv 4)))) (pss_one (ps_setLc (i := 3) (own := [("place", 4), ("after", 5)]) (g := gTup K 2 (gCons (gName 4) (gCons (gName 5) gNil))) rfl sc__law_behind.nd rfl rfl (sw_true rfl rfl rfl (by decide +kernel)) (pi_list (pe_ix (r := rIxT K) ix_tup (pv 0) pe_int (fun _ _ => rfl))) (blkOk_by (N := N__law_behind) (sc := defScope s__law_behind) (by decide +kernel)) (fun _ _ _ _ _ => pg_tup rfl (pgs_cons (pg_name (i := 4) sc__law_behind.nd rfl (Or.inl rfl)) (pgs_cons (pg_name (i := 5) sc__law_behind.nd rfl (Or.inl rfl)) pgs_nil))) (fun _ _ _ _ _ => pts_one (PW.pt (pw_and (pt_cmpR (r := rInB K) (op_in_seqB rfl) (pv 4) (pv 1) rfl) (pw_and1 (pt_cmpR op_eq (pe_ix ix_str (pe_ix (r := rIxT K) ix_tup (pv 0) pe_int (fun _ _ => rfl)) (pv 5) (fun _ _ => rfl)) (pv 2) (nomark _)))))) (fun _ _ _ _ _ => (pv 5)))))
    (pss_one (ps_ret (pe_callTy call_tuple_ofK rfl B.b_tuple boot_tuple (pa_cons (pe_callB (cr_sortedSet rfl) rfl B.b_sorted boot_sorted (pa_cons (pe_callTy (cr_setL rfl) rfl B.b_set boot_set (pa_cons (pv 3) pa_nil)) pa_nil)) pa_nil))))), ?_⟩
  refine ⟨fun σ' H' => ∃ (L : Addr) (ns : List Nat), σ' = [some (.ref t), some pz, some (.str ⟨#[c]⟩), some (.ref L), none, none] ∧ Same H H' ∧ H' L = some (.lst (natsV ns)) ∧ (∀ y, y ∈ ns ↔ y ∈ stS e S c) ∧ ns.length ≤ 3072, ?_, ?_⟩
  · rcases hS with ⟨rfl, rfl⟩ | ⟨a, rfl, ha, hne⟩
    · refine ⟨_, rfl, rfl, _, rfl, iteT ?_⟩
      refine ⟨_, rfl, t, _, 1, _, rfl, rfl, SqT.of hT.tp, at_one, f, rfl, ⟨_, SqL.of hT.fs⟩, fun L hL => ?_⟩
      refine lc_list (K := K) (a := f) (xs := natsV (gl e 0).fst) (fun i H2 => Same H H2 ∧ H2 L = some (.lst (natsV (((gl e 0).fst.take i).filter fun x => decide (e.letters[x]? = some c))))) ⟨same_upd hL, upd_same⟩ (fun i H2 _ h => SqL.of (h.1 _ _ hT.fs)) (fun i x H2 hx h => ?_) (fun H2 h => ?_)
      · obtain ⟨s2, hL2⟩ := h
        obtain ⟨y, hy, rfl⟩ := natsV_get hx
        have hyp := ((gl_within e 0).fst y (List.mem_of_getElem? hy)).2
        have hil := (List.getElem?_eq_some_iff.mp hy).1
        have hfl := (gl_len e 0).fst
        obtain ⟨d, hd⟩ : ∃ d, e.letters[y]? = some d := ⟨_, List.getElem?_eq_getElem (by rw [letters_len]; omega)⟩
        have hat : atI z.cps.toList (y : Int) = some d := by rw [hT.lt]; exact atI_nat hd
        refine ⟨rfl, _, rfl, t, _, 0, _, rfl, rfl, SqT.of (s2 _ _ hT.tp), at_zero, _, rfl, z, (y : Int), d, rfl, rfl, by rw [hT.ln]; exact Nat.le_trans h8 (by decide), hat, _, rfl, rfl, _, rfl, ?_⟩
        have hf2 : ((gl e 0).fst.take (i + 1)).filter (fun x => decide (e.letters[x]? = some c)) = ((gl e 0).fst.take i).filter (fun x => decide (e.letters[x]? = some c)) ++ (if d = c then [y] else []) := by
          rw [take_snoc hy, List.filter_append, List.filter_cons, hd]
          by_cases hdc : d = c
          · rw [if_pos hdc, if_pos (decide_eq_true (congrArg some hdc))]
            rfl
          · rw [if_neg hdc, if_neg (by rw [decide_eq_false fun h => hdc (Option.some.inj h)]; exact Bool.false_ne_true)]
            rfl
        refine ite2 (fun c1 => ?_) (fun c1 => ?_)
        · have hdc : d = c := sym_eq (vstr c1)
          rw [if_pos hdc] at hf2
          refine ⟨_, rfl, _, hL2, ?_, fun b o hb => by rw [upd_ne (ne_of_none hb hL)]; exact s2 _ _ hb, ?_⟩
          · rw [natsV_len]
            exact Nat.lt_of_le_of_lt (List.length_filter_le _ _) (Nat.lt_of_le_of_lt (m := 8) (by rw [List.length_take]; omega) (by decide))
          · rw [upd_same, hf2, ← natsV_app]
            rfl
        · have hdc : d ≠ c := fun h => c1 (by rw [h]; exact decide_eq_true rfl)
          rw [if_neg hdc, List.append_nil] at hf2
          exact ⟨s2, by rw [hf2]; exact hL2⟩
      · obtain ⟨s2, hL2⟩ := h
        rw [natsV_len, List.take_length] at hL2
        have hfl := (gl_len e 0).fst
        exact ⟨L, _, rfl, s2, hL2, fun y => beh_mem0 y, Nat.le_trans (List.length_filter_le _ _) (by omega)⟩
    · refine ⟨_, rfl, rfl, _, rfl, iteF ?_⟩
      obtain ⟨vs, v1, v2⟩ := hT.pr.ex
      have vl := v2.len
      have hTl := hT.len
      refine ⟨_, rfl, t, _, 3, _, rfl, rfl, SqT.of hT.tp, rfl, p, rfl, ⟨_, SqL.of v1⟩, fun L hL => ?_⟩
      refine lc_list (K := K) (a := p) (xs := vs) (fun i H2 => Same H H2 ∧ H2 L = some (.lst (natsV (((ij.take i).filter fun x => decide (x.1 ∈ S) && decide (e.letters[x.2]? = some c)).map (·.2))))) ⟨same_upd hL, upd_same⟩ (fun i H2 _ h => SqL.of (h.1 _ _ v1)) (fun i x H2 hx h => ?_) (fun H2 h => ?_)
      · obtain ⟨s2, hL2⟩ := h
        obtain ⟨xy, hxy, qa, rfl, hqa⟩ := v2.get hx
        have hfol := (hT.mem xy).mp (List.mem_of_getElem? hxy)
        have hyp := ((gl_within e 0).fol xy.1 xy.2 hfol).2
        have hil := (List.getElem?_eq_some_iff.mp hxy).1
        obtain ⟨d, hd⟩ : ∃ d, e.letters[xy.2]? = some d := ⟨_, List.getElem?_eq_getElem (by rw [letters_len]; omega)⟩
        have hat : atI z.cps.toList (xy.2 : Int) = some d := by rw [hT.lt]; exact atI_nat hd
        have hf2 : ((ij.take (i + 1)).filter fun x => decide (x.1 ∈ S) && decide (e.letters[x.2]? = some c)).map (·.2) = ((ij.take i).filter fun x => decide (x.1 ∈ S) && decide (e.letters[x.2]? = some c)).map (·.2) ++ (if xy.1 ∈ S ∧ d = c then [xy.2] else []) := by
          rw [take_snoc hxy, List.filter_append, List.map_append, List.filter_cons, hd]
          by_cases hdc : xy.1 ∈ S ∧ d = c
          · rw [if_pos hdc, if_pos (by rw [decide_eq_true hdc.1, decide_eq_true (congrArg some hdc.2)]; rfl)]
            rfl
          · rw [if_neg hdc, if_neg (fun h => hdc (by
              rw [Bool.and_eq_true, decide_eq_true_eq, decide_eq_true_eq] at h
              exact ⟨h.1, Option.some.inj h.2⟩))]
            rfl
        have no : ¬ (xy.1 ∈ S ∧ d = c) → Same H H2 ∧ H2 L = some (.lst (natsV (((ij.take (i + 1)).filter fun x => decide (x.1 ∈ S) && decide (e.letters[x.2]? = some c)).map (·.2)))) := fun h => by
          rw [if_neg h, List.append_nil] at hf2
          exact ⟨s2, by rw [hf2]; exact hL2⟩
        refine ⟨qa, _, rfl, SqT.of (s2 _ _ hqa), rfl, _, _, rfl, _, _, rfl, rfl, rfl, _, rfl, _, rfl, a, _, rfl, .inr (SqT.of (s2 _ _ ha)), rfl, flat_nats _, _, rfl, ite2 (fun c0 => ?_) (fun c0 => ?_)⟩
        · have hS1 : xy.1 ∈ S := of_decide_eq_true ((in_nats xy.1 S).symm.trans c0)
          refine ⟨_, rfl, t, _, 0, _, rfl, rfl, SqT.of (s2 _ _ hT.tp), at_zero, _, rfl, z, (xy.2 : Int), d, rfl, rfl, by rw [hT.ln]; exact Nat.le_trans h8 (by decide), hat, _, rfl, rfl, _, rfl, ite2 (fun c1 => ?_) (fun c1 => ?_)⟩
          · have hdc : d = c := sym_eq (vstr c1)
            rw [if_pos ⟨hS1, hdc⟩] at hf2
            refine ⟨_, rfl, _, hL2, ?_, fun b o hb => by rw [upd_ne (ne_of_none hb hL)]; exact s2 _ _ hb, ?_⟩
            · rw [natsV_len, List.length_map]
              exact Nat.lt_of_le_of_lt (List.length_filter_le _ _) (Nat.lt_of_le_of_lt (m := 3072) (by rw [List.length_take]; omega) (by decide))
            · rw [upd_same, hf2, ← natsV_app]
              rfl
          · exact no fun h => c1 (by rw [h.2]; exact decide_eq_true rfl)
        · exact iteF (no fun h => c0 ((in_nats xy.1 S).trans (decide_eq_true h.1)))
      · obtain ⟨s2, hL2⟩ := h
        rw [vl, List.take_length] at hL2
        exact ⟨L, _, rfl, s2, hL2, fun y => beh_mem hT.mem hne y, by rw [List.length_map]; exact Nat.le_trans (List.length_filter_le _ _) (by omega)⟩
  rintro σ' H1 ⟨L, ns, rfl, s1, hL, hm, hl⟩
  have hst : ∀ y ∈ ns, y < e.places := fun y hy => stS_lt ((hm y).mp hy)
  refine ⟨_, rfl, L, ns.map fun (n : Nat) => (n : Int), rfl, SqL.of (by rw [hL, natsV_int]), by rw [List.length_map]; exact Nat.lt_of_le_of_lt (Nat.succ_le_succ hl) (by decide), fun p1 n1 hp1 hn1 => ?_⟩
  have s2 := same_upd (o := SetO w p1 (fun j => decide (j ∈ ns.map fun (n : Nat) => (n : Int))) n1) hp1
  refine ⟨p1, _, n1, rfl, upd_same, ?_, fun ks p2 hk1 hk2 hk3 hp2 => ?_⟩
  · have := hn1 8 fun j hj => by
      obtain ⟨y, hy, rfl⟩ := List.mem_map.mp hj
      have := hst y hy
      omega
    omega
  have s3 := same_upd (o := .lst (ks.map V.int)) hp2
  have hks : ks = (stS e S c).map fun (n : Nat) => (n : Int) := by
    refine eq_of_rise _ _ hk1 ?_ fun x => ?_
    · rw [List.pairwise_map]
      exact (stS_rise (gl_rise e 0).fst).imp fun h => by omega
    · rw [hk2, decide_eq_true_eq, List.mem_map, List.mem_map]
      exact ⟨fun ⟨y, h1, h2⟩ => ⟨y, (hm y).mp h1, h2⟩, fun ⟨y, h1, h2⟩ => ⟨y, (hm y).mpr h1, h2⟩⟩
  subst hks
  refine ⟨p2, _, rfl, .inl ⟨SqL.of upd_same, fun r hr => ?_⟩⟩
  exact q r _ (s1.trans (s2.trans (s3.trans (same_upd hr)))) (by rw [upd_same, natsV_int])
abbrev N__law_ending : List Str := ["tables", "places", "place"]
theorem sc__law_ending : FnScope ["tables", "places", "place"] ["tables", "places"] (defScope s__law_ending) := ⟨rfl, rfl, rfl, by decide +kernel, rfl, by decide +kernel, by decide +kernel⟩
theorem ok_endA {f : Addr} {fd : FuncData} (B : Bt K mg a_BOUNDS a_LONG_BOUNDS tL tM) (Dd : Df K mg "_law_ending" s__law_ending ["tables", "places"] f fd) : FnOk P w K mg base CX0 1 f fd ["tables", "places"] spEndA := by
  refine Dd.F.ok sc__law_ending (fun vs H Q Ex h => ?_) (fun cdv A outer s H vs Q Ex hr h => ?_)
  · obtain ⟨t, z, f, l, p, ij, e, pz, S, rfl, _⟩ := h
    rfl
  obtain ⟨t, z, f, l, p, ij, e, pz, S, rfl, hT, hS, hSl, q⟩ := h
  refine ⟨_, (pss_cons (ps_if (pt_cmpR op_isN (pv 1) pe_non (nomark _)) (pss_one (ps_ret (pe_ix (r := rIxT K) ix_tup (pv 0) pe_int (fun _ _ => rfl)))) pss_nil)
    (pss_one (ps_ret (pe_callB (cr_any rfl) rfl B.b_any boot_any (pa_cons (pe_lc (own := [("place", 2)]) (g := gName 2) (tt := tYes) rfl sc__law_ending.nd (pi_tup (pv 1)) (blkOk_by (N := N__law_ending) (sc := defScope s__law_ending) (by decide +kernel)) (fun _ _ _ _ _ => pg_name (i := 2) sc__law_ending.nd rfl (Or.inl rfl)) (fun _ _ _ _ _ => pts_nil) (fun _ _ _ _ _ => (pe_cmpR (r := rInB K) (op_in_seqB rfl) (pv 2) (pe_ix (r := rIxT K) ix_tup (pv 0) pe_int (fun _ _ => rfl)) rfl))) pa_nil))))), ?_⟩
  rcases hS with ⟨rfl, rfl⟩ | ⟨a, rfl, ha, hne⟩
  · refine ⟨_, rfl, rfl, _, rfl, iteT ?_⟩
    have h := q H (Same.refl H)
    unfold endS at h
    rw [if_pos rfl] at h
    exact ⟨_, rfl, t, _, 4, _, rfl, rfl, SqT.of hT.tp, rfl, h⟩
  refine ⟨_, rfl, rfl, _, rfl, iteF ?_⟩
  refine ⟨_, rfl, a, rfl, ⟨_, SqT.of ha⟩, fun L hL => ?_⟩
  refine lc_tup (K := K) (a := a) (xs := natsV S) (fun k H3 => Same H H3 ∧ H3 L = some (.lst (((S.take k).map fun x => decide (x ∈ (gl e 0).lst)).map V.bl))) ⟨same_upd hL, upd_same⟩ (fun k H3 _ h => SqT.of (h.1 _ _ ha)) (fun k v H3 hv h => ?_) (fun H3 h => ?_)
  · obtain ⟨s3, hL3⟩ := h
    obtain ⟨x, hx, rfl⟩ := natsV_get hv
    refine ⟨rfl, tyes ⟨_, rfl, _, rfl, t, _, 2, _, rfl, rfl, SqT.of (s3 _ _ hT.tp), rfl, l, _, rfl, .inl (SqL.of (s3 _ _ hT.ls)), rfl, flat_nats _, ?_⟩⟩
    refine ⟨_, hL3, ?_, fun b o' hb => by rw [upd_ne (ne_of_none hb hL)]; exact s3 _ _ hb, ?_⟩
    · rw [List.length_map, List.length_map, List.length_take]
      exact Nat.lt_of_le_of_lt (m := 100) (by omega) (by decide)
    · rw [upd_same, take_snoc hx, List.map_append, List.map_append]
      show _ = some (HO.lst (_ ++ [V.bl (decide (x ∈ (gl e 0).lst))]))
      rw [← in_nats]
      rfl
  · obtain ⟨s3, hL3⟩ := h
    rw [natsV_len, List.take_length] at hL3
    refine ⟨L, _, rfl, SqL.of hL3, ?_⟩
    have e2 : (S.map fun x => decide (x ∈ (gl e 0).lst)).any id = endS e S := by
      unfold endS
      rw [if_neg hne, List.any_map]
      rfl
    rw [e2]
    exact q H3 s3
end
end My
namespace My
open PySem PySem.Spec PyProof.Rows L2
/-! ### right words found by cutting -/
def spCEnds (n : Nat) : Sp := fun vs H Q _ => ∃ (v : V) (e : E) (z : Str) (s : Nat), vs = [v, .str z, .int s] ∧ e.ok = true ∧ e.depth < n ∧ e.parts ≤ 100 ∧ Rep H v e.toD ∧ z.length ≤ 8 ∧ s ≤ z.length ∧
  ∀ (q : Addr) (L : List Nat) H', H q = none → Same H H' → H' q = some (.lst (natsV L)) → L.Nodup → (∀ b, b ∈ L ↔ Go' (MW e) z.cps.toList s b) → Q (.ref q) H'
def rNotInB (K : PySem.W.Frag) : R2 := rIn K true
theorem op_notin_seqB {X : Cx} {K : PySem.W.Frag} (hK : X.K = K) : OpR X (compareOp .NotIn) (rNotInB K) := by
  subst hK
  exact op_notIn_seq
theorem bound_len {n : Nat} {l : List Nat} (h1 : l.Nodup) (h2 : ∀ x ∈ l, x ≤ n) : l.length ≤ n + 1 := by
  have := nodup_len (n + 1) (l.map fun (n : Nat) => (n : Int)) (by
    refine List.pairwise_map.mpr (h1.imp fun {a b} hab hc => hab ?_)
    omega) fun x hx => by
    obtain ⟨p, hp, rfl⟩ := List.mem_map.mp hx
    have := h2 p hp
    omega
  rw [List.length_map] at this
  exact this
theorem sset_go {K : PySem.W.Frag} {w : World} {H : Hp} {f : Addr} {ns : List Nat} {n : Nat} {Q : VK} (hf : H f = some (.lst (natsV ns))) (hb : ∀ x ∈ ns, x ≤ n) (hn : n ≤ 60) (hl : ns.length ≤ 3072)
    (q : ∀ (p : Addr) (ks : List Nat) H', H p = none → Same H H' → H' p = some (.lst (natsV ks)) → ks.Nodup → (∀ x, x ∈ ks ↔ x ∈ ns) → Q (.ref p) H') : rSetL K w [V.ref f] H fun x H1 => rSortedSet w [x] H1 Q := by
  refine ⟨f, ns.map fun (n : Nat) => (n : Int), rfl, SqL.of (by rw [hf, natsV_int]), by rw [List.length_map]; exact Nat.lt_of_le_of_lt (Nat.succ_le_succ hl) (by decide), fun p1 n1 hp1 hn1 => ?_⟩
  have s2 := same_upd (o := SetO w p1 (fun j => decide (j ∈ ns.map fun (n : Nat) => (n : Int))) n1) hp1
  refine ⟨p1, _, n1, rfl, upd_same, ?_, fun ks p2 hk1 hk2 hk3 hp2 => ?_⟩
  · have := hn1 (n + 1) fun j hj => by
      obtain ⟨y, hy, rfl⟩ := List.mem_map.mp hj
      have := hb y hy
      omega
    omega
  have s3 := same_upd (o := .lst (ks.map V.int)) hp2
  have hpos : ∀ k ∈ ks, ∃ m : Nat, k = (m : Int) ∧ m ∈ ns := fun k hk => by
    obtain ⟨y, hy, e⟩ := List.mem_map.mp (of_decide_eq_true ((hk2 k).mp hk))
    exact ⟨y, e.symm, hy⟩
  have hmap : (ks.map Int.toNat).map (fun (n : Nat) => (n : Int)) = ks := by
    rw [List.map_map]
    refine (List.map_congr_left fun k hk => ?_).trans (List.map_id ks)
    obtain ⟨m, rfl, _⟩ := hpos k hk
    rfl
  have hnv : natsV (ks.map Int.toNat) = ks.map V.int := (natsV_int _).trans (congrArg (List.map V.int) hmap)
  refine q p2 (ks.map Int.toNat) _ (s2.free hp2) (s2.trans s3) (by rw [upd_same, hnv]) ?_ fun x => ?_
  · rw [List.Nodup, List.pairwise_map]
    refine hk1.imp_of_mem fun {a b} ha hb hab => ?_
    obtain ⟨m, rfl, _⟩ := hpos a ha
    obtain ⟨m2, rfl, _⟩ := hpos b hb
    show m ≠ m2
    omega
  · rw [List.mem_map]
    constructor
    · rintro ⟨k, hk, rfl⟩
      obtain ⟨m, rfl, hm⟩ := hpos k hk
      exact hm
    · intro hx
      exact ⟨(x : Int), (hk2 _).mpr (decide_eq_true (List.mem_map.mpr ⟨x, hx, rfl⟩)), rfl⟩
theorem srt_go {K : PySem.W.Frag} {H : Hp} {f : Addr} {ns : List Nat} {Q : VK} (hf : H f = some (.lst (natsV ns))) (hl : ns.length < 64)
    (q : ∀ (p : Addr) (ks : List Nat) H', H p = none → Same H H' → H' p = some (.lst (natsV ks)) → ks.Perm ns → Q (.ref p) H') : rSorted K [V.ref f] H Q := by
  refine ⟨f, ns.map fun (n : Nat) => (n : Int), rfl, SqL.of (by rw [hf, natsV_int]), by rw [List.length_map]; exact hl, fun ks p hk _ hp => ?_⟩
  have hm : (ks.map Int.toNat).Perm ns := by
    have h := hk.map Int.toNat
    rw [List.map_map] at h
    refine h.trans (List.Perm.of_eq ?_)
    exact (List.map_congr_left fun k _ => rfl).trans (List.map_id ns)
  have hmap : (ks.map Int.toNat).map (fun (n : Nat) => (n : Int)) = ks := by
    rw [List.map_map]
    refine (List.map_congr_left fun k h => ?_).trans (List.map_id ks)
    obtain ⟨m, _, rfl⟩ := List.mem_map.mp (hk.mem_iff.mp h)
    rfl
  exact q p (ks.map Int.toNat) _ hp (same_upd hp) (by rw [upd_same]; exact congrArg (fun l => some (HO.lst l)) ((natsV_int _).trans (congrArg (List.map V.int) hmap)).symm) hm
/-- the loop of a "many": what is found grows until it is closed -/
structure Clo (L : List Nat → Prop) (row : List Nat) (s : Nat) (g : List Nat) (turn : Nat) : Prop where
  nd : g.Nodup
  st : s ∈ g
  re : ∀ x ∈ g, Go' (Star L) row s x
  ln : (∀ x ∈ g, ∀ y, Go' L row x y → y ∈ g) ∨ turn < g.length
structure CloI (L : List Nat → Prop) (row : List Nat) (s : Nat) (g0 g : List Nat) (i : Nat) : Prop where
  nd : g.Nodup
  re : ∀ x ∈ g, Go' (Star L) row s x
  ex : ∃ ex, g = g0 ++ ex ∧ ∀ y ∈ ex, y ∉ g0 ∧ ∃ x ∈ g0, Go' L row x y
  dn : ∀ j x, j < i → g0[j]? = some x → ∀ y, Go' L row x y → y ∈ g
theorem CloI.sub {L : List Nat → Prop} {row g0 g : List Nat} {s i : Nat} (h : CloI L row s g0 g i) {x : Nat} (hx : x ∈ g0) : x ∈ g := by
  obtain ⟨ex, rfl, _⟩ := h.ex
  exact List.mem_append_left _ hx
theorem CloI.add {L : List Nat → Prop} {row g0 g : List Nat} {s i a b : Nat} (h : CloI L row s g0 g i) (ha : a ∈ g0) (hb : Go' L row a b) (hn : b ∉ g) : CloI L row s g0 (g ++ [b]) i where
  nd := by
    rw [List.nodup_append]
    refine ⟨h.nd, List.nodup_cons.mpr ⟨List.not_mem_nil, List.nodup_nil⟩, fun x hx y hy e => ?_⟩
    rw [List.mem_singleton] at hy
    subst hy
    subst e
    exact hn hx
  re := fun x hx => by
    rcases List.mem_append.mp hx with hx | hx
    · exact h.re x hx
    · rw [List.mem_singleton.mp hx]
      exact go_starS (h.re a (h.sub ha)) hb
  ex := by
    obtain ⟨ex, e, hex⟩ := h.ex
    refine ⟨ex ++ [b], by rw [e, List.append_assoc], fun y hy => ?_⟩
    rcases List.mem_append.mp hy with hy | hy
    · exact hex y hy
    · rw [List.mem_singleton.mp hy]
      exact ⟨fun c => hn (h.sub c), a, ha, hb⟩
  dn := fun j x hj hx y hy => List.mem_append_left _ (h.dn j x hj hx y hy)
theorem CloI.next {L : List Nat → Prop} {row g0 g : List Nat} {s i a : Nat} (h : CloI L row s g0 g i) (ha : g0[i]? = some a) (hd : ∀ y, Go' L row a y → y ∈ g) : CloI L row s g0 g (i + 1) where
  nd := h.nd
  re := h.re
  ex := h.ex
  dn := fun j x hj hx y hy => by
    by_cases c : j < i
    · exact h.dn j x c hx y hy
    · have : j = i := by omega
      subst this
      rw [ha] at hx
      obtain rfl := Option.some.inj hx
      exact hd y hy
theorem Clo.begin {L : List Nat → Prop} {row g : List Nat} {s turn : Nat} (h : Clo L row s g turn) : CloI L row s g g 0 := ⟨h.nd, h.re, ⟨[], by rw [List.append_nil], fun y hy => (nomatch hy)⟩, fun j x hj => absurd hj (Nat.not_lt_zero _)⟩
theorem Clo.step {L : List Nat → Prop} {row g0 g : List Nat} {s turn : Nat} (h : Clo L row s g0 turn) (k : CloI L row s g0 g g0.length) : Clo L row s g (turn + 1) where
  nd := k.nd
  st := k.sub h.st
  re := k.re
  ln := by
    obtain ⟨ex, e, hex⟩ := k.ex
    by_cases c : ∀ x ∈ g0, ∀ y, Go' L row x y → y ∈ g0
    · left
      have : ex = [] := by
        cases ex with
        | nil => rfl
        | cons y ys =>
          obtain ⟨h1, x, h2, h3⟩ := hex y (List.mem_cons_self ..)
          exact absurd (c x h2 y h3) h1
      rw [e, this, List.append_nil]
      exact c
    · right
      have h1 : turn < g0.length := h.ln.resolve_left c
      have : ex ≠ [] := by
        rintro rfl
        rw [List.append_nil] at e
        subst e
        refine c fun x hx y hy => ?_
        obtain ⟨j, hj⟩ := List.mem_iff_getElem?.mp hx
        exact k.dn j x (List.getElem?_eq_some_iff.mp hj).1 hj y hy
      have := List.length_pos_iff.mpr this
      rw [e, List.length_append]
      omega
theorem Clo.last {L : List Nat → Prop} {row g : List Nat} {s : Nat} (h : Clo L row s g (row.length + 1)) (b : Nat) : b ∈ g ↔ Go' (Star L) row s b := by
  have hl := bound_len h.nd fun x hx => go_le (h.re x hx)
  have hc := h.ln.resolve_right (by omega)
  exact ⟨h.re b, fun hg => go_closed (S := fun x => x ∈ g) (fun x y hx g => hc x hx y g) hg h.st⟩
theorem mem_le_sum : ∀ {l : List Nat} {x : Nat}, x ∈ l → x ≤ l.sum
  | y :: l, x, h => by
    rw [List.sum_cons]
    rcases List.mem_cons.mp h with rfl | h
    · omega
    · have := mem_le_sum h
      omega
theorem cutS_one (z : Str) (s k : Nat) : (cutS z (some (s : Int)) (some ((s + k : Nat) : Int))).cps.toList = (z.cps.toList.drop s).take k := by
  unfold cutS
  rw [HT.sIx_nat, HT.sIx_nat]
  show (z.cps.toList.drop (min s z.length)).take (min (s + k) z.length - min s z.length) = _
  have hl := len_toList2 z
  by_cases c : s ≤ z.length
  · rw [Nat.min_eq_left c]
    rw [List.take_eq_take_iff, List.length_drop]
    omega
  · rw [List.drop_eq_nil_of_le (by omega), List.drop_eq_nil_of_le (by omega)]
    simp
section
variable {P : Program} {w : World} {K : PySem.W.Frag} {mg : Str → Option Value} {base : Heap} {a_BOUNDS a_LONG_BOUNDS : Addr} {tL tM : Tok}
abbrev N__law_ends : List Str := ["expression", "word", "start", "ends", "part", "found", "place", "turn", "end"]
theorem sc__law_ends : FnScope ["expression", "word", "start", "ends", "part", "found", "place", "turn", "end"] ["expression", "word", "start"] (defScope s__law_ends) := ⟨rfl, rfl, rfl, by decide +kernel, rfl, by decide +kernel, by decide +kernel⟩
set_option maxHeartbeats 1000000 in
theorem ok_cends_step {f : Addr} {fd : FuncData} (B : Bt K mg a_BOUNDS a_LONG_BOUNDS tL tM) (Dd : Df K mg "_law_ends" s__law_ends ["expression", "word", "start"] f fd) (n : Nat)
    (G_law_ends : Cl P w K mg base n "_law_ends" ["expression", "word", "start"] (spCEnds n)) : FnOk P w K mg base CX0 (n + 1) f fd ["expression", "word", "start"] (spCEnds (n + 1)) := by
  refine Dd.F.ok sc__law_ends (fun vs H Q Ex h => ?_) (fun cdv A outer s H vs Q Ex hr h => ?_)
  · obtain ⟨v, e, z, s, rfl, _⟩ := h
    rfl
  obtain ⟨v, e, z, s, rfl, hok, hd, hpt, hR, hz8, hs, q⟩ := h
  refine ⟨_, (pss_cons (ps_if (pt_val (pe_callB call_isi rfl B.b_isinstance boot_isinstance (pa_cons (pv 0) (pa_cons (pe_bltn (v := .ty "str") rfl B.b_str boot_str rfl) pa_nil)))) (pss_one (ps_ret (pe_ifExp (pt_cmpR op_eq (pe_slice sl_str (pv 1) (po_some (pv 2)) (po_some (pe_op op_add (pv 2) (pe_callB (r := rLenOf K) call_lenK rfl B.b_len boot_len (pa_cons (pv 0) pa_nil))))) (pv 0) (nomark _)) (pe_lst (pa_cons (pe_op op_add (pv 2) (pe_callB (r := rLenOf K) call_lenK rfl B.b_len boot_len (pa_cons (pv 0) pa_nil))) pa_nil)) (pe_lst pa_nil)))) pss_nil)
    (pss_cons (ps_if (pt_cmpR op_eq (pe_ix (r := rIxT K) ix_tup (pv 0) pe_int (fun _ _ => rfl)) pe_str (nomark _)) (pss_cons (ps_set (i := 3) sc__law_ends.nd rfl (Or.inl rfl) (pe_lst (pa_cons (pv 2) pa_nil)))
    (pss_cons (ps_for PassesOwn.never rfl (pi_tup (pe_ix (r := rIxT K) ix_tup (pv 0) pe_int (fun _ _ => rfl))) (pg_name (i := 4) sc__law_ends.nd rfl (Or.inl rfl)) (pss_cons (ps_set (i := 5) sc__law_ends.nd rfl (Or.inl rfl) (pe_lst pa_nil))
    (pss_cons (ps_for PassesOwn.never rfl (pi_list (pv 3)) (pg_name (i := 6) sc__law_ends.nd rfl (Or.inl rfl)) (pss_one (ps_set (i := 5) sc__law_ends.nd rfl (Or.inl rfl) (pe_op op_cat (pv 5) (pe_cl G_law_ends (hr.mono (by omega)) rfl (pa_cons (pv 4) (pa_cons (pv 1) (pa_cons (pv 6) pa_nil))))))))
    (pss_one (ps_set (i := 3) sc__law_ends.nd rfl (Or.inl rfl) (pe_callB (cr_sortedSet rfl) rfl B.b_sorted boot_sorted (pa_cons (pe_callTy (cr_setL rfl) rfl B.b_set boot_set (pa_cons (pv 5) pa_nil)) pa_nil)))))))
    (pss_one (ps_ret (pv 3))))) pss_nil)
    (pss_cons (ps_if (pt_cmpR op_eq (pe_ix (r := rIxT K) ix_tup (pv 0) pe_int (fun _ _ => rfl)) pe_str (nomark _)) (pss_cons (ps_set (i := 5) sc__law_ends.nd rfl (Or.inl rfl) (pe_lst pa_nil))
    (pss_cons (ps_for PassesOwn.never rfl (pi_tup (pe_ix (r := rIxT K) ix_tup (pv 0) pe_int (fun _ _ => rfl))) (pg_name (i := 4) sc__law_ends.nd rfl (Or.inl rfl)) (pss_one (ps_set (i := 5) sc__law_ends.nd rfl (Or.inl rfl) (pe_op op_cat (pv 5) (pe_cl G_law_ends (hr.mono (by omega)) rfl (pa_cons (pv 4) (pa_cons (pv 1) (pa_cons (pv 2) pa_nil))))))))
    (pss_one (ps_ret (pe_callB (cr_sortedSet rfl) rfl B.b_sorted boot_sorted (pa_cons (pe_callTy (cr_setL rfl) rfl B.b_set boot_set (pa_cons (pv 5) pa_nil)) pa_nil)))))) pss_nil)
    (pss_cons (ps_if (pt_cmpR op_eq (pe_ix (r := rIxT K) ix_tup (pv 0) pe_int (fun _ _ => rfl)) pe_str (nomark _)) (pss_one (ps_ret (pe_callB (cr_sortedSet rfl) rfl B.b_sorted boot_sorted (pa_cons (pe_callTy (cr_setL rfl) rfl B.b_set boot_set (pa_cons (pe_op op_cat (pe_lst (pa_cons (pv 2) pa_nil)) (pe_cl G_law_ends (hr.mono (by omega)) rfl (pa_cons (pe_ix (r := rIxT K) ix_tup (pv 0) pe_int (fun _ _ => rfl)) (pa_cons (pv 1) (pa_cons (pv 2) pa_nil))))) pa_nil)) pa_nil)))) pss_nil)
    (pss_cons (ps_set (i := 5) sc__law_ends.nd rfl (Or.inl rfl) (pe_lst (pa_cons (pv 2) pa_nil)))
    (pss_cons (ps_for PassesOwn.never rfl (pi_range1 rfl B.b_range (pa_cons (pe_op op_add (pe_callB (r := rLenOf K) call_lenK rfl B.b_len boot_len (pa_cons (pv 1) pa_nil)) pe_int) pa_nil)) (pg_name (i := 7) sc__law_ends.nd rfl (Or.inl rfl)) (pss_one (ps_for PassesOwn.never rfl (pi_list (pe_callTy call_list_of rfl B.b_list boot_list (pa_cons (pv 5) pa_nil))) (pg_name (i := 6) sc__law_ends.nd rfl (Or.inl rfl)) (pss_one (ps_for PassesOwn.never rfl (pi_list (pe_cl G_law_ends (hr.mono (by omega)) rfl (pa_cons (pe_ix (r := rIxT K) ix_tup (pv 0) pe_int (fun _ _ => rfl)) (pa_cons (pv 1) (pa_cons (pv 6) pa_nil))))) (pg_name (i := 8) sc__law_ends.nd rfl (Or.inl rfl)) (pss_one (ps_if (pt_cmpR (r := rNotInB K) (op_notin_seqB rfl) (pv 8) (pv 5) rfl) (pss_one (ps_expr (pe_bm PySem.F.plainAttrs_list PySem.F.slot_list_append PySem.F.type_list_append mt_append (pv 5) (pa_cons (pv 8) pa_nil)))) pss_nil)))))))
    (pss_one (ps_ret (pe_callB cr_sorted rfl B.b_sorted boot_sorted (pa_cons (pv 5) pa_nil)))))))))), ?_⟩
  obtain ⟨ty, hty, k1, _⟩ := hR.ty (K := K)
  have hzl : z.cps.toList.length = z.length := len_toList2 z
  refine ⟨_, rfl, _, _, _, _, _, rfl, .ty _, hty, k1, _, rfl, ite2 (fun e1 => ?_) (fun e1 => ?_)⟩
  · obtain ⟨y, rfl, hyl, hyn, h3⟩ := leaf2 hR e1
    have hk1 : y.length ≤ 1 := by
      rcases h3 with ⟨rfl, _⟩ | ⟨c, rfl, _⟩
      · decide +kernel
      · exact Nat.le_refl _
    have hlv : ∀ {H'}, LenV K (.str y) H' y.length := fun {H'} => ⟨Nat.le_trans hk1 (by decide), rfl⟩
    refine ⟨_, rfl, _, rfl, (s : Int), rfl, _, rfl, _, rfl, _, y.length, rfl, hlv, _, _, rfl, rfl, _, rfl, z, rfl, Nat.le_trans hz8 (by decide), _, rfl, rfl, _, rfl, ?_⟩
    have hcut : ∀ g : Int, g = ((s + y.length : Nat) : Int) → (decide (V.str (cutS z (some (s : Int)) (some g)) = V.str y) = true ↔ (z.cps.toList.drop s).take y.length = y.cps.toList) := by
      rintro g rfl
      rw [decide_eq_true_eq, ← cutS_one]
      constructor
      · intro h
        rw [V.str.inj h]
      · intro h
        exact congrArg V.str (str_ext h)
    have hmem : ∀ b, Go' (MW e) z.cps.toList s b ↔ b = s + y.length ∧ (z.cps.toList.drop s).take y.length = y.cps.toList := by
      intro b
      rcases h3 with ⟨rfl, rfl⟩ | ⟨c, rfl, rfl⟩
      · have hy0 : (sNo : Str).length = 0 := by decide +kernel
        have hy1 : (sNo : Str).cps.toList = [] := by decide +kernel
        rw [hy0, hy1, List.take_zero]
        exact go_nil.trans ⟨fun h => ⟨h.1, rfl⟩, fun h => ⟨h.1, by omega⟩⟩
      · refine go_one.trans ⟨fun h => ⟨h.1, ?_⟩, fun h => ⟨h.1, ?_⟩⟩
        · obtain ⟨h1, h2⟩ := List.getElem?_eq_some_iff.mp h.2
          rw [List.drop_eq_getElem_cons h1, h2]
          rfl
        · have h1 : ((z.cps.toList.drop s).take 1)[0]? = some c := by
            have := h.2
            rw [show (⟨#[c]⟩ : Str).length = 1 from rfl] at this
            rw [this]
            rfl
          rw [List.getElem?_take_of_lt (by decide), List.getElem?_drop] at h1
          exact h1
    refine ite2 (fun c1 => ?_) (fun c1 => ?_)
    · have c2 := (hcut _ (by omega)).mp c1
      refine ⟨_, rfl, _, rfl, _, y.length, rfl, hlv, _, _, rfl, rfl, by show 1 ≤ sizeLine; decide, fun L hL => ?_⟩
      refine q L [s + y.length] _ hL (same_upd hL) (by rw [upd_same]; exact congrArg (fun i => some (HO.lst [V.int i])) (by omega)) (List.nodup_cons.mpr ⟨List.not_mem_nil, List.nodup_nil⟩) fun b => ?_
      rw [hmem, List.mem_singleton]
      exact ⟨fun h => ⟨h, c2⟩, fun h => h.1⟩
    · refine ⟨by show 0 ≤ sizeLine; decide, fun L hL => ?_⟩
      refine q L [] _ hL (same_upd hL) (by rw [upd_same]; rfl) List.nodup_nil fun b => ?_
      rw [hmem]
      exact ⟨fun h => (nomatch h), fun h => absurd ((hcut _ (by omega)).mpr h.2) c1⟩
  obtain ⟨w', p, x, rfl, hp, hw, hk⟩ := node2 hok hR e1
  refine ⟨_, rfl, p, _, 0, _, rfl, rfl, SqT.of hp, at_zero, rfl, _, rfl, ?_⟩
  rcases hk with ⟨_, b, k, rfl, rfl, hx, hko, hkd⟩ | ⟨_, b, es, p2, xs, rfl, rfl, rfl, h4, h5, hX, hks⟩
  · refine ite2 (fun c => absurd c (by cases b <;> decide +kernel)) (fun _ => ?_)
    refine ⟨_, rfl, p, _, 0, _, rfl, rfl, SqT.of hp, at_zero, rfl, _, rfl, ite2 (fun c => absurd c (by cases b <;> decide +kernel)) (fun _ => ?_)⟩
    rw [wrap_parts] at hpt
    refine ⟨_, rfl, p, _, 0, _, rfl, rfl, SqT.of hp, at_zero, rfl, _, rfl, ?_⟩
    cases b with
    | false =>
      refine ite2 (fun _ => ?_) (fun c => absurd (by decide +kernel) c)
      refine ⟨_, rfl, by show 1 ≤ sizeLine; decide, fun L1 hL1 => ?_⟩
      have s1 := same_upd (o := .lst [V.int (s : Nat)]) hL1
      refine ⟨_, rfl, p, _, 1, x, rfl, rfl, SqT.of (s1 _ _ hp), at_one, _, rfl, _, rfl, x, k, z, s, rfl, hko, by omega, by omega, hx.pers (Pers.same s1), hz8, hs, fun q2 L2 H3 _ s3 hq2 hn2 hm2 => ?_⟩
      have hbL : ∀ b ∈ L2, b ≤ z.length := fun b hb' => by
        have := go_le ((hm2 b).mp hb')
        omega
      have l2 := bound_len hn2 hbL
      refine ⟨L1, q2, _, _, rfl, rfl, s3 _ _ upd_same, hq2, by rw [natsV_len]; exact Nat.le_trans (m := 20) (by show 1 + L2.length ≤ 20; omega) (by decide), fun p6 hp6 => ?_⟩
      have s6 := same_upd (o := .lst ([V.int (s : Nat)] ++ natsV L2)) hp6
      refine sset_go (ns := s :: L2) (n := 8) (by rw [upd_same]; rfl) (fun y hy => ?_) (by decide) (by rw [List.length_cons]; omega) fun p7 ks H7 n7 s7 hp7 hnd hks => ?_
      · rcases List.mem_cons.mp hy with rfl | hy
        · omega
        · have := hbL y hy
          omega
      · refine q p7 ks H7 ((s1.trans s3).trans s6 |>.free n7) ((s1.trans s3).trans (s6.trans s7)) hp7 hnd fun b => ?_
        rw [hks, List.mem_cons, hm2]
        exact (go_or.trans (or_congr (go_nil.trans ⟨fun h => h.1, fun h => ⟨h, by omega⟩⟩) Iff.rfl)).symm
    | true =>
      refine ite2 (fun c => absurd c (by decide +kernel)) (fun _ => ?_)
      refine ⟨_, rfl, by show 1 ≤ sizeLine; decide, fun F0 hF0 => ?_⟩
      have s1 := same_upd (o := .lst [V.int (s : Nat)]) hF0
      refine ⟨_, rfl, _, z.length, rfl, ⟨Nat.le_trans hz8 (by decide), rfl⟩, _, _, rfl, rfl, _, rfl, by omega, by omega, for_range (lo := 0) (n := (((z.length : Nat) : Int) + 1).toNat) (fun i σ' H' => ∃ (g : List Nat) (o6 o7 o8 : Option V), σ' = [some (.ref p), some (.str z), some (.int (s : Nat)), none, none, some (.ref F0), o6, o7, o8] ∧ Same H H' ∧ H' F0 = some (.lst (natsV g)) ∧ Clo (MW k) z.cps.toList s g i) ?_ ?_ ?_⟩
      · exact ⟨[s], none, none, none, rfl, s1, upd_same, List.nodup_cons.mpr ⟨List.not_mem_nil, List.nodup_nil⟩, List.mem_singleton.mpr rfl, fun x hx => by rw [List.mem_singleton.mp hx]; exact go_star0 (by omega), .inr (Nat.zero_lt_one)⟩
      · rintro i σ' H2 hi ⟨g, o6, o7, o8, rfl, s2, hg, hC⟩
        have hgl := bound_len hC.nd fun x hx => go_le (hC.re x hx)
        refine ⟨_, rfl, F0, natsV g, rfl, .inl (SqL.of hg), fun C hC0 => ?_⟩
        have s3 := same_upd (o := .lst (natsV g)) hC0
        have hCF : C ≠ F0 := (ne_of_none hg hC0).symm
        have hz0 : H C = none := s2.free hC0
        refine ⟨C, rfl, ⟨_, SqL.of upd_same⟩, for_list (K := K) (a := C) (xs := natsV g) (fun i2 σ' H' => ∃ (g2 : List Nat) (o6 o8 : Option V), σ' = [some (.ref p), some (.str z), some (.int (s : Nat)), none, none, some (.ref F0), o6, some (.int (0 + (i : Int))), o8] ∧ Same H H' ∧ H' F0 = some (.lst (natsV g2)) ∧ H' C = some (.lst (natsV g)) ∧ CloI (MW k) z.cps.toList s g g2 i2) ?_ ?_ ?_ ?_⟩
        · exact ⟨g, _, _, rfl, s2.trans s3, s3 _ _ hg, upd_same, hC.begin⟩
        · rintro i2 σ' H' _ ⟨g2, o6', o8', rfl, _, _, h, _⟩
          exact SqL.of h
        · rintro i2 v2 σ' H4 hv2 ⟨g2, o6', o8', rfl, s4, hg4, hC4, hI⟩
          obtain ⟨a, ha, rfl⟩ := natsV_getB hv2
          have hag := List.mem_of_getElem? ha
          have haz : a ≤ z.length := by
            have := go_le (hC.re a hag)
            omega
          refine ⟨_, rfl, p, _, 1, x, rfl, rfl, SqT.of (s4 _ _ hp), at_one, _, rfl, _, rfl, x, k, z, a, rfl, hko, by omega, by omega, hx.pers (Pers.same s4), hz8, haz, fun q2 L2 H5 n2 s5 hq2 hn2 hm2 => ?_⟩
          have hqF : q2 ≠ F0 := (ne_of_none hg4 n2).symm
          refine ⟨q2, rfl, ⟨_, SqL.of hq2⟩, for_list (K := K) (a := q2) (xs := natsV L2) (fun j σ' H' => ∃ (g3 : List Nat) (o8 : Option V), σ' = [some (.ref p), some (.str z), some (.int (s : Nat)), none, none, some (.ref F0), some (.int (a : Nat)), some (.int (0 + (i : Int))), o8] ∧ Same H H' ∧ H' F0 = some (.lst (natsV g3)) ∧ H' C = some (.lst (natsV g)) ∧ H' q2 = some (.lst (natsV L2)) ∧ CloI (MW k) z.cps.toList s g g3 i2 ∧ ∀ y ∈ L2.take j, y ∈ g3) ?_ ?_ ?_ ?_⟩
          · exact ⟨g2, _, rfl, s4.trans s5, s5 _ _ hg4, s5 _ _ hC4, hq2, hI, fun y hy => by rw [List.take_zero] at hy; cases hy⟩
          · rintro j σ' H' _ ⟨g3, o8'', rfl, _, _, _, h, _⟩
            exact SqL.of h
          · rintro j v3 σ' H6 hv3 ⟨g3, o8'', rfl, s6, hg6, hC6, hq6, hI6, ht⟩
            obtain ⟨b, hb, rfl⟩ := natsV_getB hv3
            have hgo := (hm2 b).mp (List.mem_of_getElem? hb)
            have hgl3 := bound_len hI6.nd fun x hx => go_le (hI6.re x hx)
            refine ⟨_, rfl, _, rfl, F0, natsV g3, rfl, .inl (SqL.of hg6), rfl, flat_nats g3, _, rfl, ite2 (fun c => ?_) (fun c => ?_)⟩
            · have hbn : b ∉ g3 := fun hc => by
                have c : (!inV (V.int (b : Int)) (natsV g3)) = true := c
                rw [in_nats, decide_eq_true hc] at c
                cases c
              refine ⟨_, rfl, .inl ⟨rfl, _, SqL.of hg6⟩, _, rfl, F0, _, _, rfl, rfl, hg6, by rw [natsV_len]; exact Nat.lt_of_le_of_lt (m := 20) (by omega) (by decide), ?_⟩
              refine ⟨g3 ++ [b], _, rfl, fun b' o hb' => by rw [upd_ne (ne_of_none hb' hF0)]; exact s6 _ _ hb', by rw [upd_same, ← natsV_app]; rfl, by rw [upd_ne hCF]; exact hC6, by rw [upd_ne hqF]; exact hq6, hI6.add hag hgo hbn, fun y hy => ?_⟩
              rw [take_snoc hb] at hy
              rcases List.mem_append.mp hy with hy | hy
              · exact List.mem_append_left _ (ht y hy)
              · exact List.mem_append_right _ hy
            · have hbn : b ∈ g3 := by
                rcases (inferInstance : Decidable (b ∈ g3)) with h | h
                · refine absurd ?_ c
                  show (!inV (V.int (b : Int)) (natsV g3)) = true
                  rw [in_nats, decide_eq_false h]
                  rfl
                · exact h
              refine ⟨g3, _, rfl, s6, hg6, hC6, hq6, hI6, fun y hy => ?_⟩
              rw [take_snoc hb] at hy
              rcases List.mem_append.mp hy with hy | hy
              · exact ht y hy
              · rw [List.mem_singleton.mp hy]
                exact hbn
          · rintro σ' H6 ⟨g3, o8'', rfl, s6, hg6, hC6, hq6, hI6, ht⟩
            rw [natsV_len, List.take_length] at ht
            exact ⟨g3, _, _, rfl, s6, hg6, hC6, hI6.next ha fun y hy => ht y ((hm2 y).mpr hy)⟩
        · rintro σ' H4 ⟨g2, o6', o8', rfl, s4, hg4, hC4, hI⟩
          rw [natsV_len] at hI
          exact ⟨g2, _, _, _, rfl, s4, hg4, hC.step hI⟩
      · rintro σ' H2 ⟨g, o6, o7, o8, rfl, s2, hg, hC⟩
        have hgl := bound_len hC.nd fun x hx => go_le (hC.re x hx)
        refine ⟨_, rfl, srt_go hg (by omega) fun p7 ks H7 n7 s7 hp7 hpm => ?_⟩
        refine q p7 ks H7 (s2.free n7) (s2.trans s7) hp7 (hpm.nodup_iff.mpr hC.nd) fun b => ?_
        rw [hpm.mem_iff]
        have e0 : ((z.length : Nat) : Int) + 1 = ((z.cps.toList.length + 1 : Nat) : Int) := by omega
        rw [e0, Int.toNat_natCast] at hC
        exact hC.last b
  have hl2 := hX.len
  rw [List.length_map] at hl2
  rw [row_parts] at hpt
  have hel : es.length ≤ 100 := by
    have := sum_pred es
    omega
  have hkp : ∀ k ∈ es, k.parts ≤ 100 := fun k hk => by
    have := mem_le_sum (List.mem_map.mpr ⟨k, hk, rfl⟩ : k.parts ∈ es.map E.parts)
    omega
  cases b with
  | true =>
    refine ite2 (fun _ => ?_) (fun c => absurd (by decide +kernel) c)
    refine ⟨_, rfl, by show 1 ≤ sizeLine; decide, fun E1 hE1 => ?_⟩
    have s1 := same_upd (o := .lst [V.int (s : Nat)]) hE1
    refine ⟨_, rfl, p, _, 1, _, rfl, rfl, SqT.of (s1 _ _ hp), at_one, p2, rfl, ⟨_, SqT.of (s1 _ _ h4)⟩, for_tup (K := K) (a := p2) (xs := xs) (fun i σ' H' => ∃ (eL : Addr) (g : List Nat) (o4 o5 o6 : Option V), σ' = [some (.ref p), some (.str z), some (.int (s : Nat)), some (.ref eL), o4, o5, o6, none, none] ∧ Same H H' ∧ H eL = none ∧ H' eL = some (.lst (natsV g)) ∧ g.Nodup ∧ (∀ b ∈ g, b ≤ z.length) ∧ ∀ b, (∃ a ∈ g, Go' (MW.mwJ (es.drop i)) z.cps.toList a b) ↔ Go' (MW.mwJ es) z.cps.toList s b) ?_ ?_ ?_ ?_⟩
    · refine ⟨E1, [s], none, none, none, rfl, s1, hE1, upd_same, List.nodup_cons.mpr ⟨List.not_mem_nil, List.nodup_nil⟩, fun b hb => by rw [List.mem_singleton.mp hb]; exact hs, fun b => ?_⟩
      rw [List.drop_zero]
      exact ⟨fun ⟨a, ha, h⟩ => by rw [List.mem_singleton.mp ha] at h; exact h, fun h => ⟨s, List.mem_singleton.mpr rfl, h⟩⟩
    · rintro i σ' H' _ ⟨_, _, _, _, _, _, s2, _⟩
      exact SqT.of (s2 _ _ h4)
    · rintro i v2 σ' H2 hv2 ⟨eL, g, o4, o5, o6, rfl, s2, nE, hg, hnd, hgb, hm⟩
      obtain ⟨d, hd1, hxd⟩ := hX.get hv2
      rw [List.getElem?_map] at hd1
      obtain ⟨k, hk, rfl⟩ := Option.map_eq_some_iff.mp hd1
      have hmem := List.mem_of_getElem? hk
      obtain ⟨hk1, hk2⟩ := hks k hmem
      obtain ⟨hkl, hke⟩ := List.getElem?_eq_some_iff.mp hk
      have dr : es.drop i = k :: es.drop (i + 1) := by rw [List.drop_eq_getElem_cons hkl, hke]
      have hgl := bound_len hnd hgb
      refine ⟨by show 0 ≤ sizeLine; decide, fun F hF => ?_⟩
      have s3 := same_upd (o := .lst []) hF
      refine ⟨_, rfl, eL, rfl, ⟨_, SqL.of (s3 _ _ hg)⟩, for_list (K := K) (a := eL) (xs := natsV g) (fun j σ' H' => ∃ (fA : Addr) (l : List Nat) (o6 : Option V), σ' = [some (.ref p), some (.str z), some (.int (s : Nat)), some (.ref eL), some v2, some (.ref fA), o6, none, none] ∧ Same H H' ∧ H' eL = some (.lst (natsV g)) ∧ H' fA = some (.lst (natsV l)) ∧ l.length ≤ 10 * j ∧ ∀ b, b ∈ l ↔ ∃ a ∈ g.take j, Go' (MW k) z.cps.toList a b) ?_ ?_ ?_ ?_⟩
      · exact ⟨F, [], _, rfl, s2.trans s3, s3 _ _ hg, upd_same, Nat.le_refl _, fun b => ⟨fun h => (nomatch h), fun ⟨a, ha, _⟩ => by rw [List.take_zero] at ha; cases ha⟩⟩
      · rintro j σ' H' _ ⟨_, _, _, rfl, _, h, _⟩
        exact SqL.of h
      · rintro j v3 σ' H4 hv3 ⟨fA, l, o6', rfl, s4, hg4, hf4, hll, hlm⟩
        obtain ⟨a, ha, rfl⟩ := natsV_getB hv3
        have hjg := (List.getElem?_eq_some_iff.mp ha).1
        refine ⟨_, rfl, _, rfl, _, rfl, _, rfl, v2, k, z, a, rfl, hk1, by omega, hkp k hmem, hxd.pers (Pers.same s4), hz8, hgb a (List.mem_of_getElem? ha), fun q2 L2 H5 n2 s5 hq2 hn2 hm2 => ?_⟩
        have l2 := bound_len hn2 fun b hb' => by
          have := go_le ((hm2 b).mp hb')
          exact this
        refine ⟨fA, q2, _, _, rfl, rfl, s5 _ _ hf4, hq2, by rw [natsV_len, natsV_len]; exact Nat.le_trans (m := 200) (by omega) (by decide), fun p6 hp6 => ?_⟩
        have s6 := same_upd (o := .lst (natsV l ++ natsV L2)) hp6
        refine ⟨p6, l ++ L2, _, rfl, s4.trans (s5.trans s6), s6 _ _ (s5 _ _ hg4), by rw [upd_same, natsV_app], by rw [List.length_append]; omega, fun b => ?_⟩
        rw [List.mem_append, hlm, hm2, take_snoc ha]
        constructor
        · rintro (⟨c, hc, h⟩ | h)
          · exact ⟨c, List.mem_append_left _ hc, h⟩
          · exact ⟨a, List.mem_append_right _ (List.mem_singleton.mpr rfl), h⟩
        · rintro ⟨c, hc, h⟩
          rcases List.mem_append.mp hc with hc | hc
          · exact .inl ⟨c, hc, h⟩
          · rw [List.mem_singleton.mp hc] at h
            exact .inr h
      · rintro σ' H4 ⟨fA, l, o6', rfl, s4, hg4, hf4, hll, hlm⟩
        rw [natsV_len, List.take_length] at hlm
        rw [natsV_len] at hll
        have hlb : ∀ b ∈ l, b ≤ z.length := fun b hb => by
          obtain ⟨a, _, h⟩ := (hlm b).mp hb
          have := go_le h
          omega
        refine ⟨_, rfl, ?_⟩
        show rSetL K w [V.ref fA] H4 (fun x H1 => rSortedSet w [x] H1 (fun x H1 => gName 3 x _ H1 _))
        refine sset_go hf4 (n := 8) (fun b hb => by have := hlb b hb; omega) (by decide) (by omega) fun p7 ks H7 n7 s7 hp7 hnd7 hks7 => ?_
        refine ⟨p7, ks, _, _, _, rfl, s4.trans s7, s4.free n7, hp7, hnd7, fun b hb => hlb b ((hks7 b).mp hb), fun b => ?_⟩
        rw [← hm b, dr]
        constructor
        · rintro ⟨c, hc, h⟩
          obtain ⟨a, ha, h0⟩ := (hlm c).mp ((hks7 c).mp hc)
          exact ⟨a, ha, go_seq.mpr ⟨c, h0, h⟩⟩
        · rintro ⟨a, ha, h⟩
          obtain ⟨c, h0, h1⟩ := go_seq.mp h
          exact ⟨c, (hks7 c).mpr ((hlm c).mpr ⟨a, ha, h0⟩), h1⟩
    · rintro σ' H2 ⟨eL, g, o4, o5, o6, rfl, s2, nE, hg, hnd, hgb, hm⟩
      refine ⟨_, rfl, q eL g H2 nE s2 hg hnd fun b => ?_⟩
      have dn : es.drop xs.length = [] := List.drop_eq_nil_of_le (by omega)
      have hb2 := hm b
      rw [dn] at hb2
      show _ ↔ Go' (MW.mwJ es) z.cps.toList s b
      rw [← hb2]
      constructor
      · exact fun h => ⟨b, h, go_nil.mpr ⟨rfl, by have := hgb b h; omega⟩⟩
      · rintro ⟨a, ha, h⟩
        rw [(go_nil.mp h).1]
        exact ha
  | false =>
    refine ite2 (fun c => absurd c (by decide +kernel)) (fun _ => ?_)
    refine ⟨_, rfl, p, _, 0, _, rfl, rfl, SqT.of hp, at_zero, rfl, _, rfl, ite2 (fun _ => ?_) (fun c => absurd (by decide +kernel) c)⟩
    refine ⟨by show 0 ≤ sizeLine; decide, fun F hF => ?_⟩
    have s1 := same_upd (o := .lst []) hF
    refine ⟨_, rfl, p, _, 1, _, rfl, rfl, SqT.of (s1 _ _ hp), at_one, p2, rfl, ⟨_, SqT.of (s1 _ _ h4)⟩, for_tup (K := K) (a := p2) (xs := xs) (fun i σ' H' => ∃ (fA : Addr) (l : List Nat) (o4 : Option V), σ' = [some (.ref p), some (.str z), some (.int (s : Nat)), none, o4, some (.ref fA), none, none, none] ∧ Same H H' ∧ H' fA = some (.lst (natsV l)) ∧ l.length ≤ 10 * i ∧ (∀ b ∈ l, b ≤ z.length) ∧ ∀ b, (b ∈ l ∨ Go' (MW.mwA (es.drop i)) z.cps.toList s b) ↔ Go' (MW.mwA es) z.cps.toList s b) ?_ ?_ ?_ ?_⟩
    · exact ⟨F, [], none, rfl, s1, upd_same, Nat.le_refl _, (fun b hb => (nomatch hb)), fun b => ⟨fun h => h.resolve_left fun h => (nomatch h), .inr⟩⟩
    · rintro i σ' H' _ ⟨_, _, _, rfl, s2, _⟩
      exact SqT.of (s2 _ _ h4)
    · rintro i v2 σ' H2 hv2 ⟨fA, l, o4, rfl, s2, hf2, hll, hlb, hm⟩
      obtain ⟨d, hd1, hxd⟩ := hX.get hv2
      rw [List.getElem?_map] at hd1
      obtain ⟨k, hk, rfl⟩ := Option.map_eq_some_iff.mp hd1
      have hmem := List.mem_of_getElem? hk
      obtain ⟨hk1, hk2⟩ := hks k hmem
      obtain ⟨hkl, hke⟩ := List.getElem?_eq_some_iff.mp hk
      have dr : es.drop i = k :: es.drop (i + 1) := by rw [List.drop_eq_getElem_cons hkl, hke]
      refine ⟨_, rfl, _, rfl, _, rfl, _, rfl, v2, k, z, s, rfl, hk1, by omega, hkp k hmem, hxd.pers (Pers.same s2), hz8, hs, fun q2 L2 H5 n2 s5 hq2 hn2 hm2 => ?_⟩
      have hb2 : ∀ b ∈ L2, b ≤ z.length := fun b hb' => by
        have := go_le ((hm2 b).mp hb')
        omega
      have l2 := bound_len hn2 hb2
      refine ⟨fA, q2, _, _, rfl, rfl, s5 _ _ hf2, hq2, by rw [natsV_len, natsV_len]; exact Nat.le_trans (m := 2000) (by omega) (by decide), fun p6 hp6 => ?_⟩
      have s6 := same_upd (o := .lst (natsV l ++ natsV L2)) hp6
      refine ⟨p6, l ++ L2, _, rfl, s2.trans (s5.trans s6), by rw [upd_same, natsV_app], by rw [List.length_append]; omega, fun b hb => ?_, fun b => ?_⟩
      · rcases List.mem_append.mp hb with h | h
        · exact hlb b h
        · exact hb2 b h
      · rw [← hm b, dr, List.mem_append, hm2, or_assoc]
        exact or_congr Iff.rfl go_or.symm
    · rintro σ' H2 ⟨fA, l, o4, rfl, s2, hf2, hll, hlb, hm⟩
      refine ⟨_, rfl, sset_go hf2 (n := 8) (fun b hb => by have := hlb b hb; omega) (by decide) (by omega) fun p7 ks H7 n7 s7 hp7 hnd7 hks7 => ?_⟩
      refine q p7 ks H7 (s2.free n7) (s2.trans s7) hp7 hnd7 fun b => ?_
      have dn : es.drop xs.length = [] := List.drop_eq_nil_of_le (by omega)
      have hb2 := hm b
      rw [dn] at hb2
      show _ ↔ Go' (MW.mwA es) z.cps.toList s b
      rw [← hb2, hks7]
      refine ⟨.inl, fun h => h.resolve_right ?_⟩
      rintro ⟨u, t, hu, _⟩
      exact hu
end
end My
namespace My
open PySem PySem.Spec PyProof.Rows L2
/-! ### all words up to a length, the right ones of them -/
def lvW (ls : List Nat) : Nat → List (List Nat)
  | 0 => [[]]
  | n + 1 => (lvW ls n).flatMap fun w => ls.map fun c => w ++ [c]
def upW (ls : List Nat) (n : Nat) : List (List Nat) := (List.range (n + 1)).flatMap (lvW ls)
theorem upW_succ (ls : List Nat) (n : Nat) : upW ls (n + 1) = upW ls n ++ lvW ls (n + 1) := by
  unfold upW
  rw [List.range_succ, List.flatMap_append, List.flatMap_singleton]
theorem fm_len (ls : List Nat) : ∀ (l : List (List Nat)), (l.flatMap fun w => ls.map fun c => w ++ [c]).length = l.length * ls.length
  | [] => by simp
  | s :: l => by rw [List.flatMap_cons, List.length_append, fm_len ls l, List.length_map, List.length_cons, Nat.succ_mul, Nat.add_comm]
theorem lvW_len (ls : List Nat) : ∀ n, (lvW ls n).length = ls.length ^ n
  | 0 => rfl
  | n + 1 => by rw [lvW, fm_len, lvW_len ls n, Nat.pow_succ]
def spRightC : Sp := fun vs H Q _ => ∃ (v : V) (e : E) (u : List Nat), vs = [v, strV u] ∧ Esh e ∧ Rep H v e.toD ∧ u.length ≤ 8 ∧ ∀ (b : Bool) H', Same H H' → (b = true ↔ MW e u) → Q (.bl b) H'
def spTexts : Sp := fun vs H Q _ => ∃ (z : Str) (m : Nat), vs = [.str z, .int m] ∧ z.length ≤ 2 ∧ m ≤ 4 ∧ ∀ L H', H L = none → Same H H' → H' L = some (.lst ((upW z.cps.toList m).map strV)) → Q (.ref L) H'
theorem strw_snoc (u : List Nat) (c : Nat) : (⟨u.toArray⟩ : Str) ++ (⟨#[c]⟩ : Str) = ⟨(u ++ [c]).toArray⟩ := by
  refine str_ext ?_
  show (u.toArray ++ #[c]).toList = (u ++ [c]).toArray.toList
  simp
theorem strV_snoc (w : List Nat) (c : Nat) : V.str ((⟨w.toArray⟩ : Str) ++ (⟨#[c]⟩ : Str)) = strV (w ++ [c]) := by
  unfold strV
  rw [strw_snoc]
theorem lvW_wl {ls : List Nat} : ∀ {n : Nat} {u : List Nat}, u ∈ lvW ls n → u.length = n
  | 0, u, h => by
    rw [lvW, List.mem_singleton] at h
    rw [h]
    rfl
  | n + 1, u, h => by
    rw [lvW, List.mem_flatMap] at h
    obtain ⟨w, hw, hu⟩ := h
    obtain ⟨c, _, rfl⟩ := List.mem_map.mp hu
    rw [List.length_append, lvW_wl hw]
    rfl
theorem pow2 {l i : Nat} (h : l ≤ 2) (hi : i ≤ 4) : l ^ i ≤ 16 := Nat.le_trans (Nat.pow_le_pow_left h i) (Nat.pow_le_pow_right (n := 2) (by decide) hi)
theorem upW_len {ls : List Nat} (h : ls.length ≤ 2) : ∀ m, m ≤ 4 → (upW ls m).length ≤ 16 * (m + 1)
  | 0, _ => by
    show 1 ≤ _
    omega
  | m + 1, hm => by
    rw [upW_succ, List.length_append, lvW_len]
    have := upW_len h m (by omega)
    have := pow2 h hm
    omega
section
variable {P : Program} {w : World} {K : PySem.W.Frag} {mg : Str → Option Value} {base : Heap} {a_BOUNDS a_LONG_BOUNDS : Addr} {tL tM : Tok}
abbrev N__law_is_right : List Str := ["expression", "word"]
theorem sc__law_is_right : FnScope ["expression", "word"] ["expression", "word"] (defScope s__law_is_right) := ⟨rfl, rfl, rfl, by decide +kernel, rfl, by decide +kernel, by decide +kernel⟩
theorem ok_rightC {f : Addr} {fd : FuncData} (B : Bt K mg a_BOUNDS a_LONG_BOUNDS tL tM) (Dd : Df K mg "_law_is_right" s__law_is_right ["expression", "word"] f fd) (G_law_ends : Cl P w K mg base 7 "_law_ends" ["expression", "word", "start"] (spCEnds 7)) : FnOk P w K mg base CX0 8 f fd ["expression", "word"] spRightC := by
  refine Dd.F.ok sc__law_is_right (fun vs H Q Ex h => ?_) (fun cdv A outer s H vs Q Ex hr h => ?_)
  · obtain ⟨v, e, u, rfl, _⟩ := h
    rfl
  obtain ⟨v, e, u, rfl, hE, hR, hu, q⟩ := h
  refine ⟨_, (pss_one (ps_ret (pe_cmpR (r := rInB K) (op_in_seqB rfl) (pe_callB (r := rLenOf K) call_lenK rfl B.b_len boot_len (pa_cons (pv 1) pa_nil)) (pe_cl G_law_ends (hr.mono (by omega)) rfl (pa_cons (pv 0) (pa_cons (pv 1) (pa_cons pe_int pa_nil)))) rfl))), ?_⟩
  have hlu : (⟨u.toArray⟩ : Str).length = u.length := List.size_toArray ..
  refine ⟨_, rfl, _, u.length, rfl, ⟨Nat.le_trans (m := 8) (by rw [hlu]; exact hu) (by decide), hlu.symm⟩, _, rfl, _, rfl, v, e, ⟨u.toArray⟩, 0, rfl, hE.ok, by have := hE.dep; omega, by have := hE.pt; omega, hR, by rw [hlu]; exact hu, Nat.zero_le _, fun r L H1 _ s1 hr hn hm => ?_⟩
  refine ⟨r, _, rfl, .inl (SqL.of hr), rfl, flat_nats _, ?_⟩
  refine q _ H1 s1 ?_
  show inV (V.int (u.length : Int)) (natsV L) = true ↔ _
  rw [in_nats, decide_eq_true_eq, hm]
  exact go_all
abbrev N__law_texts : List Str := ["letters", "most", "found", "last", "length", "longer", "text", "letter"]
theorem sc__law_texts : FnScope ["letters", "most", "found", "last", "length", "longer", "text", "letter"] ["letters", "most"] (defScope s__law_texts) := ⟨rfl, rfl, rfl, by decide +kernel, rfl, by decide +kernel, by decide +kernel⟩
theorem ok_texts {f : Addr} {fd : FuncData} (B : Bt K mg a_BOUNDS a_LONG_BOUNDS tL tM) (Dd : Df K mg "_law_texts" s__law_texts ["letters", "most"] f fd) : FnOk P w K mg base CX0 1 f fd ["letters", "most"] spTexts := by
  refine Dd.F.ok sc__law_texts (fun vs H Q Ex h => ?_) (fun cdv A outer s H vs Q Ex hr h => ?_)
  · obtain ⟨z, m, rfl, _⟩ := h
    rfl
  obtain ⟨z, m, rfl, hz, hm, q⟩ := h
  refine ⟨_, (pss_cons (ps_set (i := 2) sc__law_texts.nd rfl (Or.inl rfl) (pe_lst (pa_cons pe_str pa_nil)))
    (pss_cons (ps_set (i := 3) sc__law_texts.nd rfl (Or.inl rfl) (pe_lst (pa_cons pe_str pa_nil)))
    (pss_cons (ps_for PassesOwn.never rfl (pi_range1 rfl B.b_range (pa_cons (pv 1) pa_nil)) (pg_name (i := 4) sc__law_texts.nd rfl (Or.inl rfl)) (pss_cons (ps_set (i := 5) sc__law_texts.nd rfl (Or.inl rfl) (pe_lst pa_nil))
    (pss_cons (ps_for PassesOwn.never rfl (pi_list (pv 3)) (pg_name (i := 6) sc__law_texts.nd rfl (Or.inl rfl)) (pss_one (ps_for PassesOwn.never rfl (pi_str (pv 0)) (pg_name (i := 7) sc__law_texts.nd rfl (Or.inl rfl)) (pss_one (ps_expr (pe_bm PySem.F.plainAttrs_list PySem.F.slot_list_append PySem.F.type_list_append mt_append (pv 5) (pa_cons (pe_op op_add_str (pv 6) (pv 7)) pa_nil)))))))
    (pss_cons (ps_set (i := 3) sc__law_texts.nd rfl (Or.inl rfl) (pv 5))
    (pss_one (ps_set (i := 2) sc__law_texts.nd rfl (Or.inl rfl) (pe_op op_cat (pv 2) (pv 3))))))))
    (pss_one (ps_ret (pv 2)))))), ?_⟩
  refine ⟨by show 1 ≤ sizeLine; decide, fun F0 hF0 => ⟨by show 1 ≤ sizeLine; decide, fun L0 hL0 => ?_⟩⟩
  have hF0' := hF0
  have s1 := same_upd (o := .lst [V.str (Str.ofString "")]) hF0
  have s2 := same_upd (o := .lst [V.str (Str.ofString "")]) hL0
  have hzl : z.cps.toList.length = z.length := len_toList2 z
  generalize hls : z.cps.toList = ls at hzl q
  have hl2 : ls.length ≤ 2 := by omega
  have e0 : ([[]] : List (List Nat)).map strV = [V.str (Str.ofString "")] := by
    show [strV []] = _
    exact congrArg (fun s => [V.str s]) (str_ext rfl)
  refine ⟨_, rfl, _, rfl, by omega, by omega, for_range (lo := 0) (n := ((m : Nat) : Int).toNat) (fun i σ' H' => ∃ (F L : Addr) (o4 o5 o6 o7 : Option V), σ' = [some (.str z), some (.int (m : Nat)), some (.ref F), some (.ref L), o4, o5, o6, o7] ∧ Same H H' ∧ H F = none ∧ H' F = some (.lst ((upW ls i).map strV)) ∧ H' L = some (.lst ((lvW ls i).map strV))) ?_ ?_ ?_⟩
  · refine ⟨F0, L0, none, none, none, none, rfl, s1.trans s2, hF0, ?_, ?_⟩
    · rw [s2 _ _ upd_same]
      exact congrArg (fun l => some (HO.lst l)) e0.symm
    · rw [upd_same]
      exact congrArg (fun l => some (HO.lst l)) e0.symm
  · rintro i σ' H1 hi ⟨F, L, o4, o5, o6, o7, rfl, s3, nF, hF, hL⟩
    have him : i < m := by omega
    refine ⟨by show 0 ≤ sizeLine; decide, fun G hG => ?_⟩
    have s4 := same_upd (o := .lst []) hG
    have hGF : F ≠ G := ne_of_none hF hG
    have hGL : L ≠ G := ne_of_none hL hG
    have nG : H G = none := s3.free hG
    have hlv := lvW_len ls i
    have hp2 := pow2 hl2 (by omega : i ≤ 4)
    refine ⟨_, rfl, L, rfl, ⟨_, SqL.of (s4 _ _ hL)⟩, for_list (K := K) (a := L) (xs := (lvW ls i).map strV) (fun j σ' H' => ∃ (o6 o7 : Option V), σ' = [some (.str z), some (.int (m : Nat)), some (.ref F), some (.ref L), some (.int (0 + (i : Int))), some (.ref G), o6, o7] ∧ Same H H' ∧ H' F = some (.lst ((upW ls i).map strV)) ∧ H' L = some (.lst ((lvW ls i).map strV)) ∧ H' G = some (.lst ((((lvW ls i).take j).flatMap fun w => ls.map fun c => w ++ [c]).map strV))) ?_ ?_ ?_ ?_⟩
    · exact ⟨_, _, rfl, s3.trans s4, s4 _ _ hF, s4 _ _ hL, upd_same⟩
    · rintro j σ' H' _ ⟨_, _, rfl, _, _, h, _⟩
      exact SqL.of h
    · rintro j v σ' H2 hv ⟨o6', o7', rfl, s5, hF2, hL2, hG2⟩
      rw [List.getElem?_map] at hv
      obtain ⟨u, hu, rfl⟩ := Option.map_eq_some_iff.mp hv
      have hju := (List.getElem?_eq_some_iff.mp hu).1
      have hul := lvW_wl (List.mem_of_getElem? hu)
      refine ⟨_, rfl, z, rfl, for_strB (z := z) (fun c σ' H' => ∃ (o7 : Option V), σ' = [some (.str z), some (.int (m : Nat)), some (.ref F), some (.ref L), some (.int (0 + (i : Int))), some (.ref G), some (strV u), o7] ∧ Same H H' ∧ H' F = some (.lst ((upW ls i).map strV)) ∧ H' L = some (.lst ((lvW ls i).map strV)) ∧ H' G = some (.lst (((((lvW ls i).take j).flatMap fun w => ls.map fun c => w ++ [c]) ++ (ls.take c).map fun c => u ++ [c]).map strV))) ?_ ?_ ?_⟩
      · refine ⟨_, rfl, s5, hF2, hL2, ?_⟩
        rw [hG2, List.take_zero, List.map_nil, List.append_nil]
      · rintro c ch σ' H3 hch ⟨o7'', rfl, s6, hF3, hL3, hG3⟩
        have hch' : ls[c]? = some ch := by rw [← hls, Array.getElem?_toList]; exact hch
        have hcl := (List.getElem?_eq_some_iff.mp hch').1
        refine ⟨_, rfl, .inl ⟨rfl, _, SqL.of hG3⟩, _, rfl, _, rfl, _, _, rfl, rfl, ?_, G, _, _, rfl, rfl, hG3, ?_, ?_⟩
        · show u.toArray.size + 1 ≤ sizeLine
          rw [List.size_toArray]
          exact Nat.le_trans (m := 10) (by omega) (by decide)
        · rw [List.length_map, List.length_append, fm_len, List.length_map, List.length_take, List.length_take]
          refine Nat.lt_of_le_of_lt (m := 100) ?_ (by decide)
          have := Nat.mul_le_mul (Nat.min_le_right j (lvW ls i).length) hl2
          omega
        · refine ⟨_, rfl, fun b o hb => by rw [upd_ne (ne_of_none hb nG)]; exact s6 _ _ hb, by rw [upd_ne hGF]; exact hF3, by rw [upd_ne hGL]; exact hL3, ?_⟩
          rw [upd_same, take_snoc hch', List.map_append, List.map_append, List.map_append (f := fun c => u ++ [c]), List.map_append (f := strV), ← List.append_assoc, strV_snoc]
          rfl
      · rintro σ' H3 ⟨o7'', rfl, s6, hF3, hL3, hG3⟩
        refine ⟨_, _, rfl, s6, hF3, hL3, ?_⟩
        have : z.cps.size = z.cps.toList.length := Array.length_toList.symm
        rw [hG3, take_snoc hu, List.flatMap_append, List.flatMap_singleton, this, hls, List.take_length]
    · rintro σ' H2 ⟨o6', o7', rfl, s5, hF2, hL2, hG2⟩
      rw [List.length_map, List.take_length] at hG2
      have hul := upW_len hl2 i (by omega)
      have hfl := fm_len ls (lvW ls i)
      have hG3 : H2 G = some (.lst ((lvW ls (i + 1)).map strV)) := hG2
      have hl1 := lvW_len ls (i + 1)
      have hp1 := pow2 hl2 (by omega : i + 1 ≤ 4)
      refine ⟨_, rfl, _, rfl, _, rfl, F, G, _, _, rfl, rfl, hF2, hG3, ?_, fun p6 hp6 => ?_⟩
      · rw [List.length_map, List.length_map]
        exact Nat.le_trans (m := 200) (by omega) (by decide)
      have s7 := same_upd (o := .lst ((upW ls i).map strV ++ (lvW ls (i + 1)).map strV)) hp6
      exact ⟨p6, G, _, _, _, _, rfl, s5.trans s7, s5.free hp6, by rw [upd_same, upW_succ, List.map_append], s7 _ _ hG3⟩
  · rintro σ' H1 ⟨F, L, o4, o5, o6, o7, rfl, s3, nF, hF, hL⟩
    rw [Int.toNat_natCast] at hF
    exact ⟨_, rfl, q F H1 nF s3 hF⟩
end
end My
namespace My
open PySem PySem.Spec PyProof.Rows L2
/-! ### right words of a length counted over sets of places -/
def OsAt (H : Hp) (v : V) (o : OS) : Prop := match o with
  | none => v = .non
  | some s => ∃ a, v = .ref a ∧ H a = some (.tup (natsV s))
theorem OsAt.tk {H H' : Hp} {v : V} {o : OS} (s : ∀ b xs, H b = some (.tup xs) → H' b = some (.tup xs)) (h : OsAt H v o) : OsAt H' v o := by
  cases o with
  | none => exact h
  | some t =>
    obtain ⟨a, h1, h2⟩ := h
    exact ⟨a, h1, s _ _ h2⟩
theorem OsAt.same {H H' : Hp} {v : V} {o : OS} (s : Same H H') (h : OsAt H v o) : OsAt H' v o := h.tk fun b xs hb => s _ _ hb
def HerO (P : Program) (w : World) (d : Addr) (u : HO) (kvs : AL) : Prop := (∃ n : Nat, u = ODict P w d (.int ((n : Nat) : Int)) ∧ kvs = [(none, n)]) ∨ ∃ ps : SN, u = .dT (dtS ps) ∧ kvs = someL ps ∧ (ps.map (·.1)).Nodup
theorem HerO.mut {P : Program} {w : World} {d : Addr} {u : HO} {kvs : AL} (h : HerO P w d u kvs) : Mut (some u) := by
  rcases h with ⟨n, rfl, _⟩ | ⟨ps, rfl, _⟩ <;> exact True.intro
theorem HerO.nlst {P : Program} {w : World} {d : Addr} {u : HO} {kvs : AL} (h : HerO P w d u kvs) (xs : List V) : u ≠ .lst xs ∧ u ≠ .tup xs := by
  rcases h with ⟨n, rfl, _⟩ | ⟨ps, rfl, _⟩ <;> exact ⟨(fun z => by cases z), fun z => by cases z⟩
theorem dtS_at {ps : SN} {i : Nat} {k : List L2.Key} {v : V} (h : (dtS ps)[i]? = some (k, v)) : ∃ s n, ps[i]? = some (s, n) ∧ k = keyS s ∧ v = V.int ((n : Nat) : Int) := by
  unfold dtS at h
  rw [List.getElem?_map] at h
  obtain ⟨⟨s, n⟩, h1, h2⟩ := Option.map_eq_some_iff.mp h
  cases h2
  exact ⟨s, n, h1, rfl, rfl⟩
theorem keysO_go {P : Program} {w : World} {d : Addr} {o : Obj} {u : HO} {kvs : AL} (h : HerO P w d u kvs) {td : TE} {σ : L2.St} {H1 : Hp} {R : It → Hp → Prop} (hd : H1 d = some (.frz o u)) (htd : ∀ Q : VK, Q (.ref d) H1 → td σ H1 Q)
    (hR : ∀ J, Walk J kvs.length (fun H => H d = some (.frz o u)) (fun i H x H' => H' = H ∧ ∃ p n, kvs[i]? = some (p, n) ∧ OsAt H x p) → R J H1) : iKeysO P w td σ H1 R := by
  rcases h with ⟨n, rfl, rfl⟩ | ⟨ps, rfl, rfl, _⟩
  · refine htd _ ⟨d, o, rfl, .inr ⟨_, hd, hR _ ⟨fun i H hi q => ⟨q, hi⟩, fun H q => ⟨q, Nat.le_refl _⟩, fun i H x H' hi q y => ⟨y.1, none, n, ?_, y.2⟩⟩⟩⟩
    have hi : i < 1 := hi
    obtain rfl : i = 0 := by omega
    rfl
  · have hl : (dtS ps).length = (someL ps).length := by unfold dtS someL; rw [List.length_map, List.length_map]
    refine htd _ ⟨d, o, rfl, .inl ⟨_, hd, hR _ ⟨fun i H hi q => ⟨q, by omega⟩, fun H q => ⟨q, by omega⟩, fun i H x H' hi q y => ?_⟩⟩⟩
    obtain ⟨y1, k, v, qa, y2, y3, y4⟩ := y
    obtain ⟨s, n, h1, rfl, rfl⟩ := dtS_at y2
    refine ⟨y1, some s, n, ?_, qa, y3, by rw [← keyS_kV]; exact y4⟩
    unfold someL
    rw [List.getElem?_map, h1]
    rfl
theorem her_get {P : Program} {w : World} {d : Addr} {u : HO} {kvs : AL} (h : HerO P w d u kvs) {H : Hp} {y : V} {p : OS} {n : Nat} (hd : Rd H d u) (hp : OsAt H y p) (hm : (p, n) ∈ kvs) : DGet H d y (some (.int ((n : Nat) : Int))) ∨ (y = .non ∧ RdO P w H d (.int ((n : Nat) : Int))) := by
  rcases h with ⟨m, rfl, rfl⟩ | ⟨ps, rfl, rfl, nd⟩
  · cases List.mem_singleton.mp hm
    exact .inr ⟨hp, hd⟩
  · obtain ⟨⟨s, m⟩, hs, e⟩ := List.mem_map.mp hm
    cases e
    obtain ⟨b, rfl, hb⟩ := hp
    exact .inl (.inr ⟨dtS ps, keyS s, b, hd, rfl, by rw [keyS_kV]; exact hb, by rw [dtS_get, getS_of nd hs]; rfl⟩)
theorem sum_ends (e : E) : ∀ kvs : AL, ((kvs.filter fun p => endO e p.1).map (·.2)).sum = IL kvs (cntS e 0)
  | [] => rfl
  | p :: kvs => by
    have ih := sum_ends e kvs
    show _ = p.2 * cntS e 0 p.1 + IL kvs (cntS e 0)
    rw [cntS]
    by_cases h : endO e p.1 = true
    · rw [List.filter_cons_of_pos (p := fun p : OS × Nat => endO e p.1) h, if_pos h, List.map_cons, List.sum_cons, ih, Nat.mul_one]
    · rw [List.filter_cons_of_neg (p := fun p : OS × Nat => endO e p.1) h, if_neg h, ih, Nat.mul_zero, Nat.zero_add]
def upP (e : E) (g : OS → Nat) (o : OS) (j : Nat) : Nat := ((lets4.take j).map fun c => (stepO e o c).elim 0 g).sum
theorem upP_succ (e : E) (g : OS → Nat) (o : OS) {j c : Nat} (h : lets4[j]? = some c) : upP e g o (j + 1) = upP e g o j + (stepO e o c).elim 0 g := by
  unfold upP
  rw [take_snoc h, List.map_append, List.sum_append, List.map_singleton, List.sum_singleton]
theorem getO_int (o : Option Nat) : (o.map fun n => V.int ((n : Nat) : Int)).getD (V.int 0) = V.int ((o.getD 0 : Nat) : Int) := by
  cases o <;> rfl
theorem isum_nat2 : ∀ xs : List Nat, (xs.map fun (n : Nat) => (n : Int)).sum = ((xs.sum : Nat) : Int)
  | [] => rfl
  | x :: xs => by
    rw [List.map_cons, List.sum_cons, List.sum_cons, isum_nat2 xs]
    omega
theorem ints_nats2 (xs : List Nat) : (xs.map fun (n : Nat) => (n : Int)).map V.int = natsV xs := by
  unfold natsV
  rw [List.map_map]
  rfl
/-- lists and tuples stay -/
structure LT (H H' : Hp) : Prop where
  l : ∀ b xs, H b = some (.lst xs) → H' b = some (.lst xs)
  t : ∀ b xs, H b = some (.tup xs) → H' b = some (.tup xs)
theorem LT.same {H H' : Hp} (s : Same H H') : LT H H' := ⟨fun b xs h => s _ _ h, fun b xs h => s _ _ h⟩
theorem LT.trans {H H1 H2 : Hp} (x : LT H H1) (y : LT H1 H2) : LT H H2 := ⟨fun b xs h => y.l _ _ (x.l _ _ h), fun b xs h => y.t _ _ (x.t _ _ h)⟩
theorem lt_frz {P : Program} {w : World} {H : Hp} {d : Addr} {od : Obj} {u : HO} {kvs : AL} (h : HerO P w d u kvs) (hd : H d = some u) : LT H (upd H d (.frz od u)) := by
  refine ⟨fun b xs hb => ?_, fun b xs hb => ?_⟩
  · rw [upd_ne fun e => by rw [e, hd] at hb; exact (h.nlst xs).1 (Option.some.inj hb)]
    exact hb
  · rw [upd_ne fun e => by rw [e, hd] at hb; exact (h.nlst xs).2 (Option.some.inj hb)]
    exact hb
theorem TabA.lt2 {H H' : Hp} {t : Addr} {z : Str} {f l p : Addr} {ij : List (Nat × Nat)} {e : E} {o : Nat} (k : LT H H') (h : TabA H t z f l p ij e o) : TabA H' t z f l p ij e o := by
  obtain ⟨vs, h1, h2⟩ := h.pr.ex
  exact ⟨k.t _ _ h.tp, h.lt, h.ln, k.l _ _ h.fs, k.l _ _ h.ls, ⟨vs, k.l _ _ h1, h2.mono fun v x ⟨q, e0, h⟩ => ⟨q, e0, k.t _ _ h⟩⟩, h.mem, h.len⟩
theorem pl_of {H : Hp} {v : V} {p : OS} (h : OsAt H v p) (n : p ≠ some []) : PlV H v (p.getD []) := by
  cases p with
  | none => exact .inl ⟨h, rfl⟩
  | some s =>
    obtain ⟨a, rfl, h⟩ := h
    exact .inr ⟨a, rfl, h, fun e => n (congrArg some e)⟩
theorem st_of {e : E} {p : OS} (n : p ≠ some []) (c : Nat) : stS e (p.getD []) c = nxS e p c := by
  cases p with
  | none => rfl
  | some s =>
    have : s ≠ [] := fun e => n (congrArg some e)
    show stS e s c = if s = [] then [] else stS e s c
    rw [if_neg this]
theorem end_of {e : E} {p : OS} (n : p ≠ some []) : endS e (p.getD []) = endO e p := by
  cases p with
  | none => rfl
  | some s =>
    have : s ≠ [] := fun e => n (congrArg some e)
    show (if s = [] then (gl e 0).nul else s.any fun i => decide (i ∈ (gl e 0).lst)) = _
    rw [if_neg this]
    rfl
/-- what the walk finds -/
structure CC (H0 H : Hp) (e : E) (ltr hd : Addr) (od : Obj) (u : HO) (ps : SN) : Prop where
  same : Same H0 H
  z2 : H0 ltr = none
  hdo : H hd = some (.frz od u)
  lt : H ltr = some (.dT (dtS ps))
  nodup : (ps.map (·.1)).Nodup
  kok : ∀ s ∈ ps.map (·.1), SetOk e (some s) ∧ s ≠ []
theorem CC.step {H0 H H' : Hp} {e : E} {ltr hd : Addr} {od : Obj} {u : HO} {ps : SN} (I : CC H0 H e ltr hd od u ps) (s : Same H H') : CC H0 H' e ltr hd od u ps :=
  ⟨I.same.trans s, I.z2, s _ _ I.hdo, s _ _ I.lt, I.nodup, I.kok⟩
theorem CC.putL {H0 H : Hp} {e : E} {ltr hd : Addr} {od : Obj} {u : HO} {ps : SN} {s : List Nat} {n : Nat} (I : CC H0 H e ltr hd od u ps) (hs : SetOk e (some s) ∧ s ≠ []) : CC H0 (upd H ltr (.dT (dtS (addS ps s n)))) e ltr hd od u (addS ps s n) where
  same := fun b o hb => by
    rw [upd_ne (ne_of_none hb I.z2)]
    exact I.same _ _ hb
  z2 := I.z2
  hdo := by rw [upd_ne (ne_of I.hdo I.lt (by intro z; cases z))]; exact I.hdo
  lt := upd_same
  nodup := addS_nd I.nodup
  kok := fun t ht => by
    rcases addS_sub ht with h | rfl
    · exact I.kok t h
    · exact hs
/-- between the turns -/
structure OC (P : Program) (w : World) (H0 H : Hp) (e : E) (hd : Addr) (u : HO) (kvs : AL) (i : Nat) : Prop where
  same : Same H0 H
  z3 : H0 hd = none
  hdo : H hd = some u
  her : HerO P w hd u kvs
  int : ∀ m, IL kvs (cntS e m) = cntS e (i + m) none
  kok : ∀ p n, (p, n) ∈ kvs → SetOk e p ∧ p ≠ some []
theorem her_len {P : Program} {w : World} {d : Addr} {u : HO} {kvs : AL} {e : E} (h : HerO P w d u kvs) (k : ∀ p n, (p, n) ∈ kvs → SetOk e p ∧ p ≠ some []) (h8 : e.places ≤ 8) : kvs.length ≤ 256 := by
  rcases h with ⟨m, rfl, rfl⟩ | ⟨ps, rfl, rfl, nd⟩
  · show 1 ≤ 256
    decide
  · have h1 : (ps.map (·.1)).length ≤ (subsN e.places).length := nodup_subA _ _ nd fun s hs => by
      obtain ⟨⟨s', n⟩, hm, rfl⟩ := List.mem_map.mp hs
      exact setOk_mem (k (some s') n (List.mem_map.mpr ⟨_, hm, rfl⟩)).1
    rw [subsN_len, List.length_map] at h1
    unfold someL
    rw [List.length_map]
    exact Nat.le_trans h1 (Nat.pow_le_pow_right (n := 2) (by decide) h8)
theorem set_len {e : E} {s : List Nat} (h : SetOk e (some s)) (h8 : e.places ≤ 8) : s.length ≤ 100 := by
  obtain ⟨h1, h2⟩ := h s rfl
  have := nodup_len 8 (s.map fun (n : Nat) => (n : Int)) (by
    refine List.pairwise_map.mpr (h1.imp fun {a b} hab hc => ?_)
    omega) fun x hx => by
    obtain ⟨p, hp, rfl⟩ := List.mem_map.mp hx
    have := h2 p hp
    omega
  rw [List.length_map] at this
  omega
def spCountL : Sp := fun vs H Q _ => ∃ (v : V) (e : E) (l : Nat), vs = [v, .int l] ∧ Esh e ∧ Rep H v e.toD ∧ l ≤ 60 ∧ ∀ H', Same H H' → Q (.int (cntS e l none)) H'
section
variable {P : Program} {w : World} {K : PySem.W.Frag} {mg : Str → Option Value} {base : Heap} {a_BOUNDS a_LONG_BOUNDS : Addr} {tL tM : Tok}
abbrev N__law_counted : List Str := ["expression", "length", "tables", "many", "turn", "more", "places", "letter", "behind"]
theorem sc__law_counted : FnScope ["expression", "length", "tables", "many", "turn", "more", "places", "letter", "behind"] ["expression", "length"] (defScope s__law_counted) := ⟨rfl, rfl, rfl, by decide +kernel, rfl, by decide +kernel, by decide +kernel⟩
set_option maxHeartbeats 1000000 in
theorem ok_countL {f : Addr} {fd : FuncData} (B : Bt K mg a_BOUNDS a_LONG_BOUNDS tL tM) (Dd : Df K mg "_law_counted" s__law_counted ["expression", "length"] f fd) (G_law_tables : Cl P w K mg base 9 "_law_tables" ["expression"] spTabsA) (G_law_behind : Cl P w K mg base 1 "_law_behind" ["tables", "places", "letter"] spBehA) (G_law_ending : Cl P w K mg base 1 "_law_ending" ["tables", "places"] spEndA) : FnOk P w K mg base CX0 10 f fd ["expression", "length"] spCountL := by
  refine Dd.F.ok sc__law_counted (fun vs H Q Ex h => ?_) (fun cdv A outer s H vs Q Ex hr h => ?_)
  · obtain ⟨v, e, l, rfl, _⟩ := h
    rfl
  obtain ⟨v, e, l, rfl, hE, hR, hl, q⟩ := h
  refine ⟨_, (pss_cons (ps_set (i := 2) sc__law_counted.nd rfl (Or.inr rfl) (pe_cl G_law_tables (hr.mono (by omega)) rfl (pa_cons (pv 0) pa_nil)))
    (pss_cons (ps_set (i := 3) sc__law_counted.nd rfl (Or.inr rfl) (pe_dispO pe_non pe_int))
    (pss_cons (ps_for PassesOwn.never rfl (pi_range1 rfl B.b_range (pa_cons (pv 1) pa_nil)) (pg_name (i := 4) sc__law_counted.nd rfl (Or.inl rfl)) (pss_cons (ps_set (i := 5) sc__law_counted.nd rfl (Or.inl rfl) pe_dnewT)
    (pss_cons (ps_lock (ps_for PassesOwn.never rfl (pi_keysO (P := P) (w := w) rfl rfl (pv 3)) (pg_name (i := 6) sc__law_counted.nd rfl (Or.inl rfl)) (pss_one (ps_for PassesOwn.never rfl (pi_str pe_str) (pg_name (i := 7) sc__law_counted.nd rfl (Or.inl rfl)) (pss_cons (ps_set (i := 8) sc__law_counted.nd rfl (Or.inl rfl) (pe_cl G_law_behind (hr.mono (by omega)) rfl (pa_cons (pv 2) (pa_cons (pv 6) (pa_cons (pv 7) pa_nil)))))
    (pss_one (ps_if (pt_cmpR (op_neD (u64 hr)) (pv 8) (pe_tup pa_nil) (nomark _)) (pss_one (ps_dput (hu_of hr) (pv 5) (pv 8) (pe_op op_add (pe_dget2 (hu_of hr) (pv 5) (pv 8) pe_int ⟨rfl, rfl, rfl, rfl⟩) (pe_getO (P := P) (w := w) rfl rfl (hu_of hr) (pv 3) (pv 6) (fun _ _ => rfl))) rfl)) pss_nil)))))))
    (pss_one (ps_set (i := 3) sc__law_counted.nd rfl (Or.inr rfl) (pv 5))))))
    (pss_one (ps_ret (pe_callB (r := rSum K) (cr_sum rfl) rfl B.b_sum boot_sum (pa_cons (pe_lock (pe_lc (own := [("places", 6)]) (g := gName 6) rfl sc__law_counted.nd (pi_keysO (P := P) (w := w) rfl rfl (pv 3)) (blkOk_by (N := N__law_counted) (sc := defScope s__law_counted) (by decide +kernel)) (fun _ _ _ _ _ => pg_name (i := 6) sc__law_counted.nd rfl (Or.inl rfl)) (fun _ _ _ _ _ => pts_one (pt_val (pe_cl G_law_ending (hr.mono (by omega)) rfl (pa_cons (pv 2) (pa_cons (pv 6) pa_nil))))) (fun _ _ _ _ _ => (pe_getO (P := P) (w := w) rfl rfl (hu_of hr) (pv 3) (pv 6) (fun _ _ => rfl))))) pa_nil))))))), ?_⟩
  refine ⟨_, rfl, v, e, rfl, hE, hR, fun t z ft lt pt ij H1 s1 hT => ?_⟩
  refine fun hd hhd => ⟨upd_same, rfl, ?_⟩
  have s2 : Same H1 (upd (upd H1 hd (ODict0 P w hd)) hd (ODict P w hd (.int 1))) := fun b o hb => by
    rw [upd_ne (ne_of_none hb hhd), upd_ne (ne_of_none hb hhd)]
    exact hb
  have hd1 : (upd (upd H1 hd (ODict0 P w hd)) hd (ODict P w hd (.int 1))) hd = some (ODict P w hd (.int 1)) := upd_same
  obtain ⟨H2, hH2⟩ : ∃ H2, H2 = upd (upd H1 hd (ODict0 P w hd)) hd (ODict P w hd (.int 1)) := ⟨_, rfl⟩
  rw [← hH2] at s2 hd1
  have h8 := hE.pl
  have hpt := hE.pt
  have I0 : OC P w H1 H2 e hd (ODict P w hd (.int 1)) [(none, 1)] 0 := {
    same := s2
    z3 := hhd
    hdo := hd1
    her := .inl ⟨1, rfl, rfl⟩
    int := fun m => by rw [IL_one, Nat.one_mul, Nat.zero_add]
    kok := fun p n h => by
      cases List.mem_singleton.mp h
      exact ⟨(fun s hs => nomatch hs), (fun z => nomatch z)⟩ }
  rw [hH2] at I0
  refine ⟨_, rfl, (l : Int), rfl, by omega, by omega, for_range (lo := 0) (n := ((l : Nat) : Int).toNat) (fun i σ' H' => ∃ (hd : Addr) (u : HO) (kvs : AL) (o4 o5 o6 o7 o8 : Option V), σ' = [some v, some (.int (l : Nat)), some (.ref t), some (.ref hd), o4, o5, o6, o7, o8] ∧ OC P w H1 H' e hd u kvs i) ?_ ?_ ?_⟩
  · exact ⟨hd, _, _, none, none, none, none, none, rfl, I0⟩
  · clear I0 hd1 hH2 hhd s2 hd
    rintro i σ' H3 hi ⟨hd, u, kvs, o4, o5, o6, o7, o8, rfl, I⟩
    have hkl := her_len I.her I.kok h8
    refine fun ltr hltr => ?_
    have n3 : hd ≠ ltr := ne_of_none I.hdo hltr
    refine ⟨hd, u, by rw [upd_ne n3]; exact I.hdo, I.her.mut, fun od2 => ?_⟩
    obtain ⟨H7, hH7⟩ : ∃ H7, H7 = upd (upd H3 ltr (.dT [])) hd (.frz od2 u) := ⟨_, rfl⟩
    rw [← hH7]
    have I7 : CC H1 H7 e ltr hd od2 u [] := {
      same := fun b o hb => by
        rw [hH7, upd_ne (ne_of_none hb I.z3), upd_ne (ne_of_none (I.same _ _ hb) hltr)]
        exact I.same _ _ hb
      z2 := I.same.free hltr
      hdo := by rw [hH7]; exact upd_same
      lt := by rw [hH7, upd_ne n3.symm]; exact upd_same
      nodup := List.nodup_nil
      kok := fun s h => nomatch h }
    clear hH7
    have hfz := I7.hdo
    refine keysO_go I.her hfz (fun Q hQ => ⟨_, rfl, hQ⟩) fun J hJ => ?_
    refine for_it hJ (fun k σ2 H8 => ∃ (ps : SN) (o6 o7 o8 : Option V), σ2 = [some v, some (.int (l : Nat)), some (.ref t), some (.ref hd), some (.int (0 + (i : Int))), some (.ref ltr), o6, o7, o8] ∧ CC H1 H8 e ltr hd od2 u ps ∧ ∀ m, IL (someL ps) (cntS e m) = IL (kvs.take k) (cntS e (m + 1))) ?_ ?_ ?_ ?_
    · exact ⟨[], o6, o7, o8, rfl, I7, fun m => rfl⟩
    · rintro k σ2 H8 _ ⟨ps, o6', o7', o8', rfl, I8, _⟩
      exact I8.hdo
    · rintro k x σ2 H8 H8' hk ⟨ps, o6', o7', o8', rfl, I8, hint⟩ ⟨rfl, p, n, hkp, hx⟩
      have hmem := List.mem_of_getElem? hkp
      obtain ⟨hok, hpn⟩ := I.kok p n hmem
      refine ⟨⟨#[97, 98, 99, 100]⟩, rfl, for_strB (z := ⟨#[97, 98, 99, 100]⟩) (fun j σ3 H9 => ∃ (ps : SN) (o7 o8 : Option V), σ3 = [some v, some (.int (l : Nat)), some (.ref t), some (.ref hd), some (.int (0 + (i : Int))), some (.ref ltr), some x, o7, o8] ∧ CC H1 H9 e ltr hd od2 u ps ∧ OsAt H9 x p ∧ ∀ m, IL (someL ps) (cntS e m) = IL (kvs.take k) (cntS e (m + 1)) + n * upP e (cntS e m) p j) ?_ ?_ ?_⟩
      · exact ⟨ps, o7', o8', rfl, I8, hx, fun m => by rw [show upP e (cntS e m) p 0 = 0 from rfl, Nat.mul_zero]; exact hint m⟩
      · rintro j ch σ3 H9 hch ⟨ps, o7, o8, rfl, I9, hx9, hint⟩
        obtain ⟨hj4, rfl⟩ := l4_get hch
        have hj : lets4[j]? = some (97 + j) := by
          rcases (by omega : j = 0 ∨ j = 1 ∨ j = 2 ∨ j = 3) with rfl | rfl | rfl | rfl <;> rfl
        refine ⟨_, rfl, _, rfl, _, rfl, t, z, ft, lt, pt, ij, e, x, p.getD [], 97 + j, rfl, hT.same I9.same, h8, by omega, pl_of hx9 hpn, ?_, fun r H11 s11 hr0 => ?_⟩
        · intro y hy
          cases p with
          | none => cases hy
          | some s => exact (hok s rfl).2 y hy
        rw [st_of hpn] at hr0
        refine ⟨_, rfl, by show 0 ≤ sizeLine; decide, fun T1 hT1 => ?_⟩
        have u1 := same_upd (o := .tup []) hT1
        have hr1 := u1 _ _ hr0
        have hT1' : (upd H11 T1 (.tup [])) T1 = some (.tup []) := upd_same
        have I11 := I9.step (s11.trans u1)
        have hx11 := hx9.same (s11.trans u1)
        revert I11 hx11 hr1 hT1'
        generalize upd H11 T1 (.tup []) = H12
        intro hr1 hT1' I11 hx11
        have hsok : SetOk e (some (nxS e p (97 + j))) := nxO_ok (gl_rise e 0).fst p (97 + j)
        generalize hs : nxS e p (97 + j) = s at hr1 hsok
        refine ⟨.tuple (psd s), .tuple (psd []), .tup (SqT.of hr1) (dpAll_ints s), .tup (SqT.of hT1') .nil, tup_shaped s, tup_shaped [], _, rfl, ?_⟩
        rw [row_eqv]
        refine ite2 (fun c => ?_) (fun c => ?_)
        · have hne : s ≠ [] := fun h => by
            rw [h, decide_eq_true rfl] at c
            cases c
          have hst : stepO e p (97 + j) = some (some s) := by
            unfold stepO
            rw [hs, if_neg hne]
          have hkS : H12 r = some (.tup ((keyS s).map kV)) := by rw [keyS_kV]; exact hr1
          have hpl : ps.length ≤ 256 := by
            have h1 : (ps.map (·.1)).length ≤ (subsN e.places).length := nodup_subA _ _ I11.nodup fun s hs => setOk_mem (I11.kok s hs).1
            rw [subsN_len, List.length_map] at h1
            exact Nat.le_trans h1 (Nat.pow_le_pow_right (n := 2) (by decide) h8)
          refine ⟨_, rfl, ltr, rfl, .inr ⟨_, .inl I11.lt⟩, _, rfl, _, DGet.t I11.lt hkS, _, rfl, _, rfl, hd, _, rfl, her_get I.her (.inr ⟨od2, I11.hdo⟩) hx11 hmem, (((getS ps s).getD 0 : Nat) : Int), _, by rw [dtS_get, getO_int], rfl, _, rfl, _, rfl, ltr, _, rfl, DPut.t I11.lt hkS (by unfold dtS; rw [List.length_map]; exact Nat.lt_of_le_of_lt hpl (by decide)), ?_⟩
          have IL1 := I11.putL (n := n) ⟨hsok, hne⟩
          have tkL : ∀ b xs, H12 b = some (.tup xs) → (upd H12 ltr (.dT (dtS (addS ps s n)))) b = some (.tup xs) := fun b xs hb => by
            rw [upd_ne (ne_of hb I11.lt (by intro z; cases z))]
            exact hb
          have hxL := hx11.tk tkL
          have e1 := dtS_add (s := s) (n := n) I11.nodup
          rw [← e1] at IL1 hxL
          refine ⟨addS ps s n, _, _, rfl, IL1, hxL, fun m => ?_⟩
          rw [IL_add, hint m, upP_succ e (cntS e m) p hj, hst, Nat.mul_add, Nat.add_assoc]
          rfl
        · have hse : s = [] := by
            cases s with
            | nil => rfl
            | cons a s => exact absurd (by rw [decide_eq_false (by intro h; cases h)]; rfl) c
          have hst : stepO e p (97 + j) = none := by
            unfold stepO
            rw [hs, if_pos hse]
          refine ⟨ps, _, _, rfl, I11, hx11, fun m => ?_⟩
          rw [hint m, upP_succ e (cntS e m) p hj, hst]
          rfl
      · rintro σ3 H9 ⟨ps, o7, o8, rfl, I9, hx9, hint⟩
        refine ⟨ps, _, _, _, rfl, I9, fun m => ?_⟩
        rw [hint m, take_snoc hkp, IL_app, IL_one]
        rfl
    · rintro σ2 H8 ⟨ps, o6', o7', o8', rfl, I8, hint⟩
      rw [List.take_length] at hint
      exact ⟨I8.hdo, _, rfl, ltr, .dT (dtS ps), someL ps, _, _, _, _, _, rfl, {
        same := fun b o hb => by
          rw [upd_ne (ne_of_none hb I.z3)]
          exact I8.same _ _ hb
        z3 := I8.z2
        hdo := by rw [upd_ne (ne_of I8.lt I8.hdo (by intro z; cases z))]; exact I8.lt
        her := .inr ⟨ps, rfl, rfl, I8.nodup⟩
        int := fun m => by rw [hint, I.int (m + 1)]; congr 1; omega
        kok := fun p n h => by
          obtain ⟨⟨s, n'⟩, h1, h2⟩ := List.mem_map.mp h
          cases h2
          have h3 := I8.kok s (List.mem_map.mpr ⟨_, h1, rfl⟩)
          exact ⟨h3.1, fun z => h3.2 (Option.some.inj z)⟩ }⟩
  · clear I0 hd1 hH2 hhd s2 hd
    rintro σ' H3 ⟨hd, u, kvs, o4, o5, o6, o7, o8, rfl, I⟩
    rw [Int.toNat_natCast] at I
    have hkl := her_len I.her I.kok h8
    refine ⟨hd, u, I.hdo, I.her.mut, fun od => ?_⟩
    have hTl := (hT.same I.same).lt2 (lt_frz (od := od) I.her I.hdo)
    refine keysO_go I.her upd_same (fun Q hQ => ⟨_, rfl, hQ⟩) fun J hJ D hD => ?_
    have hD0 : H3 D = none := by
      rw [upd_ne fun e => by rw [e, upd_same] at hD; cases hD] at hD
      exact hD
    have hdD : hd ≠ D := ne_of_none I.hdo hD0
    refine lc_it hJ (fun k H6 => Same (upd H3 hd (.frz od u)) H6 ∧ H6 D = some (.lst (natsV (((kvs.take k).filter fun p => endO e p.1).map (·.2))))) ⟨same_upd hD, upd_same⟩ (fun k H6 _ h => h.1 _ _ upd_same) (fun k x H6 H7 hk h hY => ?_) (fun H6 h => ?_)
    · obtain ⟨s6, hD6⟩ := h
      obtain ⟨rfl, p, n, hkp, hx⟩ := hY
      have hmem := List.mem_of_getElem? hkp
      obtain ⟨hok, hpn⟩ := I.kok p n hmem
      have hsl : (p.getD []).length ≤ 100 := by
        cases p with
        | none => exact Nat.zero_le _
        | some s => exact set_len hok h8
      refine ⟨rfl, _, rfl, _, rfl, t, z, ft, lt, pt, ij, e, x, p.getD [], rfl, hTl.same s6, pl_of hx hpn, hsl, fun H8 s8 => ?_⟩
      rw [end_of hpn]
      rw [take_snoc hkp, List.filter_append, List.map_append, ← natsV_app]
      have hD8 := s8 _ _ hD6
      cases hb : endO e p with
      | true =>
        refine ⟨_, rfl, iteT ⟨_, rfl, _, rfl, hd, _, rfl, her_get I.her (.inr ⟨od, s8 _ _ (s6 _ _ upd_same)⟩) (hx.same s8) hmem, _, hD8, ?_, fun b o hb => ?_, ?_⟩⟩
        · rw [natsV_len, List.length_map]
          exact Nat.lt_of_le_of_lt (Nat.le_trans (List.length_filter_le _ _) (by rw [List.length_take]; omega : _ ≤ 256)) (by decide)
        · rw [upd_ne (ne_of_none hb hD)]
          exact s8 _ _ (s6 _ _ hb)
        · rw [upd_same, List.filter_cons_of_pos (p := fun p : OS × Nat => endO e p.1) hb]
          rfl
      | false =>
        refine ⟨_, rfl, iteF ⟨fun b o hb => s8 _ _ (s6 _ _ hb), ?_⟩⟩
        rw [hD8, List.filter_cons_of_neg (p := fun p : OS × Nat => endO e p.1) (by rw [hb]; decide)]
        show _ = some (HO.lst (_ ++ []))
        rw [List.append_nil]
    obtain ⟨s6, hD6⟩ := h
    rw [List.take_length] at hD6
    have hback : Same H3 (upd H6 hd u) := fun b o hb => by
      by_cases e0 : b = hd
      · subst e0
        rw [upd_same, ← I.hdo, hb]
      · rw [upd_ne e0]
        exact s6 _ _ (by rw [upd_ne e0]; exact hb)
    refine ⟨s6 _ _ upd_same, D, (((kvs.filter fun p => endO e p.1).map (·.2))).map fun (n : Nat) => (n : Int), rfl, SqL.of ?_, ?_⟩
    · rw [upd_ne hdD.symm, ints_nats2]
      exact hD6
    rw [isum_nat2, sum_ends, I.int 0, Nat.add_zero]
    exact q _ (s1.trans (I.same.trans hback))
end
end My
namespace My
open PySem PySem.Spec PyProof.Rows L2
/-! ### counts of words -/
def cntV (N : Nat) (acc : Nat → Bool) (mv : Mv) (l : Nat) : List V := natsV ((List.range N).map (cntM acc mv l))
structure CntAt (H : Hp) (c : Addr) (N : Nat) (acc : Nat → Bool) (mv : Mv) (n : Nat) : Prop where
  ex : ∃ vs, H c = some (.lst vs) ∧ vs.length = n + 1 ∧ ∀ l v, vs[l]? = some v → ∃ a, v = .ref a ∧ H a = some (.lst (cntV N acc mv l))
theorem CntAt.same {H H' : Hp} {c : Addr} {N : Nat} {acc : Nat → Bool} {mv : Mv} {n : Nat} (s : Same H H') (h : CntAt H c N acc mv n) : CntAt H' c N acc mv n := by
  obtain ⟨vs, h1, h2, h3⟩ := h.ex
  exact ⟨vs, s _ _ h1, h2, fun l v hv => by
    obtain ⟨a, h4, h5⟩ := h3 l v hv
    exact ⟨a, h4, s _ _ h5⟩⟩
theorem rowK_snd (f : Nat → Option Nat) : ∀ cs : List Nat, (rowK f cs).map Prod.snd = natsV (cs.filterMap f)
  | [] => rfl
  | c :: cs => by
    have ih := rowK_snd f cs
    unfold rowK at ih ⊢
    rw [List.filterMap_cons, List.filterMap_cons]
    cases f c with
    | none => exact ih
    | some t => exact congrArg (V.int ((t : Nat) : Int) :: ·) ih
theorem isum_nat : ∀ xs : List Nat, (xs.map fun (n : Nat) => (n : Int)).sum = ((xs.sum : Nat) : Int)
  | [] => rfl
  | x :: xs => by
    rw [List.map_cons, List.sum_cons, List.sum_cons, isum_nat xs]
    omega
theorem ints_nats (xs : List Nat) : (xs.map fun (n : Nat) => (n : Int)).map V.int = natsV xs := by
  unfold natsV
  rw [List.map_map]
  rfl
theorem atI_end {α : Type} {xs : List α} {x : α} {n : Nat} (hl : xs.length = n + 1) (h : xs[n]? = some x) : atI xs (-1) = some x := by
  unfold atI ixN
  rw [if_neg (by decide)]
  simp only [hl]
  split
  · show xs[_]? = _
    rw [← h]
    congr 1
    omega
  · omega
def spCounts (C : Addr) : Sp := fun vs H Q _ => ∃ (p : Addr) (N : Nat) (acc : Nat → Bool) (mv : Mv) (n : Nat), vs = [.ref p, .int n] ∧ MachAt C H p N acc mv ∧ N ≤ 1000 ∧ n ≤ 60 ∧ ∀ c H', Same H H' → CntAt H' c N acc mv n → Q (.ref c) H'
section
variable {P : Program} {w : World} {K : PySem.W.Frag} {mg : Str → Option Value} {base : Heap} {a_BOUNDS a_LONG_BOUNDS : Addr} {tL tM : Tok}
abbrev N_counts_of : List Str := ["machine", "length", "counts", "_", "latest", "ends", "row", "end"]
theorem sc_counts_of : FnScope ["machine", "length", "counts", "_", "latest", "ends", "row", "end"] ["machine", "length"] (defScope s_counts_of) := ⟨rfl, rfl, rfl, by decide +kernel, rfl, by decide +kernel, by decide +kernel⟩
theorem ok_countsof {C f : Addr} {fd : FuncData} (T : McTxt K C) (B : Bt K mg a_BOUNDS a_LONG_BOUNDS tL tM) (Dd : Df K mg "counts_of" s_counts_of ["machine", "length"] f fd) : FnOk P w K mg base CX0 1 f fd ["machine", "length"] (spCounts C) := by
  refine Dd.F.ok sc_counts_of (fun vs H Q Ex h => ?_) (fun cdv A outer s H vs Q Ex hr h => ?_)
  · obtain ⟨p, N, acc, mv, n, rfl, _⟩ := h
    rfl
  obtain ⟨p, N, acc, mv, n, rfl, hM, h40, hn, q⟩ := h
  refine ⟨_, (pss_cons (ps_set (i := 2) sc_counts_of.nd rfl (Or.inl rfl) (pe_lst (pa_cons (pe_lc (own := [("ends", 5)]) (g := gName 5) (tt := tYes) rfl sc_counts_of.nd (pi_seqC (pe_fld (pv 0) rfl)) (blkOk_by (N := N_counts_of) (sc := defScope s_counts_of) (by decide +kernel)) (fun _ _ _ _ _ => pg_name (i := 5) sc_counts_of.nd rfl (Or.inl rfl)) (fun _ _ _ _ _ => pts_nil) (fun _ _ _ _ _ => (pe_ifExp (pt_truthK (K := K) rfl (pv 5) (by intro _; rfl)) pe_int pe_int))) pa_nil)))
    (pss_cons (ps_for PassesOwn.never rfl (pi_range1 rfl B.b_range (pa_cons (pv 1) pa_nil)) (pg_name (i := 3) sc_counts_of.nd rfl (Or.inl rfl)) (pss_cons (ps_set (i := 4) sc_counts_of.nd rfl (Or.inr rfl) (pe_ix (r := rIxL K) ix_list (pv 2) (pe_un un_neg pe_int) (fun _ _ => rfl)))
    (pss_one (ps_expr (pe_bm PySem.F.plainAttrs_list PySem.F.slot_list_append PySem.F.type_list_append mt_append (pv 2) (pa_cons (pe_lc (own := [("row", 6)]) (g := gName 6) (tt := tYes) rfl sc_counts_of.nd (pi_list (pe_fld (pv 0) rfl)) (blkOk_by (N := N_counts_of) (sc := defScope s_counts_of) (by decide +kernel)) (fun _ _ _ _ _ => pg_name (i := 6) sc_counts_of.nd rfl (Or.inl rfl)) (fun _ _ _ _ _ => pts_nil) (fun _ _ _ _ _ => (pe_callB (r := rSum K) (cr_sum rfl) rfl B.b_sum boot_sum (pa_cons (pe_lock (pe_lc (own := [("end", 7)]) (g := gName 7) (tt := tYes) rfl sc_counts_of.nd (pi_values (pv 6)) (blkOk_by (by kernel_rfl)) (fun _ _ _ _ _ => pg_name (i := 7) sc_counts_of.nd rfl (Or.inl rfl)) (fun _ _ _ _ _ => pts_nil) (fun _ _ _ _ _ => (pe_ix (r := rIxL K) ix_list (pv 4) (pv 7) (fun _ _ => rfl))))) pa_nil)))) pa_nil))))))
    (pss_one (ps_ret (pv 2))))), ?_⟩
  obtain ⟨dx, ac, ra, rs, h1, h2, h3, h4, h5⟩ := id hM.ex
  refine seqC_go h2 (fun Q' hQ => ⟨_, rfl, p, C, dx, _, _, rfl, h1, T.cl, T.a1, mcF_acc .., hQ⟩) fun J hJ D hD => ?_
  refine lc_sq hJ (fun k H2 => Same H H2 ∧ H2 D = some (.lst (natsV (((List.range N).map (cntM acc mv 0)).take k)))) ⟨same_upd hD, upd_same⟩ (fun k H2 _ h u hu => h.1 _ _ hu) (fun k x H2 hx h => ?_) (fun H2 h => ?_)
  · obtain ⟨s1, hD1⟩ := h
    rw [List.getElem?_map] at hx
    obtain ⟨b, hb, rfl⟩ := Option.map_eq_some_iff.mp hx
    have hkN : k < N := by
      have := (List.getElem?_eq_some_iff.mp hb).1
      rw [List.length_map, List.length_range] at this
      exact this
    have hbk : b = acc k := by
      rw [List.getElem?_map, List.getElem?_range hkN] at hb
      exact (Option.some.inj hb).symm
    have hck : ((List.range N).map (cntM acc mv 0))[k]? = some (cntM acc mv 0 k) := by
      rw [List.getElem?_map, List.getElem?_range hkN]
      rfl
    refine ⟨rfl, tyes ⟨_, rfl, b, rfl, ?_⟩⟩
    have go : ∀ i : Nat, i = cntM acc mv 0 k → ∃ a2, H2 D = some (.lst a2) ∧ a2.length < sizeLine ∧ Same H (upd H2 D (.lst (a2 ++ [V.int i]))) ∧ upd H2 D (.lst (a2 ++ [V.int i])) D = some (.lst (natsV (((List.range N).map (cntM acc mv 0)).take (k + 1)))) := fun i hi => by
      refine ⟨_, hD1, ?_, fun b o hb => by rw [upd_ne (ne_of_none hb hD)]; exact s1 _ _ hb, ?_⟩
      · rw [natsV_len, List.length_take]
        exact Nat.lt_of_le_of_lt (m := 1000) (by omega) (by decide)
      · rw [upd_same, take_snoc hck, ← natsV_app, hi]
        rfl
    have e0 : cntM acc mv 0 k = if b then 1 else 0 := by rw [hbk]; rfl
    refine ite2 (fun c => go 1 (by rw [e0, c]; rfl)) (fun c => go 0 (by rw [e0, Bool.eq_false_iff.mpr c]; rfl))
  obtain ⟨s1, hD1⟩ := h
  rw [List.length_map, List.length_map, List.length_range, List.take_of_length_le (by rw [List.length_map, List.length_range]; exact Nat.le_refl _)] at hD1
  refine ⟨by show 1 ≤ sizeLine; decide, fun L hL => ?_⟩
  have hLn : ∀ b o, H b = some o → b ≠ L := fun b o hb => ne_of_none (s1 _ _ hb) hL
  have s2 := s1.trans (same_upd (o := .lst [V.ref D]) hL)
  have hL2 := upd_same (H := H2) (a := L) (o := .lst [V.ref D])
  have hD2 := same_upd (o := .lst [V.ref D]) hL _ _ hD1
  revert s2 hL2 hD2
  generalize upd H2 L (.lst [V.ref D]) = H3
  intro s2 hL2 hD2
  refine ⟨_, rfl, _, rfl, by omega, by omega, for_range (lo := 0) (n := ((n : Nat) : Int).toNat) (fun i σ' H' => ∃ (o3 o4 : Option V), σ' = [some (.ref p), some (.int n), some (.ref L), o3, o4, none, none, none] ∧ Same H H' ∧ CntAt H' L N acc mv i) ?_ ?_ ?_⟩
  · refine ⟨none, none, rfl, s2, [.ref D], hL2, rfl, fun l v hv => ?_⟩
    cases l with
    | zero =>
      obtain rfl := Option.some.inj hv
      exact ⟨D, rfl, hD2⟩
    | succ l => cases hv
  · rintro l σ' H4 hl ⟨o3, o4, rfl, s3, ⟨vs, hvs, hvl, hve⟩⟩
    have hln : l < n := by omega
    have hv0 : vs[l]? = some (vs[l]'(by omega)) := List.getElem?_eq_getElem _
    obtain ⟨al, hal, hla⟩ := hve l _ hv0
    rw [hal] at hv0
    refine ⟨_, rfl, _, rfl, L, vs, -1, .ref al, rfl, rfl, SqL.of hvs, atI_end hvl hv0, ?_⟩
    refine ⟨_, rfl, .inl ⟨rfl, _, SqL.of hvs⟩, _, rfl, p, C, dx, _, _, rfl, s3 _ _ h1, T.cl, T.a2, mcF_rows .., ra, rfl, ⟨_, SqL.of (s3 _ _ h3)⟩, fun D1 hD1 => ?_⟩
    have hLD1 : L ≠ D1 := ne_of_none hvs hD1
    refine lc_list (K := K) (a := ra) (xs := rs) (fun k H5 => Same H4 H5 ∧ H5 D1 = some (.lst (natsV (((List.range N).map (cntM acc mv (l + 1))).take k)))) ⟨same_upd hD1, upd_same⟩ (fun k H5 _ h => SqL.of (h.1 _ _ (s3 _ _ h3))) (fun k x H5 hx h => ?_) (fun H5 h => ?_)
    · obtain ⟨s4, hD5⟩ := h
      obtain ⟨d, rfl, hd⟩ := h5 k _ hx
      have hkN : k < N := by
        have := (List.getElem?_eq_some_iff.mp hx).1
        omega
      have hd5 := s4 _ _ (s3 _ _ hd)
      have hla5 := s4 _ _ hla
      have hck : ((List.range N).map (cntM acc mv (l + 1)))[k]? = some (cntM acc mv (l + 1) k) := by
        rw [List.getElem?_map, List.getElem?_range hkN]
        rfl
      refine ⟨rfl, tyes ⟨d, .dK (rowK (mv k) lets4), hd5, True.intro, fun od => ⟨_, rfl, d, od, rowK (mv k) lets4, rfl, upd_same, fun D2 hD2 => ?_⟩⟩⟩
      have hD20 : H5 D2 = none := by
        rw [upd_ne fun e => by rw [e, upd_same] at hD2; cases hD2] at hD2
        exact hD2
      have hdD2 : d ≠ D2 := ne_of_none hd5 hD20
      have had : al ≠ d := ne_of hla5 hd5 (by intro z; cases z)
      have hsnd := rowK_snd (mv k) lets4
      generalize hes : lets4.filterMap (mv k) = es at hsnd
      have hlen : (rowK (mv k) lets4).length = es.length := by
        rw [← List.length_map (f := Prod.snd), hsnd, natsV_len]
      have hel : es.length ≤ 4 := by rw [← hlen]; exact rowK_len _ _
      refine lc_it walk_values (fun i H6 => Same (upd H5 d (.frz od (.dK (rowK (mv k) lets4)))) H6 ∧ H6 D2 = some (.lst (natsV ((es.map (cntM acc mv l)).take i)))) ⟨same_upd hD2, upd_same⟩ (fun i H6 _ h => h.1 _ _ upd_same) (fun i x H6 H7 hi h hY => ?_) (fun H6 h => ?_)
      · obtain ⟨s5, hD6⟩ := h
        obtain ⟨rfl, kk, hkv⟩ := hY
        have hx2 : (natsV es)[i]? = some x := by
          rw [← hsnd, List.getElem?_map, hkv]
          rfl
        obtain ⟨t0, ht0, rfl⟩ := natsV_getB hx2
        obtain ⟨c0, hc0, hmt⟩ := List.mem_filterMap.mp (by rw [hes]; exact List.mem_of_getElem? ht0)
        have htN := (hM.bd _ _ _ hmt).2.1
        have hat : (cntV N acc mv l)[t0]? = some (V.int ((cntM acc mv l t0 : Nat) : Int)) := by
          unfold cntV natsV
          rw [List.getElem?_map, List.getElem?_map, List.getElem?_range htN]
          rfl
        have hla7 : H7 al = some (.lst (cntV N acc mv l)) := s5 _ _ (by rw [upd_ne had]; exact hla5)
        refine ⟨rfl, tyes ⟨_, rfl, _, rfl, al, _, (t0 : Int), _, rfl, rfl, SqL.of hla7, at_of (j := t0) rfl hat, _, hD6, ?_, ?_, ?_⟩⟩
        · rw [natsV_len, List.length_take]
          exact Nat.lt_of_le_of_lt (m := 4) (by rw [List.length_map]; omega) (by decide)
        · exact fun b o hb => by rw [upd_ne (ne_of_none hb hD2)]; exact s5 _ _ hb
        · rw [upd_same, take_snoc (x := cntM acc mv l t0) (by rw [List.getElem?_map, ht0]; rfl), ← natsV_app]
          rfl
      · obtain ⟨s5, hD6⟩ := h
        rw [hlen, List.take_of_length_le (by rw [List.length_map]; exact Nat.le_refl _)] at hD6
        have hback : ∀ b o, H5 b = some o → (upd H6 d (.dK (rowK (mv k) lets4))) b = some o := fun b o hb => by
          by_cases e0 : b = d
          · subst e0
            rw [upd_same, ← hd5, hb]
          · rw [upd_ne e0]
            exact s5 _ _ (by rw [upd_ne e0]; exact hb)
        refine ⟨s5 _ _ upd_same, D2, (es.map (cntM acc mv l)).map fun (n : Nat) => (n : Int), rfl, SqL.of ?_, ?_⟩
        · rw [upd_ne hdD2.symm, ints_nats]
          exact hD6
        refine ⟨_, hback _ _ hD5, ?_, ?_, ?_⟩
        · rw [natsV_len, List.length_take]
          exact Nat.lt_of_le_of_lt (m := 1000) (by omega) (by decide)
        · exact fun b o hb => by rw [upd_ne (ne_of_none hb hD1)]; exact hback _ _ (s4 _ _ hb)
        · rw [upd_same, take_snoc hck, ← natsV_app, isum_nat]
          show some (HO.lst (_ ++ [V.int _])) = some (HO.lst (_ ++ [V.int ((cntM acc mv (l + 1) k : Nat) : Int)]))
          rw [cntM, hes]
    · obtain ⟨s4, hD5⟩ := h
      rw [h4, List.take_of_length_le (by rw [List.length_map, List.length_range]; exact Nat.le_refl _)] at hD5
      have hvs5 := s4 _ _ hvs
      refine ⟨L, vs, _, rfl, rfl, hvs5, Nat.lt_of_le_of_lt (m := 61) (by omega) (by decide), ?_⟩
      have keep : ∀ b o, H5 b = some o → b ≠ L → (upd H5 L (.lst (vs ++ [V.ref D1]))) b = some o := fun b o hb hn => by rw [upd_ne hn]; exact hb
      refine ⟨_, _, rfl, fun b o hb => keep _ _ (s4 _ _ (s3 _ _ hb)) (fun e => ?_), vs ++ [.ref D1], upd_same, by rw [List.length_append, hvl]; rfl, fun l' v hv => ?_⟩
      · exact hLn b o hb e
      · rcases Nat.lt_or_ge l' vs.length with hjl | hjl
        · rw [List.getElem?_append_left hjl] at hv
          obtain ⟨a, rfl, ha⟩ := hve l' v hv
          refine ⟨a, rfl, keep _ _ (s4 _ _ ha) (ne_of (s4 _ _ ha) hvs5 fun z => ?_)⟩
          have z : cntV N acc mv l' = vs := HO.lst.inj z
          obtain ⟨a0, e0, _⟩ := hve 0 _ (List.getElem?_eq_getElem (by omega : 0 < vs.length))
          have h0 : (cntV N acc mv l')[0]? = some (.ref a0) := by rw [z, ← e0]; exact List.getElem?_eq_getElem _
          obtain ⟨m, _, hm⟩ := natsV_getB h0
          cases hm
        · rw [List.getElem?_append_right hjl] at hv
          have hj0 : l' = vs.length := by
            have := (List.getElem?_eq_some_iff.mp hv).1
            rw [List.length_singleton] at this
            omega
          subst hj0
          rw [Nat.sub_self] at hv
          cases hv
          refine ⟨D1, rfl, keep _ _ ?_ hLD1.symm⟩
          rw [hvl]
          exact hD5
  · rintro σ' H4 ⟨o3, o4, rfl, s3, hC⟩
    exact ⟨_, rfl, q L H4 s3 hC⟩
end
end My
namespace My
open PySem PySem.Spec PyProof.Rows L2
/-! ### how many words of a length -/
def spNumC : Sp := fun vs H Q _ => ∃ (i a b : Int), vs = [.int i, .int a, .int b] ∧ Q (.bl (decide (a ≤ i ∧ i ≤ b))) H
/-- the right words of a length -/
structure WOf (L : List Nat → Prop) (n : Nat) (ws : List (List Nat)) : Prop where
  nd : ws.Nodup
  mem : ∀ u, u ∈ ws ↔ u.length = n ∧ LetsN u ∧ L u
theorem WOf.len {L : List Nat → Prop} {n : Nat} {ws us : List (List Nat)} (h : WOf L n ws) (k : WOf L n us) : ws.length = us.length :=
  ((List.perm_ext_iff_of_nodup h.nd k.nd).mpr fun u => (h.mem u).trans (k.mem u).symm).length_eq
theorem wltB_nd {ws : List (List Nat)} (h : ws.Pairwise wltB) : ws.Nodup := h.imp fun {u v} k e => by subst e; exact wltB_irr _ k
theorem wd_of {L : List Nat → Prop} {N : Nat} {acc : Nat → Bool} {mv : Mv} (A : IsAut L N acc mv) (n : Nat) : WOf L n (wdM acc mv n 0) where
  nd := wltB_nd (wd_asc acc mv n 0)
  mem := fun u => by rw [wd_mem, A.lang]
theorem CntAt.get {H : Hp} {c : Addr} {N n l : Nat} {acc : Nat → Bool} {mv : Mv} (h : CntAt H c N acc mv n) (hl : l ≤ n) : ∃ vs a, H c = some (.lst vs) ∧ vs[l]? = some (.ref a) ∧ H a = some (.lst (cntV N acc mv l)) := by
  obtain ⟨vs, h1, h2, h3⟩ := h.ex
  have hv : vs[l]? = some (vs[l]'(by omega)) := List.getElem?_eq_getElem _
  obtain ⟨a, e, h4⟩ := h3 l _ hv
  exact ⟨vs, a, h1, by rw [hv, e], h4⟩
theorem cntV_get {N l q : Nat} {acc : Nat → Bool} {mv : Mv} (hq : q < N) : (cntV N acc mv l)[q]? = some (V.int ((cntM acc mv l q : Nat) : Int)) := by
  unfold cntV natsV
  rw [List.getElem?_map, List.getElem?_map, List.getElem?_range hq]
  rfl
def spCountW : Sp := fun vs H Q _ => ∃ (v : V) (e : E) (l : Nat), vs = [v, .int l] ∧ Esh e ∧ Rep H v e.toD ∧ l ≤ 60 ∧ ∀ H' ws, Same H H' → WOf (MW e) l ws → Q (.int ws.length) H'
section
variable {P : Program} {w : World} {K : PySem.W.Frag} {mg : Str → Option Value} {base : Heap} {a_BOUNDS a_LONG_BOUNDS : Addr} {tL tM : Tok}
abbrev N_is_number : List Str := ["value", "least", "most"]
theorem sc_is_number : FnScope ["value", "least", "most"] ["value", "least", "most"] (defScope s_is_number) := ⟨rfl, rfl, rfl, by decide +kernel, rfl, by decide +kernel, by decide +kernel⟩
theorem ok_isnumberC {f : Addr} {fd : FuncData} (B : Bt K mg a_BOUNDS a_LONG_BOUNDS tL tM) (Dd : Df K mg "is_number" s_is_number ["value", "least", "most"] f fd) : FnOk P w K mg base CX0 1 f fd ["value", "least", "most"] spNumC := by
  refine Dd.F.ok sc_is_number (fun vs H Q Ex h => ?_) (fun cdv A outer s H vs Q Ex hr h => ?_)
  · obtain ⟨i, a, b, rfl, _⟩ := h
    rfl
  obtain ⟨i, a, b, rfl, q⟩ := h
  refine ⟨_, (pss_one (ps_ret (pe_and (pe_callB call_isi rfl B.b_isinstance boot_isinstance (pa_cons (pv 0) (pa_cons (pe_bltn (v := .ty "int") rfl B.b_int boot_int rfl) pa_nil))) (pe_and (pe_not (pe_callB call_isi rfl B.b_isinstance boot_isinstance (pa_cons (pv 0) (pa_cons (pe_bltn (v := .ty "bool") rfl B.b_bool boot_bool rfl) pa_nil)))) (pe_one (pe_chain op_le op_le (pv 1) (pv 0) (pv 2))))))), ?_⟩
  have T1 : TyX K H (.int i) (.type "int") := .base (.int i)
  refine ⟨_, rfl, _, _, _, _, _, rfl, .ty _, T1, kit_ty (r := true) (by decide +kernel), _, rfl, iteT ?_⟩
  refine ⟨_, rfl, _, _, _, _, _, rfl, .ty _, T1, kit_ty (r := false) (by decide +kernel), _, rfl, true, rfl, ?_⟩
  rw [if_pos rfl]
  refine ⟨_, rfl, _, rfl, _, _, rfl, rfl, _, rfl, ite2 (fun c => ?_) (fun c => ?_)⟩
  · refine ⟨_, rfl, _, _, rfl, rfl, ?_⟩
    have c1 : a ≤ i := of_decide_eq_true c
    have e : (decide (a ≤ i ∧ i ≤ b)) = decide (i ≤ b) := decide_eq_decide.mpr ⟨fun h => h.2, fun h => ⟨c1, h⟩⟩
    rw [e] at q
    exact q
  · have c1 : ¬ a ≤ i := fun h => c (decide_eq_true h)
    rw [decide_eq_false (fun h => c1 h.1)] at q
    exact q
abbrev N_count_words : List Str := ["expression", "length"]
theorem sc_count_words : FnScope ["expression", "length"] ["expression", "length"] (defScope s_count_words) := ⟨rfl, rfl, rfl, by decide +kernel, rfl, by decide +kernel, by decide +kernel⟩
theorem ok_countw {C f : Addr} {fd : FuncData} (B : Bt K mg a_BOUNDS a_LONG_BOUNDS tL tM) (Dd : Df K mg "count_words" s_count_words ["expression", "length"] f fd) (GDcheck_expression : ClD P w K mg base 6 "check_expression" ["value", "name"] [V.str "expression"] spChkE) (Gis_number : Cl P w K mg base 1 "is_number" ["value", "least", "most"] spNumC) (Gmachine_of : Cl P w K mg base 88 "machine_of" ["expression"] (spMachOf C)) (Gcounts_of : Cl P w K mg base 1 "counts_of" ["machine", "length"] (spCounts C)) : FnOk P w K mg base CX0 90 f fd ["expression", "length"] spCountW := by
  refine Dd.F.ok sc_count_words (fun vs H Q Ex h => ?_) (fun cdv A outer s H vs Q Ex hr h => ?_)
  · obtain ⟨v, e, l, rfl, _⟩ := h
    rfl
  obtain ⟨v, e, l, rfl, hE, hR, hl, q⟩ := h
  refine ⟨_, (pss_cons (ps_expr (pe_clD GDcheck_expression (hr.mono (by omega)) rfl (pa_cons (pv 0) pa_nil)))
    (pss_cons (ps_if (pt_not (pt_val (pe_cl Gis_number (hr.mono (by omega)) rfl (pa_cons (pv 1) (pa_cons pe_int (pa_cons (pe_glob (v := .int 60) rfl B.g_MOST_COUNTED ⟨_, rfl⟩) pa_nil)))))) (pss_one ps_never) pss_nil)
    (pss_one (ps_ret (pe_ix (r := rIxL K) ix_list (pe_ix (r := rIxL K) ix_list (pe_cl Gcounts_of (hr.mono (by omega)) rfl (pa_cons (pe_cl Gmachine_of (hr.mono (by omega)) rfl (pa_cons (pv 0) pa_nil)) (pa_cons (pv 1) pa_nil))) (pv 1) (fun _ _ => rfl)) pe_int (fun _ _ => rfl)))))), ?_⟩
  refine ⟨_, rfl, v, e, _, rfl, hE, hR, fun H1 s1 => ?_⟩
  refine ⟨_, rfl, (l : Int), 0, 60, rfl, ?_⟩
  rw [decide_eq_true (⟨by omega, by omega⟩ : (0 : Int) ≤ (l : Int) ∧ (l : Int) ≤ 60)]
  refine ⟨_, rfl, iteF ?_⟩
  refine ⟨_, rfl, v, e, rfl, hE.ok, by have := hE.dep; omega, hE.pl, hR.pers (Pers.same s1), fun p N acc mv H2 s2 M A => ?_⟩
  have hN : N ≤ 1000 := Nat.le_trans (aut_bound hE.ok (fun w => Iff.rfl) A) (Nat.le_trans (Nat.pow_le_pow_right (by decide) hE.pl) (by decide))
  refine ⟨_, rfl, p, N, acc, mv, l, rfl, M, hN, hl, fun c H3 s3 hC => ?_⟩
  obtain ⟨vs, a, h1, h2, h3⟩ := hC.get (Nat.le_refl _)
  refine ⟨_, rfl, c, vs, (l : Int), .ref a, rfl, rfl, SqL.of h1, at_of (j := l) rfl h2, a, _, 0, _, rfl, rfl, SqL.of h3, at_of (j := 0) rfl (cntV_get A.pos), ?_⟩
  rw [← wd_len]
  exact q H3 _ (s1.trans (s2.trans s3)) (wd_of A l)
end
end My
namespace My
open PySem PySem.Spec PyProof.Rows L2
def spEqual (n : Nat) : Sp := fun vs H Q _ => ∃ (x y : V) (j : J) (k : Nat), vs = [x, y] ∧ k < n ∧ RepJ H x j k ∧ RepJ H y j k ∧ ∀ H', Same H H' → Q (.bl true) H'
section
variable {P : Program} {w : World} {K : PySem.W.Frag} {mg : Str → Option Value} {base : Heap} {a_BOUNDS a_LONG_BOUNDS : Addr} {tL tM : Tok}
theorem lets_by {z : Str} (h : (decide (0 < z.length) && decide (z.length ≤ 100) && z.cps.toList.all fun c => decide (97 ≤ c) && decide (c ≤ 100)) = true) : Lets z := by
  simp only [Bool.and_eq_true, decide_eq_true_eq, List.all_eq_true] at h
  exact ⟨h.1.1, h.1.2, h.2⟩
theorem sum_cast (es : List E) (f : E → Nat) : (es.map fun k => ((f k : Nat) : Int)).sum = (((es.map f).sum : Nat) : Int) := by
  induction es with
  | nil => rfl
  | cons e es ih =>
    rw [List.map_cons, List.sum_cons, List.map_cons, List.sum_cons, ih]
    omega
/-! ### the law's own comparison, of equal data -/
def SeqV (K : PySem.W.Frag) (H : Hp) (p : Addr) (xs : List V) : Prop := SqL K H p xs ∨ SqT K H p xs
theorem SeqV.len {K : PySem.W.Frag} {H : Hp} {p : Addr} {xs : List V} (h : SeqV K H p xs) {n : Nat} (e : n = xs.length) : LenV K (.ref p) H n := by
  rcases h with h | h
  · exact .inl ⟨xs, h, e⟩
  · exact .inr ⟨xs, h, e⟩
theorem SeqV.ix {K : PySem.W.Frag} {H : Hp} {p : Addr} {xs : List V} (h : SeqV K H p xs) {i : Int} {v : V} {Q : VK} (hi : atI xs i = some v) (q : Q v H) : rIx K (.ref p) (.int i) H Q := by
  rcases h with h | h
  · exact .inl ⟨p, xs, i, v, rfl, rfl, h, hi, q⟩
  · exact .inr (.inl ⟨p, xs, i, v, rfl, rfl, h, hi, q⟩)
theorem SeqV.same {K : PySem.W.Frag} {H H' : Hp} {p : Addr} {xs : List V} (s : Same H H') (h : SeqV K H p xs) : SeqV K H' p xs := by
  rcases h with h | h
  · exact .inl (s.seq h)
  · rcases h with (h | ⟨o, h⟩) | h
    · exact .inr (.inl (.inl (s _ _ h)))
    · exact .inr (.inl (.inr ⟨o, s _ _ h⟩))
    · exact .inr (.inr h)
theorem RepJ.both {K : PySem.W.Frag} {H : Hp} {x y : V} {j : J} {k : Nat} (hx : RepJ H x j k) (hy : RepJ H y j k) : (x = .non ∧ y = .non) ∨ (∃ b, x = .bl b ∧ y = .bl b) ∨ (∃ i, x = .int i ∧ y = .int i) ∨ (∃ z, x = .str z ∧ y = .str z) ∨
    ∃ (isT : Bool) (p q : Addr) (xs ys : List V) (js : List J) (k' : Nat), k = k' + 1 ∧ x = .ref p ∧ y = .ref q ∧ TyX K H x (.type (if isT then "tuple" else "list")) ∧ TyX K H y (.type (if isT then "tuple" else "list")) ∧ SeqV K H p xs ∧ SeqV K H q ys ∧ xs.length ≤ 100000 ∧ xs.length = js.length ∧ ys.length = js.length ∧
      (∀ (i : Nat) (x : V) (j : J), xs[i]? = some x → js[i]? = some j → RepJ H x j k') ∧ (∀ (i : Nat) (x : V) (j : J), ys[i]? = some x → js[i]? = some j → RepJ H x j k') := by
  cases hx with
  | non => cases hy; exact .inl ⟨rfl, rfl⟩
  | bl b => cases hy; exact .inr (.inl ⟨b, rfl, rfl⟩)
  | int i => cases hy; exact .inr (.inr (.inl ⟨i, rfl, rfl⟩))
  | str z => cases hy; exact .inr (.inr (.inr (.inl ⟨z, rfl, rfl⟩)))
  | @tup n p xs js h z l r =>
    cases hy with
    | @tup _ q ys _ h' z' l' r' => exact .inr (.inr (.inr (.inr ⟨true, p, q, xs, ys, js, n, rfl, rfl, rfl, .base (.tup h), .base (.tup h'), .inr (SqT.of h), .inr (SqT.of h'), z, l, l', r, r'⟩)))
  | @lst n p xs js h z l r =>
    cases hy with
    | @lst _ q ys _ h' z' l' r' => exact .inr (.inr (.inr (.inr ⟨false, p, q, xs, ys, js, n, rfl, rfl, rfl, .base (.lst h), .base (.lst h'), .inl (SqL.of h), .inl (SqL.of h'), z, l, l', r, r'⟩)))
def spIsInt : Sp := fun vs H Q _ => ∃ i : Int, vs = [.int i] ∧ Q (.bl true) H
abbrev N__law_is_integer : List Str := ["actual"]
theorem sc__law_is_integer : FnScope ["actual"] ["actual"] (defScope s__law_is_integer) := ⟨rfl, rfl, rfl, by decide +kernel, rfl, by decide +kernel, by decide +kernel⟩
theorem ok_isint {f : Addr} {fd : FuncData} (B : Bt K mg a_BOUNDS a_LONG_BOUNDS tL tM) (Dd : Df K mg "_law_is_integer" s__law_is_integer ["actual"] f fd) : FnOk P w K mg base CX0 1 f fd ["actual"] spIsInt := by
  refine Dd.F.ok sc__law_is_integer (fun vs H Q Ex h => ?_) (fun cdv A outer s H vs Q Ex hr h => ?_)
  · obtain ⟨i, rfl, _⟩ := h
    rfl
  obtain ⟨i, rfl, q⟩ := h
  refine ⟨_, (pss_one (ps_ret (pe_and (pe_callB call_isi rfl B.b_isinstance boot_isinstance (pa_cons (pv 0) (pa_cons (pe_bltn (v := .ty "int") rfl B.b_int boot_int rfl) pa_nil))) (pe_one (pe_not (pe_callB call_isi rfl B.b_isinstance boot_isinstance (pa_cons (pv 0) (pa_cons (pe_bltn (v := .ty "bool") rfl B.b_bool boot_bool rfl) pa_nil)))))))), ?_⟩
  have T : TyX K H (.int i) (.type "int") := .base (.int i)
  exact ⟨_, rfl, _, _, _, _, _, rfl, .ty _, T, kit_ty (r := true) (by decide +kernel), _, rfl, iteT ⟨_, rfl, _, _, _, _, _, rfl, .ty _, T, kit_ty (r := false) (by decide +kernel), _, rfl, q⟩⟩
abbrev N__law_equal : List Str := ["actual", "due", "at"]
theorem sc__law_equal : FnScope ["actual", "due", "at"] ["actual", "due"] (defScope s__law_equal) := ⟨rfl, rfl, rfl, by decide +kernel, rfl, by decide +kernel, by decide +kernel⟩
theorem ok_equal_step {f : Addr} {fd : FuncData} (B : Bt K mg a_BOUNDS a_LONG_BOUNDS tL tM) (Dd : Df K mg "_law_equal" s__law_equal ["actual", "due"] f fd) (G_law_is_integer : Cl P w K mg base 1 "_law_is_integer" ["actual"] spIsInt) (n : Nat)
    (G_law_equal : Cl P w K mg base (n + 1) "_law_equal" ["actual", "due"] (spEqual n)) : FnOk P w K mg base CX0 (n + 2) f fd ["actual", "due"] (spEqual (n + 1)) := by
  refine Dd.F.ok sc__law_equal (fun vs H Q Ex h => ?_) (fun cdv A outer s H vs Q Ex hr h => ?_)
  · obtain ⟨x, y, j, k, rfl, _⟩ := h
    rfl
  obtain ⟨x, y, j, k, rfl, hk, hx, hy, q⟩ := h
  refine ⟨_, (pss_cons (ps_if (pt_cmpR op_isN (pv 1) pe_non (nomark _)) (pss_one (ps_ret (pe_cmpR op_isN (pv 0) pe_non (nomark _)))) pss_nil)
    (pss_cons (ps_if (pt_val (pe_callB call_isi rfl B.b_isinstance boot_isinstance (pa_cons (pv 1) (pa_cons (pe_bltn (v := .ty "bool") rfl B.b_bool boot_bool rfl) pa_nil)))) (pss_one (ps_ret (pe_and (pe_callB call_isi rfl B.b_isinstance boot_isinstance (pa_cons (pv 0) (pa_cons (pe_bltn (v := .ty "bool") rfl B.b_bool boot_bool rfl) pa_nil))) (pe_one (pe_cmpR op_eq (pv 0) (pv 1) (nomark _)))))) pss_nil)
    (pss_cons (ps_if (pt_val (pe_callB call_isi rfl B.b_isinstance boot_isinstance (pa_cons (pv 1) (pa_cons (pe_bltn (v := .ty "int") rfl B.b_int boot_int rfl) pa_nil)))) (pss_one (ps_ret (pe_and (pe_cl G_law_is_integer (hr.mono (by omega)) rfl (pa_cons (pv 0) pa_nil)) (pe_one (pe_cmpR op_eq (pv 0) (pv 1) (nomark _)))))) pss_nil)
    (pss_cons (ps_if (pt_val (pe_callB call_isi rfl B.b_isinstance boot_isinstance (pa_cons (pv 1) (pa_cons (pe_bltn (v := .ty "str") rfl B.b_str boot_str rfl) pa_nil)))) (pss_one (ps_ret (pe_and (pe_callB call_isi rfl B.b_isinstance boot_isinstance (pa_cons (pv 0) (pa_cons (pe_bltn (v := .ty "str") rfl B.b_str boot_str rfl) pa_nil))) (pe_one (pe_cmpR op_eq (pv 0) (pv 1) (nomark _)))))) pss_nil)
    (C8.pss_cut (ps_if (PW.pt (pw_and (pt_val (pe_callB call_isi rfl B.b_isinstance boot_isinstance (pa_cons (pv 1) (pa_cons (pe_bltn (v := .ty "tuple") rfl B.b_tuple boot_tuple rfl) pa_nil)))) (pw_and1 (pt_not (pt_val (pe_callB call_isi rfl B.b_isinstance boot_isinstance (pa_cons (pv 0) (pa_cons (pe_bltn (v := .ty "tuple") rfl B.b_tuple boot_tuple rfl) pa_nil)))))))) (pss_one (ps_ret pe_bl)) pss_nil)
    (C8.pss_cut (ps_if (PW.pt (pw_and (pt_val (pe_callB call_isi rfl B.b_isinstance boot_isinstance (pa_cons (pv 1) (pa_cons (pe_bltn (v := .ty "list") rfl B.b_list boot_list rfl) pa_nil)))) (pw_and1 (pt_not (pt_val (pe_callB call_isi rfl B.b_isinstance boot_isinstance (pa_cons (pv 0) (pa_cons (pe_bltn (v := .ty "list") rfl B.b_list boot_list rfl) pa_nil)))))))) (pss_one (ps_ret pe_bl)) pss_nil)
    (pss_cons (ps_if (pt_cmpR op_ne (pe_callB call_len rfl B.b_len boot_len (pa_cons (pv 0) pa_nil)) (pe_callB call_len rfl B.b_len boot_len (pa_cons (pv 1) pa_nil)) (nomark _)) (pss_one (ps_ret pe_bl)) pss_nil)
    (pss_one (ps_ret (pe_callB (cr_all rfl) rfl B.b_all boot_all (pa_cons (pe_lc (own := [("at", 2)]) (g := gName 2) (tt := tYes) rfl sc__law_equal.nd (pi_range1 rfl B.b_range (pa_cons (pe_callB call_len rfl B.b_len boot_len (pa_cons (pv 1) pa_nil)) pa_nil)) (blkOk_by (N := N__law_equal) (sc := defScope s__law_equal) (by decide +kernel)) (fun _ _ _ _ _ => pg_name (i := 2) sc__law_equal.nd rfl (Or.inl rfl)) (fun _ _ _ _ _ => pts_nil) (fun _ _ _ _ _ => (pe_cl G_law_equal (hr.mono (by omega)) rfl (pa_cons (pe_ix (r := rIx K) ix_seq (pv 0) (pv 2) (fun _ _ => rfl)) (pa_cons (pe_ix (r := rIx K) ix_seq (pv 1) (pv 2) (fun _ _ => rfl)) pa_nil))))) pa_nil))))))))))), ?_⟩
  rcases hx.both (K := K) hy with ⟨rfl, rfl⟩ | ⟨b, rfl, rfl⟩ | ⟨i, rfl, rfl⟩ | ⟨z, rfl, rfl⟩ | ⟨isT, p, p', xs, ys, js, k', rfl, rfl, rfl, T, T', S, S', hz, l, l', r, r'⟩
  · exact ⟨_, rfl, rfl, _, rfl, iteT ⟨_, rfl, rfl, q _ (Same.refl _)⟩⟩
  · have T : TyX K H (.bl b) (.type "bool") := .base (.bl b)
    refine ⟨_, rfl, rfl, _, rfl, iteF ⟨_, rfl, _, _, _, _, _, rfl, .ty _, T, kit_ty (r := true) (by decide +kernel), _, rfl, iteT ⟨_, rfl, _, _, _, _, _, rfl, .ty _, T, kit_ty (r := true) (by decide +kernel), _, rfl, iteT ⟨_, rfl, _, rfl, rfl, ?_⟩⟩⟩⟩
    rw [decide_eq_true rfl]
    exact q _ (Same.refl _)
  · have T : TyX K H (.int i) (.type "int") := .base (.int i)
    refine ⟨_, rfl, rfl, _, rfl, iteF ⟨_, rfl, _, _, _, _, _, rfl, .ty _, T, kit_ty (r := false) (by decide +kernel), _, rfl, iteF ⟨_, rfl, _, _, _, _, _, rfl, .ty _, T, kit_ty (r := true) (by decide +kernel), _, rfl, iteT ⟨_, rfl, i, rfl, _, rfl, iteT ⟨_, rfl, _, rfl, rfl, ?_⟩⟩⟩⟩⟩
    rw [decide_eq_true rfl]
    exact q _ (Same.refl _)
  · have T : TyX K H (.str z) (.type "str") := .base (.str z)
    refine ⟨_, rfl, rfl, _, rfl, iteF ⟨_, rfl, _, _, _, _, _, rfl, .ty _, T, kit_ty (r := false) (by decide +kernel), _, rfl, iteF ⟨_, rfl, _, _, _, _, _, rfl, .ty _, T, kit_ty (r := false) (by decide +kernel), _, rfl, iteF ⟨_, rfl, _, _, _, _, _, rfl, .ty _, T, kit_ty (r := true) (by decide +kernel), _, rfl,
      iteT ⟨_, rfl, _, _, _, _, _, rfl, .ty _, T, kit_ty (r := true) (by decide +kernel), _, rfl, iteT ⟨_, rfl, _, rfl, rfl, ?_⟩⟩⟩⟩⟩⟩
    rw [decide_eq_true rfl]
    exact q _ (Same.refl _)
  · have kb : PySem.W.kitOne K (.type (if isT then "tuple" else "list")) (.type "bool") = some false := by cases isT <;> exact kit_ty (r := false) (by decide +kernel)
    have ki : PySem.W.kitOne K (.type (if isT then "tuple" else "list")) (.type "int") = some false := by cases isT <;> exact kit_ty (r := false) (by decide +kernel)
    have ks : PySem.W.kitOne K (.type (if isT then "tuple" else "list")) (.type "str") = some false := by cases isT <;> exact kit_ty (r := false) (by decide +kernel)
    have kt : PySem.W.kitOne K (.type (if isT then "tuple" else "list")) (.type "tuple") = some isT := by
      cases isT
      · exact kit_ty (r := false) (by decide +kernel)
      · exact kit_ty (r := true) (by decide +kernel)
    have kl : PySem.W.kitOne K (.type (if isT then "tuple" else "list")) (.type "list") = some (!isT) := by
      cases isT
      · exact kit_ty (r := true) (by decide +kernel)
      · exact kit_ty (r := false) (by decide +kernel)
    refine ⟨_, rfl, rfl, _, rfl, iteF ⟨_, rfl, _, _, _, _, _, rfl, .ty _, T', kb, _, rfl, iteF ⟨_, rfl, _, _, _, _, _, rfl, .ty _, T', ki, _, rfl, iteF ⟨_, rfl, _, _, _, _, _, rfl, .ty _, T', ks, _, rfl, iteF ?_⟩⟩⟩⟩
    refine ⟨fun σ' H' => σ' = [some (.ref p), some (.ref p'), none] ∧ H = H', ?_, ?_⟩
    · refine ⟨_, rfl, _, _, _, _, _, rfl, .ty _, T', kt, _, rfl, ite2 (fun e => ?_) (fun e => iteF ⟨rfl, rfl⟩)⟩
      refine ⟨_, rfl, _, _, _, _, _, rfl, .ty _, T, kt, _, rfl, ?_⟩
      rw [e]
      exact iteF ⟨rfl, rfl⟩
    rintro σ' H' ⟨rfl, rfl⟩
    refine ⟨fun σ' H' => σ' = [some (.ref p), some (.ref p'), none] ∧ H = H', ?_, ?_⟩
    · refine ⟨_, rfl, _, _, _, _, _, rfl, .ty _, T', kl, _, rfl, ite2 (fun e => ?_) (fun e => iteF ⟨rfl, rfl⟩)⟩
      refine ⟨_, rfl, _, _, _, _, _, rfl, .ty _, T, kl, _, rfl, ?_⟩
      rw [e]
      exact iteF ⟨rfl, rfl⟩
    rintro σ' H' ⟨rfl, rfl⟩
    refine ⟨_, rfl, _, js.length, rfl, S.len l.symm, _, rfl, _, js.length, rfl, S'.len l'.symm, rfl, _, rfl, ?_⟩
    have e0 : (!decide (V.int ((js.length : Nat) : Int) = V.int ((js.length : Nat) : Int))) = false := by
      rw [decide_eq_true rfl]
      rfl
    refine ite2 (fun e => ?_) (fun _ => ?_)
    · have e1 : (!decide (V.int ((js.length : Nat) : Int) = V.int ((js.length : Nat) : Int))) = true := e
      rw [e0] at e1
      cases e1
    refine ⟨_, rfl, _, js.length, rfl, S'.len l'.symm, _, rfl, by omega, by omega, fun L hL => ?_⟩
    refine lc_range (lo := 0) (n := js.length) (fun i H2 => Same H H2 ∧ H2 L = some (.lst ((List.replicate i true).map V.bl))) ⟨same_upd hL, upd_same⟩ (fun i H2 hi h => ?_) (fun H2 h => ?_)
    · have ix : xs[i]? = some xs[i] := List.getElem?_eq_getElem (by omega)
      have iy : ys[i]? = some ys[i] := List.getElem?_eq_getElem (by omega)
      have ij : js[i]? = some js[i] := List.getElem?_eq_getElem hi
      refine ⟨rfl, tyes ⟨_, rfl, _, rfl, (S.same h.1).ix (at_of (j := i) (by omega) ix) ⟨_, rfl, _, rfl, (S'.same h.1).ix (at_of (j := i) (by omega) iy) ⟨_, _, _, _, rfl, by omega, (r i _ _ ix ij).same h.1, (r' i _ _ iy ij).same h.1, fun H3 s3 => ⟨_, s3 _ _ h.2, ?_, ?_, ?_⟩⟩⟩⟩⟩
      · rw [List.length_map, List.length_replicate]
        exact Nat.lt_of_le_of_lt (m := 100000) (by omega) (by decide)
      · exact fun b o e => by rw [upd_ne (ne_of_none e hL)]; exact s3 _ _ (h.1 b o e)
      · rw [upd_same, List.replicate_succ', List.map_append]
        rfl
    · obtain ⟨h1, h2⟩ := h
      refine ⟨L, _, rfl, SqL.of h2, ?_⟩
      have e1 : (List.replicate js.length true).all id = true := by
        rw [List.all_eq_true]
        intro x hx
        rw [(List.mem_replicate.mp hx).2]
        rfl
      rw [e1]
      exact q _ h1
end
end My
namespace My
open PySem PySem.Spec PyProof.Rows L2
/-! ### counted words -/
noncomputable def mwB (e : E) (u : List Nat) : Bool := @decide (MW e u) (Classical.propDecidable _)
theorem mwB_iff {e : E} (u : List Nat) : mwB e u = true ↔ MW e u := by
  unfold mwB
  exact @decide_eq_true_iff _ (Classical.propDecidable _)
theorem strV_len (u : List Nat) : (⟨u.toArray⟩ : Str).length = u.length := List.size_toArray ..
theorem mem_lvW {ls : List Nat} : ∀ {n : Nat} {u : List Nat}, u ∈ lvW ls n ↔ u.length = n ∧ ∀ c ∈ u, c ∈ ls
  | 0, u => by
    rw [lvW, List.mem_singleton]
    constructor
    · rintro rfl
      exact ⟨rfl, fun c hc => nomatch hc⟩
    · rintro ⟨h, _⟩
      exact List.length_eq_zero_iff.mp h
  | n + 1, u => by
    rw [lvW, List.mem_flatMap]
    constructor
    · rintro ⟨w, hw, hu⟩
      obtain ⟨c, hc, rfl⟩ := List.mem_map.mp hu
      obtain ⟨h1, h2⟩ := mem_lvW.mp hw
      refine ⟨by rw [List.length_append, h1]; rfl, fun d hd => ?_⟩
      rcases List.mem_append.mp hd with hd | hd
      · exact h2 d hd
      · rw [List.mem_singleton.mp hd]
        exact hc
    · rintro ⟨h1, h2⟩
      have hne : u ≠ [] := fun h => by
        rw [h] at h1
        cases h1
      obtain ⟨w, c, rfl⟩ : ∃ w c, u = w ++ [c] := ⟨u.dropLast, u.getLast hne, (List.dropLast_concat_getLast hne).symm⟩
      rw [List.length_append] at h1
      exact ⟨w, mem_lvW.mpr ⟨Nat.succ.inj h1, fun d hd => h2 d (List.mem_append_left _ hd)⟩, List.mem_map.mpr ⟨c, h2 c (List.mem_append_right _ (List.mem_singleton.mpr rfl)), rfl⟩⟩
theorem lvW_nd {ls : List Nat} (hl : ls.Nodup) : ∀ n, (lvW ls n).Nodup
  | 0 => List.nodup_cons.mpr ⟨List.not_mem_nil, List.nodup_nil⟩
  | n + 1 => by
    refine pw_flat (S := (· ≠ ·)) _ _ (lvW_nd hl n) (fun w _ => ?_) (fun w _ v _ hwv x hx y hy => ?_)
    · rw [List.pairwise_map]
      exact hl.imp fun h e => h (List.cons.inj (List.append_cancel_left e)).1
    · obtain ⟨c, _, rfl⟩ := List.mem_map.mp hx
      obtain ⟨d, _, rfl⟩ := List.mem_map.mp hy
      exact fun e => hwv (List.append_inj' e rfl).1
theorem upW_nd {ls : List Nat} (hl : ls.Nodup) (n : Nat) : (upW ls n).Nodup := by
  refine pw_flat (S := (· < ·)) _ _ List.pairwise_lt_range (fun l _ => lvW_nd hl l) (fun l _ m _ hlm u hu v hv => ?_)
  rintro rfl
  have h1 := (mem_lvW.mp hu).1
  have h2 := (mem_lvW.mp hv).1
  omega
theorem mem_upW {ls : List Nat} {n : Nat} {u : List Nat} : u ∈ upW ls n ↔ u.length ≤ n ∧ ∀ c ∈ u, c ∈ ls := by
  unfold upW
  rw [List.mem_flatMap]
  constructor
  · rintro ⟨l, hl, hu⟩
    obtain ⟨h1, h2⟩ := mem_lvW.mp hu
    have := List.mem_range.mp hl
    exact ⟨by omega, h2⟩
  · rintro ⟨h1, h2⟩
    exact ⟨u.length, List.mem_range.mpr (by omega), mem_lvW.mpr ⟨rfl, h2⟩⟩
theorem due_of {ls : List Nat} (hl : ls.Nodup) (h4 : LetsN ls) {e : E} (ho : e.ok = true) (hi : ∀ c ∈ e.letters, c ∈ ls) (n : Nat) : WOf (MW e) n (((upW ls n).filter fun u => decide (u.length = n)).filter (mwB e)) where
  nd := ((upW_nd hl n).sublist List.filter_sublist).sublist List.filter_sublist
  mem := fun u => by
    rw [List.mem_filter, List.mem_filter, mem_upW, mwB_iff, decide_eq_true_eq]
    constructor
    · rintro ⟨⟨⟨_, h2⟩, h3⟩, h5⟩
      exact ⟨h3, fun c hc => h4 c (h2 c hc), h5⟩
    · rintro ⟨h1, h2, h3⟩
      exact ⟨⟨⟨by omega, fun c hc => hi c (mw_lets e ho u h3 c hc).1⟩, h1⟩, h3⟩
theorem ones_sum (p : List Nat → Bool) : ∀ l : List (List Nat), (l.map fun u => if p u = true then 1 else 0).sum = (l.filter p).length
  | [] => rfl
  | u :: l => by
    rw [List.map_cons, List.sum_cons, ones_sum p l]
    by_cases h : p u = true
    · rw [if_pos h, List.filter_cons_of_pos h, List.length_cons, Nat.add_comm]
    · rw [if_neg h, List.filter_cons_of_neg h, Nat.zero_add]
theorem cntS_of (e : E) (n : Nat) : WOf (MW e) n (wdS e n none) where
  nd := wltB_nd (wdS_asc e n none)
  mem := fun u => by
    rw [wdS_mem]
    exact and_congr_right fun h => and_congr_right fun h2 => runO_mw u
def spLaw (K : PySem.W.Frag) : Sp := fun vs H Q _ => ∃ (s : Addr) (ns : List Int), vs = [.ref s] ∧ SqL K H s (ns.map V.int) ∧ ns.length ≤ 63 ∧ ∀ H', Q (.bl true) H'
section
variable {P : Program} {w : World} {K : PySem.W.Frag} {mg : Str → Option Value} {base : Heap} {a_BOUNDS a_LONG_BOUNDS : Addr} {tL tM : Tok}
abbrev N_law : List Str := ["script", "stream", "letters", "expression", "length", "due", "word"]
theorem sc_law : FnScope ["script", "stream", "letters", "expression", "length", "due", "word"] ["script"] (defScope s_law) := ⟨rfl, rfl, rfl, by decide +kernel, rfl, by decide +kernel, by decide +kernel⟩
set_option maxHeartbeats 4000000 in
theorem ok_law {f : Addr} {fd : FuncData} (B : Bt K mg a_BOUNDS a_LONG_BOUNDS tL tM) (Dd : Df K mg "law" s_law ["script"] f fd) (G_law_stream : Cl P w K mg base 1 "_law_stream" ["script"] (spStream K)) (G_law_next : Cl P w K mg base 1 "_law_next" ["stream", "many"] spNext) (G_law_some : Cl P w K mg base 23 "_law_some" ["stream", "letters", "most"] spSomeA) (G_law_is_right : Cl P w K mg base 8 "_law_is_right" ["expression", "word"] spRightC) (G_law_texts : Cl P w K mg base 1 "_law_texts" ["letters", "most"] spTexts) (G_law_counted : Cl P w K mg base 10 "_law_counted" ["expression", "length"] spCountL) (G_law_equal : Cl P w K mg base 5 "_law_equal" ["actual", "due"] (spEqual 4)) (Gcount_words : Cl P w K mg base 90 "count_words" ["expression", "length"] spCountW) : FnOk P w K mg base CX0 91 f fd ["script"] (spLaw K) := by
  refine Dd.F.ok sc_law (fun vs H Q Ex h => ?_) (fun cdv A outer s H vs Q Ex hr h => ?_)
  · obtain ⟨sa, ns, rfl, _⟩ := h
    rfl
  obtain ⟨sa, ns, rfl, hsq, h63, q⟩ := h
  refine ⟨_, (pss_cons (ps_set (i := 1) sc_law.nd rfl (Or.inl rfl) (pe_cl G_law_stream (hr.mono (by omega)) rfl (pa_cons (pv 0) pa_nil)))
    (pss_cons (ps_set (i := 2) sc_law.nd rfl (Or.inl rfl) (pe_ix (r := rIxL K) ix_list (pe_lst (pa_cons pe_str (pa_cons pe_str (pa_cons pe_str pa_nil)))) (pe_cl G_law_next (hr.mono (by omega)) rfl (pa_cons (pv 1) (pa_cons pe_int pa_nil))) (fun _ _ => rfl)))
    (pss_cons (ps_set (i := 3) sc_law.nd rfl (Or.inr rfl) (pe_cl G_law_some (hr.mono (by omega)) rfl (pa_cons (pv 1) (pa_cons (pv 2) (pa_cons pe_int pa_nil)))))
    (pss_cons (ps_for PassesOwn.never rfl (pi_range1 rfl B.b_range (pa_cons pe_int pa_nil)) (pg_name (i := 4) sc_law.nd rfl (Or.inr rfl)) (pss_cons (ps_set (i := 5) sc_law.nd rfl (Or.inl rfl) (pe_callB (r := rSum K) (cr_sum rfl) rfl B.b_sum boot_sum (pa_cons (pe_lc (own := [("word", 6)]) (g := gName 6) rfl sc_law.nd (pi_list (pe_cl G_law_texts (hr.mono (by omega)) rfl (pa_cons (pv 2) (pa_cons (pv 4) pa_nil)))) (blkOk_by (N := N_law) (sc := defScope s_law) (by decide +kernel)) (fun _ _ _ _ _ => pg_name (i := 6) sc_law.nd rfl (Or.inl rfl)) (fun _ _ _ _ _ => pts_one (pt_cmpR op_eq (pe_callB (r := rLenOf K) call_lenK rfl B.b_len boot_len (pa_cons (pv 6) pa_nil)) (pv 4) (nomark _))) (fun _ _ _ _ _ => (pe_callTy call_int1 rfl B.b_int boot_int (pa_cons (pe_cl G_law_is_right (hr.mono (by omega)) rfl (pa_cons (pv 3) (pa_cons (pv 6) pa_nil))) pa_nil)))) pa_nil)))
    (pss_one (ps_if (pt_not (pt_val (pe_cl G_law_equal (hr.mono (by omega)) rfl (pa_cons (pe_cl Gcount_words (hr.mono (by omega)) rfl (pa_cons (pv 3) (pa_cons (pv 4) pa_nil))) (pa_cons (pv 5) pa_nil))))) (pss_one (ps_ret pe_bl)) pss_nil))))
    (pss_cons (ps_set (i := 4) sc_law.nd rfl (Or.inr rfl) (pe_ix (r := rIxL K) ix_list (pe_lst (pa_cons pe_int (pa_cons pe_int (pa_cons pe_int (pa_cons pe_int pa_nil))))) (pe_cl G_law_next (hr.mono (by omega)) rfl (pa_cons (pv 1) (pa_cons pe_int pa_nil))) (fun _ _ => rfl)))
    (pss_one (ps_ret (pe_cl G_law_equal (hr.mono (by omega)) rfl (pa_cons (pe_cl Gcount_words (hr.mono (by omega)) rfl (pa_cons (pv 3) (pa_cons (pv 4) pa_nil))) (pa_cons (pe_cl G_law_counted (hr.mono (by omega)) rfl (pa_cons (pv 3) (pa_cons (pv 4) pa_nil))) pa_nil)))))))))), ?_⟩
  refine ⟨_, rfl, sa, ns, rfl, hsq, h63, fun a H1 s1 ha st1 => ?_⟩
  refine ⟨by show 3 ≤ sizeLine; decide, fun J hJ => ?_⟩
  have g1 := Go.new (o := .lst [V.str "ab", .str "ba", .str "ad"]) st1 hJ
  have hJa : J ≠ a := (st1.ne hJ).symm
  refine ⟨_, rfl, a, 3, rfl, g1.st, by decide, by decide, fun d H2 d0 d1 g2 => ?_⟩
  obtain ⟨z, hz, hzz, hz2, hz4, hzn⟩ : ∃ z, atI [V.str "ab", V.str "ba", V.str "ad"] d = some (.str z) ∧ Lets z ∧ z.length ≤ 2 ∧ LetsN z.cps.toList ∧ z.cps.toList.Nodup := by
    have : d = 0 ∨ d = 1 ∨ d = 2 := by omega
    rcases this with rfl | rfl | rfl
    · exact ⟨_, at_zero, lets_by (by decide +kernel), by decide, by decide +kernel, by decide +kernel⟩
    · exact ⟨_, at_one, lets_by (by decide +kernel), by decide, by decide +kernel, by decide +kernel⟩
    · exact ⟨_, at_of (j := 2) rfl rfl, lets_by (by decide +kernel), by decide, by decide +kernel, by decide +kernel⟩
  refine ⟨J, _, d, _, rfl, rfl, SqL.of (g2.keep _ _ upd_same hJa), hz, ?_⟩
  refine ⟨_, rfl, _, rfl, a, z, 7, rfl, g2.st, by decide, by decide, hzz, fun v H3 e g3 r1 E1 _ p7 hin => ?_⟩
  have hE := E1
  have st3 := g3.st
  have hzl : z.cps.toList.length = z.length := len_toList2 z
  generalize hls : z.cps.toList = ls at hzl hz4 hzn
  have hin' : ∀ c ∈ e.letters, c ∈ ls := fun c hc => by rw [← hls]; exact hin c hc
  have hl2 : ls.length ≤ 2 := by omega
  refine ⟨5, rfl, by decide, by decide, for_range (lo := 0) (n := 5) (fun i σ' H' => ∃ (o4 o5 : Option V), σ' = [some (.ref sa), some (.ref a), some (.str z), some v, o4, o5, none] ∧ Same H3 H') ?_ ?_ ?_⟩
  · exact ⟨none, none, rfl, Same.refl _⟩
  · rintro i σ' H4 hi ⟨o4, o5, rfl, s4⟩
    have ei : (0 : Int) + (i : Int) = ((i : Nat) : Int) := Int.zero_add _
    refine ⟨_, rfl, _, rfl, z, i, (by rw [ei]; rfl), hz2, by omega, fun L H5 _ s5 hL => ⟨L, rfl, ⟨_, SqL.of hL⟩, fun D hD => ?_⟩⟩
    rw [hls] at hL
    have hul := upW_len hl2 i (by omega)
    refine lc_list (K := K) (a := L) (xs := (upW ls i).map strV) (fun k H6 => Same H5 H6 ∧ H6 D = some (.lst (natsV ((((upW ls i).take k).filter fun u => decide (u.length = i)).map fun u => if mwB e u = true then 1 else 0)))) ⟨same_upd hD, upd_same⟩ (fun k H6 _ h => SqL.of (h.1 _ _ hL)) (fun k x H6 hx h => ?_) (fun H6 h => ?_)
    · obtain ⟨s6, hD6⟩ := h
      rw [List.getElem?_map] at hx
      obtain ⟨u, hu, rfl⟩ := Option.map_eq_some_iff.mp hx
      have hun := (mem_upW.mp (List.mem_of_getElem? hu)).1
      rw [take_snoc hu, List.filter_append, List.map_append, ← natsV_app]
      refine ⟨rfl, _, rfl, _, u.length, rfl, ⟨Nat.le_trans (m := 8) (by rw [strV_len]; omega) (by decide), (strV_len u).symm⟩, _, rfl, rfl, _, rfl, ite2 (fun c => ?_) (fun c => ?_)⟩
      · have c : ((u.length : Nat) : Int) = 0 + (i : Int) := V.int.inj (of_decide_eq_true c)
        have hui : u.length = i := by omega
        refine ⟨_, rfl, _, rfl, v, e, u, rfl, hE, r1.pers (Pers.same (s4.trans (s5.trans s6))), by omega, fun b H7 s7 hb => ?_⟩
        have hbb : b = mwB e u := by
          rw [Bool.eq_iff_iff, mwB_iff]
          exact hb
        refine .inr ⟨b, rfl, _, s7 _ _ hD6, ?_, fun b' o hb' => by rw [upd_ne (ne_of_none hb' hD)]; exact s7 _ _ (s6 _ _ hb'), ?_⟩
        · rw [natsV_len, List.length_map]
          exact Nat.lt_of_le_of_lt (Nat.le_trans (List.length_filter_le _ _) (by rw [List.length_take]; omega : _ ≤ 80)) (by decide)
        · rw [upd_same, List.filter_cons_of_pos (by rw [decide_eq_true_eq]; exact hui), hbb]
          have e2 : (if mwB e u = true then (1 : Int) else 0) = (((if mwB e u = true then 1 else 0 : Nat)) : Int) := by split <;> rfl
          rw [e2]
          rfl
      · have hui : ¬ u.length = i := fun h => c (decide_eq_true (congrArg V.int (by omega)))
        refine ⟨s6, ?_⟩
        rw [hD6, List.filter_cons_of_neg (by rw [decide_eq_true_eq]; exact hui)]
        show _ = some (HO.lst (_ ++ []))
        rw [List.append_nil]
    · obtain ⟨s6, hD6⟩ := h
      rw [List.length_map, List.take_length] at hD6
      refine ⟨D, ((((upW ls i).filter fun u => decide (u.length = i)).map fun u => if mwB e u = true then 1 else 0)).map fun (n : Nat) => (n : Int), rfl, SqL.of (by rw [ints_nats]; exact hD6), ?_⟩
      rw [isum_nat, ones_sum]
      have S6 := s4.trans (s5.trans s6)
      refine ⟨_, rfl, _, rfl, v, e, i, (by rw [ei]; rfl), hE, r1.pers (Pers.same S6), by omega, fun H7 ws s7 hws => ?_⟩
      rw [hws.len (due_of hzn hz4 hE.ok hin' i)]
      refine ⟨_, rfl, _, _, .int _, 0, rfl, by decide, .int _, .int _, fun H8 s8 => ⟨_, rfl, iteF ⟨_, _, rfl, S6.trans (s7.trans s8)⟩⟩⟩
  · rintro σ' H4 ⟨o4, o5, rfl, s4⟩
    have st4 := st3.same s4
    have r4 := r1.pers (Pers.same s4)
    refine ⟨by show 4 ≤ sizeLine; decide, fun J2 hJ2 => ?_⟩
    have g5 := Go.new (o := .lst [V.int 5, .int 9, .int 60, .int 30]) st4 hJ2
    have hJ2a : J2 ≠ a := (st4.ne hJ2).symm
    refine ⟨_, rfl, a, 4, rfl, g5.st, by decide, by decide, fun d2 H6 d20 d21 g6 => ?_⟩
    obtain ⟨l, hl, hl60⟩ : ∃ l : Nat, atI [V.int 5, V.int 9, V.int 60, V.int 30] d2 = some (.int l) ∧ l ≤ 60 := by
      have : d2 = 0 ∨ d2 = 1 ∨ d2 = 2 ∨ d2 = 3 := by omega
      rcases this with rfl | rfl | rfl | rfl
      · exact ⟨5, at_zero, by decide⟩
      · exact ⟨9, at_one, by decide⟩
      · exact ⟨60, at_of (j := 2) rfl rfl, by decide⟩
      · exact ⟨30, at_of (j := 3) rfl rfl, by decide⟩
    refine ⟨J2, _, d2, _, rfl, rfl, SqL.of (g6.keep _ _ upd_same hJ2a), hl, ?_⟩
    have r6 := r4.pers (g5.trans g6).pers
    refine ⟨_, rfl, _, rfl, v, e, l, rfl, hE, r6, hl60, fun H7 ws s7 hws => ?_⟩
    refine ⟨_, rfl, _, rfl, v, e, l, rfl, hE, r6.pers (Pers.same s7), hl60, fun H8 s8 => ?_⟩
    rw [hws.len (cntS_of e l), wdS_len]
    exact ⟨_, _, .int _, 0, rfl, by decide, .int _, .int _, fun H9 s9 => q H9⟩
end
end My
namespace My
open PySem PySem.Spec PyProof.Rows L2
section
variable {P : Program} {w : World} {K : PySem.W.Frag} {mg : Str → Option Value} {base : Heap} {a_BOUNDS a_LONG_BOUNDS : Addr} {tL tM : Tok}
theorem all_ends {f fj fo : Addr} {fd fdj fdo : FuncData} (B : Bt K mg a_BOUNDS a_LONG_BOUNDS tL tM) (Dd : Df K mg "_ends_of" s__ends_of ["part", "letters", "rows"] f fd) (Dj : Df K mg "_ends_of_join" s__ends_of_join ["parts", "letters", "rows"] fj fdj) (Do : Df K mg "_ends_of_or" s__ends_of_or ["parts", "letters", "rows"] fo fdo)
    (G1 : Cl P w K mg base 1 "_link" ["rows", "ends", "begins"] (spLink K)) (G2 : Cl P w K mg base 1 "_ends_of_leaf" ["part", "letters", "rows"] spLeaf) : ∀ n, FnOk P w K mg base CX0 (2 * n + 2) f fd ["part", "letters", "rows"] (spEnds n)
  | 0 => none_left fun vs H Q Ex h => by
    obtain ⟨H0, v, la, ra, e, cs, F, _, _, h, _⟩ := h
    exact absurd h (Nat.not_lt_zero _)
  | n + 1 => by
    have ih := Dd.cl (all_ends B Dd Dj Do G1 G2 n)
    exact ok_ends_step B Dd G1 G2 n (2 * n + 2) (by omega) ih (Dj.cl (ok_joinends B Dj G1 n (2 * n + 2) (by omega) ih)) (Do.cl (ok_orends B Do n (2 * n + 2) ih))
theorem all2_depA_step {f : Addr} {fd : FuncData} (B : Bt K mg a_BOUNDS a_LONG_BOUNDS tL tM) (Dd : Df K mg "_law_depth" s__law_depth ["expression"] f fd) : ∀ n, FnOk P w K mg base CX0 (n) f fd ["expression"] (spDepA n)
  | 0 => none_left fun vs H Q Ex h => by
    unfold spDepA at h
    simp only [Nat.not_lt_zero, false_and, and_false, exists_false] at h
  | n + 1 => ok_depA_step B Dd n (Dd.cl (all2_depA_step B Dd n))
theorem all2_prtA_step {f : Addr} {fd : FuncData} (B : Bt K mg a_BOUNDS a_LONG_BOUNDS tL tM) (Dd : Df K mg "_law_parts" s__law_parts ["expression"] f fd) : ∀ n, FnOk P w K mg base CX0 (n) f fd ["expression"] (spPrtA n)
  | 0 => none_left fun vs H Q Ex h => by
    unfold spPrtA at h
    simp only [Nat.not_lt_zero, false_and, and_false, exists_false] at h
  | n + 1 => ok_prtA_step B Dd n (Dd.cl (all2_prtA_step B Dd n))
theorem all2_cends_step {f : Addr} {fd : FuncData} (B : Bt K mg a_BOUNDS a_LONG_BOUNDS tL tM) (Dd : Df K mg "_law_ends" s__law_ends ["expression", "word", "start"] f fd) : ∀ n, FnOk P w K mg base CX0 (n) f fd ["expression", "word", "start"] (spCEnds n)
  | 0 => none_left fun vs H Q Ex h => by
    unfold spCEnds at h
    simp only [Nat.not_lt_zero, false_and, and_false, exists_false] at h
  | n + 1 => ok_cends_step B Dd n (Dd.cl (all2_cends_step B Dd n))
theorem all2_numbered_step {f : Addr} {fd : FuncData} (B : Bt K mg a_BOUNDS a_LONG_BOUNDS tL tM) (Dd : Df K mg "_law_numbered" s__law_numbered ["expression", "count"] f fd) (G_law_across : Cl P w K mg base 1 "_law_across" ["last", "first"] spAcrA) : ∀ n, FnOk P w K mg base CX0 (n + 1) f fd ["expression", "count"] (spNumdA n)
  | 0 => none_left fun vs H Q Ex h => by
    unfold spNumdA at h
    simp only [Nat.not_lt_zero, false_and, and_false, exists_false] at h
  | n + 1 => ok_numbered_step B Dd G_law_across n (Dd.cl (all2_numbered_step B Dd G_law_across n))
theorem all2_equal_step {f : Addr} {fd : FuncData} (B : Bt K mg a_BOUNDS a_LONG_BOUNDS tL tM) (Dd : Df K mg "_law_equal" s__law_equal ["actual", "due"] f fd) (G_law_is_integer : Cl P w K mg base 1 "_law_is_integer" ["actual"] spIsInt) : ∀ n, FnOk P w K mg base CX0 (n + 1) f fd ["actual", "due"] (spEqual n)
  | 0 => none_left fun vs H Q Ex h => by
    unfold spEqual at h
    simp only [Nat.not_lt_zero, false_and, and_false, exists_false] at h
  | n + 1 => ok_equal_step B Dd G_law_is_integer n (Dd.cl (all2_equal_step B Dd G_law_is_integer n))
end
/-! ### what the top has left -/
set_option maxHeartbeats 4000000 in
theorem all_mk {l : PySem.W.OpenLaw} {w : World} {K : PySem.W.Frag} {h : Heap} {mg : Str → Option Value} {fa : Addr} (X : K.In h) (G : h.Ns mainGlobals mg) (hfa : mg "law" = some (.ref fa))
    {od1 an1 od2 an2 od3 an3 od4 an4 od5 an5 od6 an6 od7 an7 od8 an8 od9 an9 od10 an10 od11 an11 od12 an12 od13 an13 od14 an14 od15 an15 od16 an16 od17 an17 od18 an18 od19 an19 od20 an20 od21 an21 od22 an22 od23 an23 od24 an24 od25 an25 od26 an26 od27 an27 od28 an28 od29 an29 od30 an30 od31 an31 od32 an32 od33 an33 od34 an34 od35 an35 od36 an36 od37 an37 od38 an38 od39 an39 od40 an40 od41 an41 od42 an42 od43 an43 : Option Addr} {sl1 sl2 sl3 sl4 sl5 sl6 sl7 sl8 sl9 sl10 sl11 sl12 sl13 sl14 sl15 sl16 sl17 sl18 sl19 sl20 sl21 sl22 sl23 sl24 sl25 sl26 sl27 sl28 sl29 sl30 sl31 sl32 sl33 sl34 sl35 sl36 sl37 sl38 sl39 sl40 sl41 sl42 sl43 : Array (Option Value)} {oc1 kV1 dc1 pm1 cd1 ct1 oc2 kV2 dc2 pm2 cd2 ct2 oc3 kV3 dc3 pm3 cd3 ct3 oc4 kV4 dc4 pm4 cd4 ct4 oc5 kV5 dc5 pm5 cd5 ct5 oc6 kV6 dc6 pm6 cd6 ct6 oc7 kV7 dc7 pm7 cd7 ct7 oc8 kV8 dc8 pm8 cd8 ct8 oc9 kV9 dc9 pm9 cd9 ct9 oc10 kV10 dc10 pm10 cd10 ct10 oc11 kV11 dc11 pm11 cd11 ct11 oc12 kV12 dc12 pm12 cd12 ct12 oc13 kV13 dc13 pm13 cd13 ct13 oc14 kV14 dc14 pm14 cd14 ct14 oc15 kV15 dc15 pm15 cd15 ct15 oc16 kV16 dc16 pm16 cd16 ct16 oc17 kV17 dc17 pm17 cd17 ct17 oc18 kV18 dc18 pm18 cd18 ct18 oc19 kV19 dc19 pm19 cd19 ct19 oc20 kV20 dc20 pm20 cd20 ct20 oc21 kV21 dc21 pm21 cd21 ct21 oc22 kV22 dc22 pm22 cd22 ct22 oc23 kV23 dc23 pm23 cd23 ct23 oc24 kV24 dc24 pm24 cd24 ct24 oc25 kV25 dc25 pm25 cd25 ct25 oc26 kV26 dc26 pm26 cd26 ct26 oc27 kV27 dc27 pm27 cd27 ct27 oc28 kV28 dc28 pm28 cd28 ct28 oc29 kV29 dc29 pm29 cd29 ct29 oc30 kV30 dc30 pm30 cd30 ct30 oc31 kV31 dc31 pm31 cd31 ct31 oc32 kV32 dc32 pm32 cd32 ct32 oc33 kV33 dc33 pm33 cd33 ct33 oc34 kV34 dc34 pm34 cd34 ct34 oc35 kV35 dc35 pm35 cd35 ct35 oc36 kV36 dc36 pm36 cd36 ct36 oc37 kV37 dc37 pm37 cd37 ct37 oc38 kV38 dc38 pm38 cd38 ct38 oc39 kV39 dc39 pm39 cd39 ct39 oc40 kV40 dc40 pm40 cd40 ct40 oc41 kV41 dc41 pm41 cd41 ct41 oc42 kV42 dc42 pm42 cd42 ct42 oc43 kV43 dc43 pm43 cd43 ct43 : Value} {f1 f2 f3 f4 f5 f6 f7 f8 f9 f10 f11 f12 f13 f14 f15 f16 f17 f18 f19 f20 f21 f22 f23 f24 f25 f26 f27 f28 f29 f30 f31 f32 f33 f34 f35 f36 f37 f38 f39 f40 f41 f42 f43 : Addr}
    (a1 : PySem.W.nsIn K mainGlobals "_wall" = some (some (.ref f1))) (l1 : K.lookup f1 = some ⟨oc1, od1, .func (PySem.W.fnOf "_wall" "_wall" (defArgs s__wall) (defBody s__wall) (defScope s__wall) .none kV1 dc1 pm1 an1 cd1 ct1), sl1⟩) (c1 : PySem.W.codeIn K cd1 "_wall" = true) (k1 : PySem.W.keepIn K (.ref f1) = true)
    (a2 : PySem.W.nsIn K mainGlobals "steps_of" = some (some (.ref f2))) (l2 : K.lookup f2 = some ⟨oc2, od2, .func (PySem.W.fnOf "steps_of" "steps_of" (defArgs s_steps_of) (defBody s_steps_of) (defScope s_steps_of) .none kV2 dc2 pm2 an2 cd2 ct2), sl2⟩) (c2 : PySem.W.codeIn K cd2 "steps_of" = true) (k2 : PySem.W.keepIn K (.ref f2) = true)
    (a3 : PySem.W.nsIn K mainGlobals "_ends_of" = some (some (.ref f3))) (l3 : K.lookup f3 = some ⟨oc3, od3, .func (PySem.W.fnOf "_ends_of" "_ends_of" (defArgs s__ends_of) (defBody s__ends_of) (defScope s__ends_of) .none kV3 dc3 pm3 an3 cd3 ct3), sl3⟩) (c3 : PySem.W.codeIn K cd3 "_ends_of" = true) (k3 : PySem.W.keepIn K (.ref f3) = true)
    (a4 : PySem.W.nsIn K mainGlobals "_ends_of_leaf" = some (some (.ref f4))) (l4 : K.lookup f4 = some ⟨oc4, od4, .func (PySem.W.fnOf "_ends_of_leaf" "_ends_of_leaf" (defArgs s__ends_of_leaf) (defBody s__ends_of_leaf) (defScope s__ends_of_leaf) .none kV4 dc4 pm4 an4 cd4 ct4), sl4⟩) (c4 : PySem.W.codeIn K cd4 "_ends_of_leaf" = true) (k4 : PySem.W.keepIn K (.ref f4) = true)
    (a5 : PySem.W.nsIn K mainGlobals "_ends_of_join" = some (some (.ref f5))) (l5 : K.lookup f5 = some ⟨oc5, od5, .func (PySem.W.fnOf "_ends_of_join" "_ends_of_join" (defArgs s__ends_of_join) (defBody s__ends_of_join) (defScope s__ends_of_join) .none kV5 dc5 pm5 an5 cd5 ct5), sl5⟩) (c5 : PySem.W.codeIn K cd5 "_ends_of_join" = true) (k5 : PySem.W.keepIn K (.ref f5) = true)
    (a6 : PySem.W.nsIn K mainGlobals "_ends_of_or" = some (some (.ref f6))) (l6 : K.lookup f6 = some ⟨oc6, od6, .func (PySem.W.fnOf "_ends_of_or" "_ends_of_or" (defArgs s__ends_of_or) (defBody s__ends_of_or) (defScope s__ends_of_or) .none kV6 dc6 pm6 an6 cd6 ct6), sl6⟩) (c6 : PySem.W.codeIn K cd6 "_ends_of_or" = true) (k6 : PySem.W.keepIn K (.ref f6) = true)
    (a7 : PySem.W.nsIn K mainGlobals "_link" = some (some (.ref f7))) (l7 : K.lookup f7 = some ⟨oc7, od7, .func (PySem.W.fnOf "_link" "_link" (defArgs s__link) (defBody s__link) (defScope s__link) .none kV7 dc7 pm7 an7 cd7 ct7), sl7⟩) (c7 : PySem.W.codeIn K cd7 "_link" = true) (k7 : PySem.W.keepIn K (.ref f7) = true)
    (a8 : PySem.W.nsIn K mainGlobals "is_number" = some (some (.ref f8))) (l8 : K.lookup f8 = some ⟨oc8, od8, .func (PySem.W.fnOf "is_number" "is_number" (defArgs s_is_number) (defBody s_is_number) (defScope s_is_number) .none kV8 dc8 pm8 an8 cd8 ct8), sl8⟩) (c8 : PySem.W.codeIn K cd8 "is_number" = true) (k8 : PySem.W.keepIn K (.ref f8) = true)
    (a9 : PySem.W.nsIn K mainGlobals "by_letter" = some (some (.ref f9))) (l9 : K.lookup f9 = some ⟨oc9, od9, .func (PySem.W.fnOf "by_letter" "by_letter" (defArgs s_by_letter) (defBody s_by_letter) (defScope s_by_letter) .none kV9 dc9 pm9 an9 cd9 ct9), sl9⟩) (c9 : PySem.W.codeIn K cd9 "by_letter" = true) (k9 : PySem.W.keepIn K (.ref f9) = true)
    (a10 : PySem.W.nsIn K mainGlobals "places_behind" = some (some (.ref f10))) (l10 : K.lookup f10 = some ⟨oc10, od10, .func (PySem.W.fnOf "places_behind" "places_behind" (defArgs s_places_behind) (defBody s_places_behind) (defScope s_places_behind) .none kV10 dc10 pm10 an10 cd10 ct10), sl10⟩) (c10 : PySem.W.codeIn K cd10 "places_behind" = true) (k10 : PySem.W.keepIn K (.ref f10) = true)
    (a11 : PySem.W.nsIn K mainGlobals "is_expression" = some (some (.ref f11))) (l11 : K.lookup f11 = some ⟨oc11, od11, .func (PySem.W.fnOf "is_expression" "is_expression" (defArgs s_is_expression) (defBody s_is_expression) (defScope s_is_expression) .none kV11 dc11 pm11 an11 cd11 ct11), sl11⟩) (c11 : PySem.W.codeIn K cd11 "is_expression" = true) (k11 : PySem.W.keepIn K (.ref f11) = true)
    (a12 : PySem.W.nsIn K mainGlobals "is_letter" = some (some (.ref f12))) (l12 : K.lookup f12 = some ⟨oc12, od12, .func (PySem.W.fnOf "is_letter" "is_letter" (defArgs s_is_letter) (defBody s_is_letter) (defScope s_is_letter) .none kV12 dc12 pm12 an12 cd12 ct12), sl12⟩) (c12 : PySem.W.codeIn K cd12 "is_letter" = true) (k12 : PySem.W.keepIn K (.ref f12) = true)
    {TD13 : Addr} {od213 : Option Addr} {nD13 : Nat} {slD13 : Array (Option Value)} {tD13_0 : Tok} (m13 : K.lookup TD13 = some ⟨.type "tuple", od213, .seq #[.str "expression" tD13_0] nD13, slD13⟩)
    (a13 : PySem.W.nsIn K mainGlobals "check_expression" = some (some (.ref f13))) (l13 : K.lookup f13 = some ⟨oc13, od13, .func (PySem.W.fnOf "check_expression" "check_expression" (defArgs s_check_expression) (defBody s_check_expression) (defScope s_check_expression) (.ref TD13) kV13 dc13 pm13 an13 cd13 ct13), sl13⟩) (c13 : PySem.W.codeIn K cd13 "check_expression" = true) (k13 : PySem.W.keepIn K (.ref f13) = true)
    (a14 : PySem.W.nsIn K mainGlobals "sizes_within" = some (some (.ref f14))) (l14 : K.lookup f14 = some ⟨oc14, od14, .func (PySem.W.fnOf "sizes_within" "sizes_within" (defArgs s_sizes_within) (defBody s_sizes_within) (defScope s_sizes_within) .none kV14 dc14 pm14 an14 cd14 ct14), sl14⟩) (c14 : PySem.W.codeIn K cd14 "sizes_within" = true) (k14 : PySem.W.keepIn K (.ref f14) = true)
    (a15 : PySem.W.nsIn K mainGlobals "_parts_of" = some (some (.ref f15))) (l15 : K.lookup f15 = some ⟨oc15, od15, .func (PySem.W.fnOf "_parts_of" "_parts_of" (defArgs s__parts_of) (defBody s__parts_of) (defScope s__parts_of) .none kV15 dc15 pm15 an15 cd15 ct15), sl15⟩) (c15 : PySem.W.codeIn K cd15 "_parts_of" = true) (k15 : PySem.W.keepIn K (.ref f15) = true)
    (a16 : PySem.W.nsIn K mainGlobals "_is_row" = some (some (.ref f16))) (l16 : K.lookup f16 = some ⟨oc16, od16, .func (PySem.W.fnOf "_is_row" "_is_row" (defArgs s__is_row) (defBody s__is_row) (defScope s__is_row) .none kV16 dc16 pm16 an16 cd16 ct16), sl16⟩) (c16 : PySem.W.codeIn K cd16 "_is_row" = true) (k16 : PySem.W.keepIn K (.ref f16) = true)
    (a17 : PySem.W.nsIn K mainGlobals "_begins_with" = some (some (.ref f17))) (l17 : K.lookup f17 = some ⟨oc17, od17, .func (PySem.W.fnOf "_begins_with" "_begins_with" (defArgs s__begins_with) (defBody s__begins_with) (defScope s__begins_with) .none kV17 dc17 pm17 an17 cd17 ct17), sl17⟩) (c17 : PySem.W.codeIn K cd17 "_begins_with" = true) (k17 : PySem.W.keepIn K (.ref f17) = true)
    (a18 : PySem.W.nsIn K mainGlobals "machine_of" = some (some (.ref f18))) (l18 : K.lookup f18 = some ⟨oc18, od18, .func (PySem.W.fnOf "machine_of" "machine_of" (defArgs s_machine_of) (defBody s_machine_of) (defScope s_machine_of) .none kV18 dc18 pm18 an18 cd18 ct18), sl18⟩) (c18 : PySem.W.codeIn K cd18 "machine_of" = true) (k18 : PySem.W.keepIn K (.ref f18) = true)
    (a19 : PySem.W.nsIn K mainGlobals "has_last" = some (some (.ref f19))) (l19 : K.lookup f19 = some ⟨oc19, od19, .func (PySem.W.fnOf "has_last" "has_last" (defArgs s_has_last) (defBody s_has_last) (defScope s_has_last) .none kV19 dc19 pm19 an19 cd19 ct19), sl19⟩) (c19 : PySem.W.codeIn K cd19 "has_last" = true) (k19 : PySem.W.keepIn K (.ref f19) = true)
    (a20 : PySem.W.nsIn K mainGlobals "sets_of" = some (some (.ref f20))) (l20 : K.lookup f20 = some ⟨oc20, od20, .func (PySem.W.fnOf "sets_of" "sets_of" (defArgs s_sets_of) (defBody s_sets_of) (defScope s_sets_of) .none kV20 dc20 pm20 an20 cd20 ct20), sl20⟩) (c20 : PySem.W.codeIn K cd20 "sets_of" = true) (k20 : PySem.W.keepIn K (.ref f20) = true)
    (a21 : PySem.W.nsIn K mainGlobals "_classes" = some (some (.ref f21))) (l21 : K.lookup f21 = some ⟨oc21, od21, .func (PySem.W.fnOf "_classes" "_classes" (defArgs s__classes) (defBody s__classes) (defScope s__classes) .none kV21 dc21 pm21 an21 cd21 ct21), sl21⟩) (c21 : PySem.W.codeIn K cd21 "_classes" = true) (k21 : PySem.W.keepIn K (.ref f21) = true)
    (a22 : PySem.W.nsIn K mainGlobals "_numbered" = some (some (.ref f22))) (l22 : K.lookup f22 = some ⟨oc22, od22, .func (PySem.W.fnOf "_numbered" "_numbered" (defArgs s__numbered) (defBody s__numbered) (defScope s__numbered) .none kV22 dc22 pm22 an22 cd22 ct22), sl22⟩) (c22 : PySem.W.codeIn K cd22 "_numbered" = true) (k22 : PySem.W.keepIn K (.ref f22) = true)
    (a23 : PySem.W.nsIn K mainGlobals "count_words" = some (some (.ref f23))) (l23 : K.lookup f23 = some ⟨oc23, od23, .func (PySem.W.fnOf "count_words" "count_words" (defArgs s_count_words) (defBody s_count_words) (defScope s_count_words) .none kV23 dc23 pm23 an23 cd23 ct23), sl23⟩) (c23 : PySem.W.codeIn K cd23 "count_words" = true) (k23 : PySem.W.keepIn K (.ref f23) = true)
    (a24 : PySem.W.nsIn K mainGlobals "counts_of" = some (some (.ref f24))) (l24 : K.lookup f24 = some ⟨oc24, od24, .func (PySem.W.fnOf "counts_of" "counts_of" (defArgs s_counts_of) (defBody s_counts_of) (defScope s_counts_of) .none kV24 dc24 pm24 an24 cd24 ct24), sl24⟩) (c24 : PySem.W.codeIn K cd24 "counts_of" = true) (k24 : PySem.W.keepIn K (.ref f24) = true)
    (a25 : PySem.W.nsIn K mainGlobals "_law_stream" = some (some (.ref f25))) (l25 : K.lookup f25 = some ⟨oc25, od25, .func (PySem.W.fnOf "_law_stream" "_law_stream" (defArgs s__law_stream) (defBody s__law_stream) (defScope s__law_stream) .none kV25 dc25 pm25 an25 cd25 ct25), sl25⟩) (c25 : PySem.W.codeIn K cd25 "_law_stream" = true) (k25 : PySem.W.keepIn K (.ref f25) = true)
    (a26 : PySem.W.nsIn K mainGlobals "_law_next" = some (some (.ref f26))) (l26 : K.lookup f26 = some ⟨oc26, od26, .func (PySem.W.fnOf "_law_next" "_law_next" (defArgs s__law_next) (defBody s__law_next) (defScope s__law_next) .none kV26 dc26 pm26 an26 cd26 ct26), sl26⟩) (c26 : PySem.W.codeIn K cd26 "_law_next" = true) (k26 : PySem.W.keepIn K (.ref f26) = true)
    (a27 : PySem.W.nsIn K mainGlobals "_law_is_integer" = some (some (.ref f27))) (l27 : K.lookup f27 = some ⟨oc27, od27, .func (PySem.W.fnOf "_law_is_integer" "_law_is_integer" (defArgs s__law_is_integer) (defBody s__law_is_integer) (defScope s__law_is_integer) .none kV27 dc27 pm27 an27 cd27 ct27), sl27⟩) (c27 : PySem.W.codeIn K cd27 "_law_is_integer" = true) (k27 : PySem.W.keepIn K (.ref f27) = true)
    (a28 : PySem.W.nsIn K mainGlobals "_law_equal" = some (some (.ref f28))) (l28 : K.lookup f28 = some ⟨oc28, od28, .func (PySem.W.fnOf "_law_equal" "_law_equal" (defArgs s__law_equal) (defBody s__law_equal) (defScope s__law_equal) .none kV28 dc28 pm28 an28 cd28 ct28), sl28⟩) (c28 : PySem.W.codeIn K cd28 "_law_equal" = true) (k28 : PySem.W.keepIn K (.ref f28) = true)
    (a29 : PySem.W.nsIn K mainGlobals "_law_put" = some (some (.ref f29))) (l29 : K.lookup f29 = some ⟨oc29, od29, .func (PySem.W.fnOf "_law_put" "_law_put" (defArgs s__law_put) (defBody s__law_put) (defScope s__law_put) .none kV29 dc29 pm29 an29 cd29 ct29), sl29⟩) (c29 : PySem.W.codeIn K cd29 "_law_put" = true) (k29 : PySem.W.keepIn K (.ref f29) = true)
    (a30 : PySem.W.nsIn K mainGlobals "_law_expression" = some (some (.ref f30))) (l30 : K.lookup f30 = some ⟨oc30, od30, .func (PySem.W.fnOf "_law_expression" "_law_expression" (defArgs s__law_expression) (defBody s__law_expression) (defScope s__law_expression) .none kV30 dc30 pm30 an30 cd30 ct30), sl30⟩) (c30 : PySem.W.codeIn K cd30 "_law_expression" = true) (k30 : PySem.W.keepIn K (.ref f30) = true)
    (a31 : PySem.W.nsIn K mainGlobals "_law_depth" = some (some (.ref f31))) (l31 : K.lookup f31 = some ⟨oc31, od31, .func (PySem.W.fnOf "_law_depth" "_law_depth" (defArgs s__law_depth) (defBody s__law_depth) (defScope s__law_depth) .none kV31 dc31 pm31 an31 cd31 ct31), sl31⟩) (c31 : PySem.W.codeIn K cd31 "_law_depth" = true) (k31 : PySem.W.keepIn K (.ref f31) = true)
    (a32 : PySem.W.nsIn K mainGlobals "_law_parts" = some (some (.ref f32))) (l32 : K.lookup f32 = some ⟨oc32, od32, .func (PySem.W.fnOf "_law_parts" "_law_parts" (defArgs s__law_parts) (defBody s__law_parts) (defScope s__law_parts) .none kV32 dc32 pm32 an32 cd32 ct32), sl32⟩) (c32 : PySem.W.codeIn K cd32 "_law_parts" = true) (k32 : PySem.W.keepIn K (.ref f32) = true)
    (a33 : PySem.W.nsIn K mainGlobals "_law_some" = some (some (.ref f33))) (l33 : K.lookup f33 = some ⟨oc33, od33, .func (PySem.W.fnOf "_law_some" "_law_some" (defArgs s__law_some) (defBody s__law_some) (defScope s__law_some) .none kV33 dc33 pm33 an33 cd33 ct33), sl33⟩) (c33 : PySem.W.codeIn K cd33 "_law_some" = true) (k33 : PySem.W.keepIn K (.ref f33) = true)
    (a34 : PySem.W.nsIn K mainGlobals "_law_ends" = some (some (.ref f34))) (l34 : K.lookup f34 = some ⟨oc34, od34, .func (PySem.W.fnOf "_law_ends" "_law_ends" (defArgs s__law_ends) (defBody s__law_ends) (defScope s__law_ends) .none kV34 dc34 pm34 an34 cd34 ct34), sl34⟩) (c34 : PySem.W.codeIn K cd34 "_law_ends" = true) (k34 : PySem.W.keepIn K (.ref f34) = true)
    (a35 : PySem.W.nsIn K mainGlobals "_law_is_right" = some (some (.ref f35))) (l35 : K.lookup f35 = some ⟨oc35, od35, .func (PySem.W.fnOf "_law_is_right" "_law_is_right" (defArgs s__law_is_right) (defBody s__law_is_right) (defScope s__law_is_right) .none kV35 dc35 pm35 an35 cd35 ct35), sl35⟩) (c35 : PySem.W.codeIn K cd35 "_law_is_right" = true) (k35 : PySem.W.keepIn K (.ref f35) = true)
    (a36 : PySem.W.nsIn K mainGlobals "_law_texts" = some (some (.ref f36))) (l36 : K.lookup f36 = some ⟨oc36, od36, .func (PySem.W.fnOf "_law_texts" "_law_texts" (defArgs s__law_texts) (defBody s__law_texts) (defScope s__law_texts) .none kV36 dc36 pm36 an36 cd36 ct36), sl36⟩) (c36 : PySem.W.codeIn K cd36 "_law_texts" = true) (k36 : PySem.W.keepIn K (.ref f36) = true)
    (a37 : PySem.W.nsIn K mainGlobals "_law_numbered" = some (some (.ref f37))) (l37 : K.lookup f37 = some ⟨oc37, od37, .func (PySem.W.fnOf "_law_numbered" "_law_numbered" (defArgs s__law_numbered) (defBody s__law_numbered) (defScope s__law_numbered) .none kV37 dc37 pm37 an37 cd37 ct37), sl37⟩) (c37 : PySem.W.codeIn K cd37 "_law_numbered" = true) (k37 : PySem.W.keepIn K (.ref f37) = true)
    (a38 : PySem.W.nsIn K mainGlobals "_law_across" = some (some (.ref f38))) (l38 : K.lookup f38 = some ⟨oc38, od38, .func (PySem.W.fnOf "_law_across" "_law_across" (defArgs s__law_across) (defBody s__law_across) (defScope s__law_across) .none kV38 dc38 pm38 an38 cd38 ct38), sl38⟩) (c38 : PySem.W.codeIn K cd38 "_law_across" = true) (k38 : PySem.W.keepIn K (.ref f38) = true)
    (a39 : PySem.W.nsIn K mainGlobals "_law_tables" = some (some (.ref f39))) (l39 : K.lookup f39 = some ⟨oc39, od39, .func (PySem.W.fnOf "_law_tables" "_law_tables" (defArgs s__law_tables) (defBody s__law_tables) (defScope s__law_tables) .none kV39 dc39 pm39 an39 cd39 ct39), sl39⟩) (c39 : PySem.W.codeIn K cd39 "_law_tables" = true) (k39 : PySem.W.keepIn K (.ref f39) = true)
    (a40 : PySem.W.nsIn K mainGlobals "_law_behind" = some (some (.ref f40))) (l40 : K.lookup f40 = some ⟨oc40, od40, .func (PySem.W.fnOf "_law_behind" "_law_behind" (defArgs s__law_behind) (defBody s__law_behind) (defScope s__law_behind) .none kV40 dc40 pm40 an40 cd40 ct40), sl40⟩) (c40 : PySem.W.codeIn K cd40 "_law_behind" = true) (k40 : PySem.W.keepIn K (.ref f40) = true)
    (a41 : PySem.W.nsIn K mainGlobals "_law_ending" = some (some (.ref f41))) (l41 : K.lookup f41 = some ⟨oc41, od41, .func (PySem.W.fnOf "_law_ending" "_law_ending" (defArgs s__law_ending) (defBody s__law_ending) (defScope s__law_ending) .none kV41 dc41 pm41 an41 cd41 ct41), sl41⟩) (c41 : PySem.W.codeIn K cd41 "_law_ending" = true) (k41 : PySem.W.keepIn K (.ref f41) = true)
    (a42 : PySem.W.nsIn K mainGlobals "_law_counted" = some (some (.ref f42))) (l42 : K.lookup f42 = some ⟨oc42, od42, .func (PySem.W.fnOf "_law_counted" "_law_counted" (defArgs s__law_counted) (defBody s__law_counted) (defScope s__law_counted) .none kV42 dc42 pm42 an42 cd42 ct42), sl42⟩) (c42 : PySem.W.codeIn K cd42 "_law_counted" = true) (k42 : PySem.W.keepIn K (.ref f42) = true)
    (a43 : PySem.W.nsIn K mainGlobals "law" = some (some (.ref f43))) (l43 : K.lookup f43 = some ⟨oc43, od43, .func (PySem.W.fnOf "law" "law" (defArgs s_law) (defBody s_law) (defScope s_law) .none kV43 dc43 pm43 an43 cd43 ct43), sl43⟩) (c43 : PySem.W.codeIn K cd43 "law" = true) (k43 : PySem.W.keepIn K (.ref f43) = true)
    (z_ValueError : PySem.W.nsIn K mainGlobals "ValueError" = some none) (z_abs : PySem.W.nsIn K mainGlobals "abs" = some none) (z_all : PySem.W.nsIn K mainGlobals "all" = some none) (z_any : PySem.W.nsIn K mainGlobals "any" = some none) (z_bool : PySem.W.nsIn K mainGlobals "bool" = some none) (z_enumerate : PySem.W.nsIn K mainGlobals "enumerate" = some none) (z_int : PySem.W.nsIn K mainGlobals "int" = some none) (z_isinstance : PySem.W.nsIn K mainGlobals "isinstance" = some none) (z_len : PySem.W.nsIn K mainGlobals "len" = some none) (z_list : PySem.W.nsIn K mainGlobals "list" = some none) (z_max : PySem.W.nsIn K mainGlobals "max" = some none) (z_range : PySem.W.nsIn K mainGlobals "range" = some none) (z_set : PySem.W.nsIn K mainGlobals "set" = some none) (z_sorted : PySem.W.nsIn K mainGlobals "sorted" = some none) (z_str : PySem.W.nsIn K mainGlobals "str" = some none) (z_sum : PySem.W.nsIn K mainGlobals "sum" = some none) (z_super : PySem.W.nsIn K mainGlobals "super" = some none) (z_tuple : PySem.W.nsIn K mainGlobals "tuple" = some none)
    {tBOUNDS0 tBOUNDS1 tBOUNDS2 : Tok} {aBOUNDS : Addr} {dBOUNDS : Option Addr} {nBOUNDS : Nat} {sBOUNDS : Array (Option Value)}
    {tL : Tok}
    {tMOST_COUNTED : Tok}
    {tNO_STATE : Tok}
    (gBOUNDS : PySem.W.nsIn K mainGlobals "BOUNDS" = some (some (.ref aBOUNDS)))
    (lBOUNDS : K.lookup aBOUNDS = some ⟨.type "tuple", dBOUNDS, .seq #[.int 8 tBOUNDS0, .int 6 tBOUNDS1, .int 24 tBOUNDS2] nBOUNDS, sBOUNDS⟩)
    (gLETTERS : PySem.W.nsIn K mainGlobals "LETTERS" = some (some (.str "abcd" tL)))
    (gMOST_COUNTED : PySem.W.nsIn K mainGlobals "MOST_COUNTED" = some (some (.int 60 tMOST_COUNTED)))
    (gNO_STATE : PySem.W.nsIn K mainGlobals "NO_STATE" = some (some (.int (-1) tNO_STATE)))
    {CS fI : Addr} {odI anI : Option Addr} {slI : Array (Option Value)} {ocI kVI dcI pmI cdI ctI : Value}
    (aS : PySem.W.nsIn K mainGlobals "Steps" = some (some (.ref CS))) (aI : PySem.W.findIn K (.ref CS) "__init__" = some (some (.ref fI))) (iI : PySem.W.isFn K (.ref fI) = true)
    (lI : K.lookup fI = some ⟨ocI, odI, .func (PySem.W.fnOf "__init__" "Steps.__init__" (defArgs s_Steps___init__) (defBody s_Steps___init__) (defScope s_Steps___init__) .none kVI dcI pmI anI cdI ctI), slI⟩) (cI : PySem.W.codeIn K cdI "Steps.__init__" = true) (kI : PySem.W.keepIn K (.ref fI) = true)
    (pgS : PySem.W.plainGet K CS Str.empty = true) (hdS : PySem.W.hasDictIn K CS = true) (poS : PySem.W.plainOver K CS = true) (saS : PySem.W.findIn K (.ref CS) "__setattr__" = some (some (.builtin "object.__setattr__"))) (mkS : PySem.W.makesIn K CS = true) (kcS : PySem.W.keepIn K (.ref CS) = true)
    (n1 : PySem.W.findIn K (.ref CS) "letters" = some none) (n2 : PySem.W.findIn K (.ref CS) "empty" = some none) (n3 : PySem.W.findIn K (.ref CS) "first" = some none) (n4 : PySem.W.findIn K (.ref CS) "last" = some none) (n5 : PySem.W.findIn K (.ref CS) "following" = some none)
    {CM : Addr}
    {fM_init : Addr} {odM_init anM_init : Option Addr} {slM_init : Array (Option Value)} {ocM_init kVM_init dcM_init pmM_init cdM_init ctM_init : Value}
    (aM : PySem.W.nsIn K mainGlobals "Machine" = some (some (.ref CM)))
    (atM_init : PySem.W.findIn K (.ref CM) "__init__" = some (some (.ref fM_init))) (fnM_init : PySem.W.isFn K (.ref fM_init) = true) (lM_init : K.lookup fM_init = some ⟨ocM_init, odM_init, .func (PySem.W.fnOf "__init__" "Machine.__init__" (defArgs s_Machine___init__) (defBody s_Machine___init__) (defScope s_Machine___init__) .none kVM_init dcM_init pmM_init anM_init cdM_init ctM_init), slM_init⟩) (cM_init : PySem.W.codeIn K cdM_init "Machine.__init__" = true) (kM_init : PySem.W.keepIn K (.ref fM_init) = true)
    (pgM : PySem.W.plainGet K CM Str.empty = true) (hdM : PySem.W.hasDictIn K CM = true) (poM : PySem.W.plainOver K CM = true) (saM : PySem.W.findIn K (.ref CM) "__setattr__" = some (some (.builtin "object.__setattr__"))) (mkM : PySem.W.makesIn K CM = true) (kcM : PySem.W.keepIn K (.ref CM) = true)
    (naM0 : PySem.W.findIn K (.ref CM) "accepting" = some none) (naM1 : PySem.W.findIn K (.ref CM) "rows" = some none)
    :
    ∃ fd : FuncData, (∀ (s : Shared) (v : Value), BindsTo s fd ⟨[v], []⟩ [("script", v)]) ∧ ∀ base : Heap, K.In base → base.Ns mainGlobals mg → FnOk l.prog w K mg base CX0 91 fa fd ["script"] (spLaw K) := by
  have F1 := fun_mk (st := s__wall) l1 c1 k1
  have b1 := F1.binds (ps := ["k"]) fun _ _ _ _ _ _ us hl => match us, hl with | [_], _ => rfl
  have D__wall : Df K mg "_wall" s__wall ["k"] f1 _ := ⟨F1, b1, PySem.W.mg_of X G a1⟩
  have F2 := fun_mk (st := s_steps_of) l2 c2 k2
  have b2 := F2.binds (ps := ["expression"]) fun _ _ _ _ _ _ us hl => match us, hl with | [_], _ => rfl
  have D_steps_of : Df K mg "steps_of" s_steps_of ["expression"] f2 _ := ⟨F2, b2, PySem.W.mg_of X G a2⟩
  have F3 := fun_mk (st := s__ends_of) l3 c3 k3
  have b3 := F3.binds (ps := ["part", "letters", "rows"]) fun _ _ _ _ _ _ us hl => match us, hl with | [_, _, _], _ => rfl
  have D__ends_of : Df K mg "_ends_of" s__ends_of ["part", "letters", "rows"] f3 _ := ⟨F3, b3, PySem.W.mg_of X G a3⟩
  have F4 := fun_mk (st := s__ends_of_leaf) l4 c4 k4
  have b4 := F4.binds (ps := ["part", "letters", "rows"]) fun _ _ _ _ _ _ us hl => match us, hl with | [_, _, _], _ => rfl
  have D__ends_of_leaf : Df K mg "_ends_of_leaf" s__ends_of_leaf ["part", "letters", "rows"] f4 _ := ⟨F4, b4, PySem.W.mg_of X G a4⟩
  have F5 := fun_mk (st := s__ends_of_join) l5 c5 k5
  have b5 := F5.binds (ps := ["parts", "letters", "rows"]) fun _ _ _ _ _ _ us hl => match us, hl with | [_, _, _], _ => rfl
  have D__ends_of_join : Df K mg "_ends_of_join" s__ends_of_join ["parts", "letters", "rows"] f5 _ := ⟨F5, b5, PySem.W.mg_of X G a5⟩
  have F6 := fun_mk (st := s__ends_of_or) l6 c6 k6
  have b6 := F6.binds (ps := ["parts", "letters", "rows"]) fun _ _ _ _ _ _ us hl => match us, hl with | [_, _, _], _ => rfl
  have D__ends_of_or : Df K mg "_ends_of_or" s__ends_of_or ["parts", "letters", "rows"] f6 _ := ⟨F6, b6, PySem.W.mg_of X G a6⟩
  have F7 := fun_mk (st := s__link) l7 c7 k7
  have b7 := F7.binds (ps := ["rows", "ends", "begins"]) fun _ _ _ _ _ _ us hl => match us, hl with | [_, _, _], _ => rfl
  have D__link : Df K mg "_link" s__link ["rows", "ends", "begins"] f7 _ := ⟨F7, b7, PySem.W.mg_of X G a7⟩
  have F8 := fun_mk (st := s_is_number) l8 c8 k8
  have b8 := F8.binds (ps := ["value", "least", "most"]) fun _ _ _ _ _ _ us hl => match us, hl with | [_, _, _], _ => rfl
  have D_is_number : Df K mg "is_number" s_is_number ["value", "least", "most"] f8 _ := ⟨F8, b8, PySem.W.mg_of X G a8⟩
  have F9 := fun_mk (st := s_by_letter) l9 c9 k9
  have b9 := F9.binds (ps := ["steps", "near"]) fun _ _ _ _ _ _ us hl => match us, hl with | [_, _], _ => rfl
  have D_by_letter : Df K mg "by_letter" s_by_letter ["steps", "near"] f9 _ := ⟨F9, b9, PySem.W.mg_of X G a9⟩
  have F10 := fun_mk (st := s_places_behind) l10 c10 k10
  have b10 := F10.binds (ps := ["steps", "row"]) fun _ _ _ _ _ _ us hl => match us, hl with | [_, _], _ => rfl
  have D_places_behind : Df K mg "places_behind" s_places_behind ["steps", "row"] f10 _ := ⟨F10, b10, PySem.W.mg_of X G a10⟩
  have F11 := fun_mk (st := s_is_expression) l11 c11 k11
  have b11 := F11.binds (ps := ["value"]) fun _ _ _ _ _ _ us hl => match us, hl with | [_], _ => rfl
  have D_is_expression : Df K mg "is_expression" s_is_expression ["value"] f11 _ := ⟨F11, b11, PySem.W.mg_of X G a11⟩
  have F12 := fun_mk (st := s_is_letter) l12 c12 k12
  have b12 := F12.binds (ps := ["value"]) fun _ _ _ _ _ _ us hl => match us, hl with | [_], _ => rfl
  have D_is_letter : Df K mg "is_letter" s_is_letter ["value"] f12 _ := ⟨F12, b12, PySem.W.mg_of X G a12⟩
  have F13 : FunD K "check_expression" "check_expression" (defArgs s_check_expression) (defBody s_check_expression) (defScope s_check_expression) [V.str "expression"] [] f13 _ := ⟨⟨oc13, od13, .ref TD13, kV13, dc13, pm13, an13, cd13, ct13, sl13, rfl, l13, c13, .inr ⟨(by intro c; cases c), TD13, _, _, _, rfl, m13, rfl, .cons ⟨_, rfl⟩ (.nil)⟩, .inl rfl⟩, k13⟩
  have D_check_expression : DfD K mg "check_expression" s_check_expression ["value", "name"] [V.str "expression"] f13 _ := DfD.mk1 F13 (PySem.W.mg_of X G a13) 1 (by intro c; cases c) rfl (fun T kV doc pm an cdv ct us its h1 h2 => match us, its, h1, h2 with | [_], [_], _, _ => ⟨_, rfl, rfl⟩) (fun T kV doc pm an cdv ct us its h1 h2 => match us, its, h1, h2 with | [_, _], [_], _, _ => ⟨_, rfl, rfl⟩)
  have F14 := fun_mk (st := s_sizes_within) l14 c14 k14
  have b14 := F14.binds (ps := ["value", "bounds"]) fun _ _ _ _ _ _ us hl => match us, hl with | [_, _], _ => rfl
  have D_sizes_within : Df K mg "sizes_within" s_sizes_within ["value", "bounds"] f14 _ := ⟨F14, b14, PySem.W.mg_of X G a14⟩
  have F15 := fun_mk (st := s__parts_of) l15 c15 k15
  have b15 := F15.binds (ps := ["value"]) fun _ _ _ _ _ _ us hl => match us, hl with | [_], _ => rfl
  have D__parts_of : Df K mg "_parts_of" s__parts_of ["value"] f15 _ := ⟨F15, b15, PySem.W.mg_of X G a15⟩
  have F16 := fun_mk (st := s__is_row) l16 c16 k16
  have b16 := F16.binds (ps := ["word", "value"]) fun _ _ _ _ _ _ us hl => match us, hl with | [_, _], _ => rfl
  have D__is_row : Df K mg "_is_row" s__is_row ["word", "value"] f16 _ := ⟨F16, b16, PySem.W.mg_of X G a16⟩
  have F17 := fun_mk (st := s__begins_with) l17 c17 k17
  have b17 := F17.binds (ps := ["value", "word"]) fun _ _ _ _ _ _ us hl => match us, hl with | [_, _], _ => rfl
  have D__begins_with : Df K mg "_begins_with" s__begins_with ["value", "word"] f17 _ := ⟨F17, b17, PySem.W.mg_of X G a17⟩
  have F18 := fun_mk (st := s_machine_of) l18 c18 k18
  have b18 := F18.binds (ps := ["expression"]) fun _ _ _ _ _ _ us hl => match us, hl with | [_], _ => rfl
  have D_machine_of : Df K mg "machine_of" s_machine_of ["expression"] f18 _ := ⟨F18, b18, PySem.W.mg_of X G a18⟩
  have F19 := fun_mk (st := s_has_last) l19 c19 k19
  have b19 := F19.binds (ps := ["steps", "row"]) fun _ _ _ _ _ _ us hl => match us, hl with | [_, _], _ => rfl
  have D_has_last : Df K mg "has_last" s_has_last ["steps", "row"] f19 _ := ⟨F19, b19, PySem.W.mg_of X G a19⟩
  have F20 := fun_mk (st := s_sets_of) l20 c20 k20
  have b20 := F20.binds (ps := ["steps"]) fun _ _ _ _ _ _ us hl => match us, hl with | [_], _ => rfl
  have D_sets_of : Df K mg "sets_of" s_sets_of ["steps"] f20 _ := ⟨F20, b20, PySem.W.mg_of X G a20⟩
  have F21 := fun_mk (st := s__classes) l21 c21 k21
  have b21 := F21.binds (ps := ["ends", "rows"]) fun _ _ _ _ _ _ us hl => match us, hl with | [_, _], _ => rfl
  have D__classes : Df K mg "_classes" s__classes ["ends", "rows"] f21 _ := ⟨F21, b21, PySem.W.mg_of X G a21⟩
  have F22 := fun_mk (st := s__numbered) l22 c22 k22
  have b22 := F22.binds (ps := ["signs"]) fun _ _ _ _ _ _ us hl => match us, hl with | [_], _ => rfl
  have D__numbered : Df K mg "_numbered" s__numbered ["signs"] f22 _ := ⟨F22, b22, PySem.W.mg_of X G a22⟩
  have F23 := fun_mk (st := s_count_words) l23 c23 k23
  have b23 := F23.binds (ps := ["expression", "length"]) fun _ _ _ _ _ _ us hl => match us, hl with | [_, _], _ => rfl
  have D_count_words : Df K mg "count_words" s_count_words ["expression", "length"] f23 _ := ⟨F23, b23, PySem.W.mg_of X G a23⟩
  have F24 := fun_mk (st := s_counts_of) l24 c24 k24
  have b24 := F24.binds (ps := ["machine", "length"]) fun _ _ _ _ _ _ us hl => match us, hl with | [_, _], _ => rfl
  have D_counts_of : Df K mg "counts_of" s_counts_of ["machine", "length"] f24 _ := ⟨F24, b24, PySem.W.mg_of X G a24⟩
  have F25 := fun_mk (st := s__law_stream) l25 c25 k25
  have b25 := F25.binds (ps := ["script"]) fun _ _ _ _ _ _ us hl => match us, hl with | [_], _ => rfl
  have D__law_stream : Df K mg "_law_stream" s__law_stream ["script"] f25 _ := ⟨F25, b25, PySem.W.mg_of X G a25⟩
  have F26 := fun_mk (st := s__law_next) l26 c26 k26
  have b26 := F26.binds (ps := ["stream", "many"]) fun _ _ _ _ _ _ us hl => match us, hl with | [_, _], _ => rfl
  have D__law_next : Df K mg "_law_next" s__law_next ["stream", "many"] f26 _ := ⟨F26, b26, PySem.W.mg_of X G a26⟩
  have F27 := fun_mk (st := s__law_is_integer) l27 c27 k27
  have b27 := F27.binds (ps := ["actual"]) fun _ _ _ _ _ _ us hl => match us, hl with | [_], _ => rfl
  have D__law_is_integer : Df K mg "_law_is_integer" s__law_is_integer ["actual"] f27 _ := ⟨F27, b27, PySem.W.mg_of X G a27⟩
  have F28 := fun_mk (st := s__law_equal) l28 c28 k28
  have b28 := F28.binds (ps := ["actual", "due"]) fun _ _ _ _ _ _ us hl => match us, hl with | [_, _], _ => rfl
  have D__law_equal : Df K mg "_law_equal" s__law_equal ["actual", "due"] f28 _ := ⟨F28, b28, PySem.W.mg_of X G a28⟩
  have F29 := fun_mk (st := s__law_put) l29 c29 k29
  have b29 := F29.binds (ps := ["word", "one", "other"]) fun _ _ _ _ _ _ us hl => match us, hl with | [_, _, _], _ => rfl
  have D__law_put : Df K mg "_law_put" s__law_put ["word", "one", "other"] f29 _ := ⟨F29, b29, PySem.W.mg_of X G a29⟩
  have F30 := fun_mk (st := s__law_expression) l30 c30 k30
  have b30 := F30.binds (ps := ["stream", "letters", "most"]) fun _ _ _ _ _ _ us hl => match us, hl with | [_, _, _], _ => rfl
  have D__law_expression : Df K mg "_law_expression" s__law_expression ["stream", "letters", "most"] f30 _ := ⟨F30, b30, PySem.W.mg_of X G a30⟩
  have F31 := fun_mk (st := s__law_depth) l31 c31 k31
  have b31 := F31.binds (ps := ["expression"]) fun _ _ _ _ _ _ us hl => match us, hl with | [_], _ => rfl
  have D__law_depth : Df K mg "_law_depth" s__law_depth ["expression"] f31 _ := ⟨F31, b31, PySem.W.mg_of X G a31⟩
  have F32 := fun_mk (st := s__law_parts) l32 c32 k32
  have b32 := F32.binds (ps := ["expression"]) fun _ _ _ _ _ _ us hl => match us, hl with | [_], _ => rfl
  have D__law_parts : Df K mg "_law_parts" s__law_parts ["expression"] f32 _ := ⟨F32, b32, PySem.W.mg_of X G a32⟩
  have F33 := fun_mk (st := s__law_some) l33 c33 k33
  have b33 := F33.binds (ps := ["stream", "letters", "most"]) fun _ _ _ _ _ _ us hl => match us, hl with | [_, _, _], _ => rfl
  have D__law_some : Df K mg "_law_some" s__law_some ["stream", "letters", "most"] f33 _ := ⟨F33, b33, PySem.W.mg_of X G a33⟩
  have F34 := fun_mk (st := s__law_ends) l34 c34 k34
  have b34 := F34.binds (ps := ["expression", "word", "start"]) fun _ _ _ _ _ _ us hl => match us, hl with | [_, _, _], _ => rfl
  have D__law_ends : Df K mg "_law_ends" s__law_ends ["expression", "word", "start"] f34 _ := ⟨F34, b34, PySem.W.mg_of X G a34⟩
  have F35 := fun_mk (st := s__law_is_right) l35 c35 k35
  have b35 := F35.binds (ps := ["expression", "word"]) fun _ _ _ _ _ _ us hl => match us, hl with | [_, _], _ => rfl
  have D__law_is_right : Df K mg "_law_is_right" s__law_is_right ["expression", "word"] f35 _ := ⟨F35, b35, PySem.W.mg_of X G a35⟩
  have F36 := fun_mk (st := s__law_texts) l36 c36 k36
  have b36 := F36.binds (ps := ["letters", "most"]) fun _ _ _ _ _ _ us hl => match us, hl with | [_, _], _ => rfl
  have D__law_texts : Df K mg "_law_texts" s__law_texts ["letters", "most"] f36 _ := ⟨F36, b36, PySem.W.mg_of X G a36⟩
  have F37 := fun_mk (st := s__law_numbered) l37 c37 k37
  have b37 := F37.binds (ps := ["expression", "count"]) fun _ _ _ _ _ _ us hl => match us, hl with | [_, _], _ => rfl
  have D__law_numbered : Df K mg "_law_numbered" s__law_numbered ["expression", "count"] f37 _ := ⟨F37, b37, PySem.W.mg_of X G a37⟩
  have F38 := fun_mk (st := s__law_across) l38 c38 k38
  have b38 := F38.binds (ps := ["last", "first"]) fun _ _ _ _ _ _ us hl => match us, hl with | [_, _], _ => rfl
  have D__law_across : Df K mg "_law_across" s__law_across ["last", "first"] f38 _ := ⟨F38, b38, PySem.W.mg_of X G a38⟩
  have F39 := fun_mk (st := s__law_tables) l39 c39 k39
  have b39 := F39.binds (ps := ["expression"]) fun _ _ _ _ _ _ us hl => match us, hl with | [_], _ => rfl
  have D__law_tables : Df K mg "_law_tables" s__law_tables ["expression"] f39 _ := ⟨F39, b39, PySem.W.mg_of X G a39⟩
  have F40 := fun_mk (st := s__law_behind) l40 c40 k40
  have b40 := F40.binds (ps := ["tables", "places", "letter"]) fun _ _ _ _ _ _ us hl => match us, hl with | [_, _, _], _ => rfl
  have D__law_behind : Df K mg "_law_behind" s__law_behind ["tables", "places", "letter"] f40 _ := ⟨F40, b40, PySem.W.mg_of X G a40⟩
  have F41 := fun_mk (st := s__law_ending) l41 c41 k41
  have b41 := F41.binds (ps := ["tables", "places"]) fun _ _ _ _ _ _ us hl => match us, hl with | [_, _], _ => rfl
  have D__law_ending : Df K mg "_law_ending" s__law_ending ["tables", "places"] f41 _ := ⟨F41, b41, PySem.W.mg_of X G a41⟩
  have F42 := fun_mk (st := s__law_counted) l42 c42 k42
  have b42 := F42.binds (ps := ["expression", "length"]) fun _ _ _ _ _ _ us hl => match us, hl with | [_, _], _ => rfl
  have D__law_counted : Df K mg "_law_counted" s__law_counted ["expression", "length"] f42 _ := ⟨F42, b42, PySem.W.mg_of X G a42⟩
  have F43 := fun_mk (st := s_law) l43 c43 k43
  have b43 := F43.binds (ps := ["script"]) fun _ _ _ _ _ _ us hl => match us, hl with | [_], _ => rfl
  have D_law : Df K mg "law" s_law ["script"] f43 _ := ⟨F43, b43, PySem.W.mg_of X G a43⟩
  have B : Bt K mg aBOUNDS aBOUNDS tL tL := ⟨PySem.W.mg_none_of X G z_ValueError, PySem.W.mg_none_of X G z_abs, PySem.W.mg_none_of X G z_all, PySem.W.mg_none_of X G z_any, PySem.W.mg_none_of X G z_bool, PySem.W.mg_none_of X G z_enumerate, PySem.W.mg_none_of X G z_int, PySem.W.mg_none_of X G z_isinstance, PySem.W.mg_none_of X G z_len, PySem.W.mg_none_of X G z_list, PySem.W.mg_none_of X G z_max, PySem.W.mg_none_of X G z_range, PySem.W.mg_none_of X G z_set, PySem.W.mg_none_of X G z_sorted, PySem.W.mg_none_of X G z_str, PySem.W.mg_none_of X G z_sum, PySem.W.mg_none_of X G z_super, PySem.W.mg_none_of X G z_tuple, PySem.W.mg_of X G gLETTERS, PySem.W.mg_of X G gBOUNDS, fun H => .inr ⟨_, _, _, lBOUNDS, rfl, rfl, (by show 3 ≤ sizeLine; decide), .cons ⟨_, rfl⟩ (.cons ⟨_, rfl⟩ (.cons ⟨_, rfl⟩ .nil))⟩, ⟨_, PySem.W.mg_of X G gMOST_COUNTED⟩, ⟨_, PySem.W.mg_of X G gNO_STATE⟩⟩
  have FI := fun_mk (st := s_Steps___init__) lI cI kI
  have bI := FI.binds (ps := ["self", "letters", "empty", "first", "last", "following"]) fun _ _ _ _ _ _ us hl => match us, hl with | [_, _, _, _, _, _], _ => rfl
  have T : StTxt K CS := ⟨⟨pgS, hdS, poS, saS⟩, n1, n2, n3, n4, n5⟩
  have FM_init := fun_mk (st := s_Machine___init__) lM_init cM_init kM_init
  have bM_init := FM_init.binds (ps := ["self", "accepting", "rows"]) fun _ _ _ _ _ _ us hl => match us, hl with | [_, _, _], _ => rfl
  have TM : McTxt K CM := ⟨⟨pgM, hdM, poM, saM⟩, naM0, naM1⟩
  have e := hfa.symm.trans D_law.g
  cases e
  refine ⟨(PySem.W.fnOf "law" "law" (defArgs s_law) (defBody s_law) (defScope s_law) .none kV43 dc43 pm43 an43 cd43 ct43), fun s v => .of_eq rfl, fun base _ _ => ?_⟩
  have MS : Ck l.prog w K mg base 1 "Steps" ["self", "letters", "empty", "first", "last", "following"] (spInit CS) CS := ⟨fI, _, ⟨mkS, aI, iI, kcS⟩, ok_stepsinit FI T, bI, PySem.W.mg_of X G aS⟩
  have MMk : Ck l.prog w K mg base 1 "Machine" ["self", "accepting", "rows"] (spMcInit CM) CM := ⟨fM_init, _, ⟨mkM, atM_init, fnM_init, kcM⟩, ok_machineinit FM_init TM, bM_init, PySem.W.mg_of X G aM⟩
  have C__law_stream := D__law_stream.cl (ok_stream (P := l.prog) (w := w) (base := base) B D__law_stream)
  have C__law_next := D__law_next.cl (ok_next (P := l.prog) (w := w) (base := base) B D__law_next)
  have C__law_put := D__law_put.cl (ok_put (P := l.prog) (w := w) (base := base) B D__law_put)
  have C__law_expression := D__law_expression.cl (ok_exprA (P := l.prog) (w := w) (base := base) B D__law_expression C__law_next C__law_put)
  have C__law_depth := D__law_depth.cl (all2_depA_step (P := l.prog) (w := w) (base := base) B D__law_depth 22)
  have C__law_parts := D__law_parts.cl (all2_prtA_step (P := l.prog) (w := w) (base := base) B D__law_parts 22)
  have C__law_some := D__law_some.cl (ok_someA (P := l.prog) (w := w) (base := base) B D__law_some C__law_expression C__law_depth C__law_parts)
  have C__law_ends := D__law_ends.cl (all2_cends_step (P := l.prog) (w := w) (base := base) B D__law_ends 7)
  have C__law_is_right := D__law_is_right.cl (ok_rightC (P := l.prog) (w := w) (base := base) B D__law_is_right C__law_ends)
  have C__law_texts := D__law_texts.cl (ok_texts (P := l.prog) (w := w) (base := base) B D__law_texts)
  have C__law_across := D__law_across.cl (ok_across (P := l.prog) (w := w) (base := base) B D__law_across)
  have C__law_numbered := D__law_numbered.cl (all2_numbered_step (P := l.prog) (w := w) (base := base) B D__law_numbered C__law_across 7)
  have C__law_tables := D__law_tables.cl (ok_tabsA (P := l.prog) (w := w) (base := base) B D__law_tables C__law_numbered)
  have C__law_behind := D__law_behind.cl (ok_behA (P := l.prog) (w := w) (base := base) B D__law_behind)
  have C__law_ending := D__law_ending.cl (ok_endA (P := l.prog) (w := w) (base := base) B D__law_ending)
  have C__law_counted := D__law_counted.cl (ok_countL (P := l.prog) (w := w) (base := base) B D__law_counted C__law_tables C__law_behind C__law_ending)
  have C__law_is_integer := D__law_is_integer.cl (ok_isint (P := l.prog) (w := w) (base := base) B D__law_is_integer)
  have C__law_equal := D__law_equal.cl (all2_equal_step (P := l.prog) (w := w) (base := base) B D__law_equal C__law_is_integer 4)
  have C_is_letter := D_is_letter.cl (ok_letter (P := l.prog) (w := w) (base := base) B D_is_letter)
  have C__begins_with := D__begins_with.cl (ok_begins (P := l.prog) (w := w) (base := base) B D__begins_with)
  have C__is_row := D__is_row.cl (ok_isrow (P := l.prog) (w := w) (base := base) B D__is_row C__begins_with)
  have C__parts_of := D__parts_of.cl (ok_parts (P := l.prog) (w := w) (base := base) B D__parts_of C_is_letter C__is_row)
  have C_sizes_within := D_sizes_within.cl (ok_sizes (P := l.prog) (w := w) (base := base) B D_sizes_within C__parts_of)
  have C_is_expression := D_is_expression.cl (ok_isexpr (P := l.prog) (w := w) (base := base) B D_is_expression C_sizes_within)
  have C_check_expression := D_check_expression.clD (ok_checkexpr (P := l.prog) (w := w) (base := base) B D_check_expression C_is_expression)
  have C_is_number := D_is_number.cl (ok_isnumberC (P := l.prog) (w := w) (base := base) B D_is_number)
  have C__link := D__link.cl (ok_link (P := l.prog) (w := w) (base := base) B D__link)
  have C__ends_of_leaf := D__ends_of_leaf.cl (ok_leaf (P := l.prog) (w := w) (base := base) B D__ends_of_leaf)
  have C__ends_of := D__ends_of.cl (all_ends (P := l.prog) (w := w) (base := base) B D__ends_of D__ends_of_join D__ends_of_or C__link C__ends_of_leaf 42)
  have C_steps_of := D_steps_of.cl (ok_stepsof (P := l.prog) (w := w) (base := base) B D_steps_of C__ends_of MS)
  have C_by_letter := D_by_letter.cl (ok_byletter (P := l.prog) (w := w) (base := base) T B D_by_letter)
  have C_places_behind := D_places_behind.cl (ok_behind (P := l.prog) (w := w) (base := base) T B D_places_behind)
  have C_sets_of := D_sets_of.cl (ok_setsof (P := l.prog) (w := w) (base := base) T B D_sets_of C_by_letter C_places_behind)
  have C_has_last := D_has_last.cl (ok_haslast (P := l.prog) (w := w) (base := base) T B D_has_last)
  have C__numbered := D__numbered.cl (ok_num2 (P := l.prog) (w := w) (base := base) B D__numbered)
  have C__classes := D__classes.cl (ok_classes (P := l.prog) (w := w) (base := base) B D__classes C__numbered)
  have C_machine_of := D_machine_of.cl (ok_machineof (P := l.prog) (w := w) (base := base) T TM B D_machine_of C_steps_of C_sets_of C_has_last C__classes MMk)
  have C_counts_of := D_counts_of.cl (ok_countsof (P := l.prog) (w := w) (base := base) TM B D_counts_of)
  have C_count_words := D_count_words.cl (ok_countw (P := l.prog) (w := w) (base := base) B D_count_words C_check_expression C_is_number C_machine_of C_counts_of)
  exact ok_law B D_law C__law_stream C__law_next C__law_some C__law_is_right C__law_texts C__law_counted C__law_equal C_count_words
theorem walk {l : PySem.W.OpenLaw} {q : Program} {loose : List Str} {XP : (Str → Option Value) → Heap → Prop} {YP : World → Heap → Prop} {d : DefRec} {K : Params → PySem.W.Frag} (hn : l.most = some 63) (hdf : d.params.defaults = [])
    (hY : ∀ (w : World) (h : Heap), YP w h → (K w.params).In h)
    (F : ∀ (w : World) (mg : Str → Option Value) (fa : Addr) (h : Heap), (K w.params).In h → h.Ns mainGlobals mg → mg d.name = some (.ref fa) →
      ∃ fd : FuncData, (∀ (s : Shared) (u : Value), BindsTo s fd ⟨[u], []⟩ [("script", u)]) ∧ ∀ base : Heap, (K w.params).In base → base.Ns mainGlobals mg → FnOk l.prog w (K w.params) mg base CX0 91 fa fd ["script"] (spLaw (K w.params))) :
    PySem.W.WalkO q loose XP YP l.row.toRowW d [] (fun f vs => PySem.call f vs) :=
  L2.walk_of (n := 63) (k := 91) (x := "script") (CX := fun _ => CX0) (sp := fun w => spLaw (K w.params)) hn (by decide) hdf ⟨rfl, by decide, by decide⟩ hY F (fun _ _ a ns hl _ hS => ⟨a, ns, rfl, hS, hl, fun _ => rfl⟩) fun _ _ _ _ _ z => z
end My
open PySem PySem.W PyProof.Rows
set_option maxRecDepth 100000 in
set_option maxHeartbeats 0 in
theorem PySem.Challenge.cw_nodoubt_k30_counted_words_holds : PySem.Challenge.rw_nodoubt_k30_counted_words.Holds := by
  w_on; o_law; k_head; (case hw => w_witness2)
  k_fill
  refine My.walk (l := PySem.Challenge.rw_nodoubt_k30_counted_words) rfl rfl (fun w h Y => PySem.W.kIn_of Y) ?F
  case F =>
    intro w mg fa h KX G hmg
    refine' My.all_mk KX G hmg ?a1 ?l1 ?c1 ?k1 ?a2 ?l2 ?c2 ?k2 ?a3 ?l3 ?c3 ?k3 ?a4 ?l4 ?c4 ?k4 ?a5 ?l5 ?c5 ?k5 ?a6 ?l6 ?c6 ?k6 ?a7 ?l7 ?c7 ?k7 ?a8 ?l8 ?c8 ?k8 ?a9 ?l9 ?c9 ?k9 ?a10 ?l10 ?c10 ?k10 ?a11 ?l11 ?c11 ?k11 ?a12 ?l12 ?c12 ?k12 ?m13 ?a13 ?l13 ?c13 ?k13 ?a14 ?l14 ?c14 ?k14 ?a15 ?l15 ?c15 ?k15 ?a16 ?l16 ?c16 ?k16 ?a17 ?l17 ?c17 ?k17 ?a18 ?l18 ?c18 ?k18 ?a19 ?l19 ?c19 ?k19 ?a20 ?l20 ?c20 ?k20 ?a21 ?l21 ?c21 ?k21 ?a22 ?l22 ?c22 ?k22 ?a23 ?l23 ?c23 ?k23 ?a24 ?l24 ?c24 ?k24 ?a25 ?l25 ?c25 ?k25 ?a26 ?l26 ?c26 ?k26 ?a27 ?l27 ?c27 ?k27 ?a28 ?l28 ?c28 ?k28 ?a29 ?l29 ?c29 ?k29 ?a30 ?l30 ?c30 ?k30 ?a31 ?l31 ?c31 ?k31 ?a32 ?l32 ?c32 ?k32 ?a33 ?l33 ?c33 ?k33 ?a34 ?l34 ?c34 ?k34 ?a35 ?l35 ?c35 ?k35 ?a36 ?l36 ?c36 ?k36 ?a37 ?l37 ?c37 ?k37 ?a38 ?l38 ?c38 ?k38 ?a39 ?l39 ?c39 ?k39 ?a40 ?l40 ?c40 ?k40 ?a41 ?l41 ?c41 ?k41 ?a42 ?l42 ?c42 ?k42 ?a43 ?l43 ?c43 ?k43 ?z_ValueError ?z_abs ?z_all ?z_any ?z_bool ?z_enumerate ?z_int ?z_isinstance ?z_len ?z_list ?z_max ?z_range ?z_set ?z_sorted ?z_str ?z_sum ?z_super ?z_tuple ?gBOUNDS ?lBOUNDS ?gLETTERS ?gMOST_COUNTED ?gNO_STATE ?aS ?aI ?iI ?lI ?cI ?kI ?pgS ?hdS ?poS ?saS ?mkS ?kcS ?n1 ?n2 ?n3 ?n4 ?n5 ?aM ?atM_init ?fnM_init ?lM_init ?cM_init ?kM_init ?pgM ?hdM ?poM ?saM ?mkM ?kcM ?naM0 ?naM1
    (case a1 => k_is); (case l1 => k_is); (case c1 => k_is); (case k1 => k_is); (case a2 => k_is); (case l2 => k_is); (case c2 => k_is); (case k2 => k_is); (case a3 => k_is); (case l3 => k_is); (case c3 => k_is); (case k3 => k_is); (case a4 => k_is); (case l4 => k_is); (case c4 => k_is); (case k4 => k_is); (case a5 => k_is); (case l5 => k_is); (case c5 => k_is); (case k5 => k_is); (case a6 => k_is); (case l6 => k_is); (case c6 => k_is); (case k6 => k_is); (case a7 => k_is); (case l7 => k_is); (case c7 => k_is); (case k7 => k_is); (case a8 => k_is); (case l8 => k_is); (case c8 => k_is); (case k8 => k_is); (case a9 => k_is); (case l9 => k_is); (case c9 => k_is); (case k9 => k_is); (case a10 => k_is); (case l10 => k_is); (case c10 => k_is); (case k10 => k_is); (case a11 => k_is); (case l11 => k_is); (case c11 => k_is); (case k11 => k_is); (case a12 => k_is); (case l12 => k_is); (case c12 => k_is); (case k12 => k_is); (case a13 => k_is); (case l13 => k_is); (case c13 => k_is); (case k13 => k_is); (case a14 => k_is); (case l14 => k_is); (case c14 => k_is); (case k14 => k_is); (case a15 => k_is); (case l15 => k_is); (case c15 => k_is); (case k15 => k_is); (case a16 => k_is); (case l16 => k_is); (case c16 => k_is); (case k16 => k_is); (case a17 => k_is); (case l17 => k_is); (case c17 => k_is); (case k17 => k_is); (case a18 => k_is); (case l18 => k_is); (case c18 => k_is); (case k18 => k_is); (case a19 => k_is); (case l19 => k_is); (case c19 => k_is); (case k19 => k_is); (case a20 => k_is); (case l20 => k_is); (case c20 => k_is); (case k20 => k_is); (case a21 => k_is); (case l21 => k_is); (case c21 => k_is); (case k21 => k_is); (case a22 => k_is); (case l22 => k_is); (case c22 => k_is); (case k22 => k_is); (case a23 => k_is); (case l23 => k_is); (case c23 => k_is); (case k23 => k_is); (case a24 => k_is); (case l24 => k_is); (case c24 => k_is); (case k24 => k_is); (case a25 => k_is); (case l25 => k_is); (case c25 => k_is); (case k25 => k_is); (case a26 => k_is); (case l26 => k_is); (case c26 => k_is); (case k26 => k_is); (case a27 => k_is); (case l27 => k_is); (case c27 => k_is); (case k27 => k_is); (case a28 => k_is); (case l28 => k_is); (case c28 => k_is); (case k28 => k_is); (case a29 => k_is); (case l29 => k_is); (case c29 => k_is); (case k29 => k_is); (case a30 => k_is); (case l30 => k_is); (case c30 => k_is); (case k30 => k_is); (case a31 => k_is); (case l31 => k_is); (case c31 => k_is); (case k31 => k_is); (case a32 => k_is); (case l32 => k_is); (case c32 => k_is); (case k32 => k_is); (case a33 => k_is); (case l33 => k_is); (case c33 => k_is); (case k33 => k_is); (case a34 => k_is); (case l34 => k_is); (case c34 => k_is); (case k34 => k_is); (case a35 => k_is); (case l35 => k_is); (case c35 => k_is); (case k35 => k_is); (case a36 => k_is); (case l36 => k_is); (case c36 => k_is); (case k36 => k_is); (case a37 => k_is); (case l37 => k_is); (case c37 => k_is); (case k37 => k_is); (case a38 => k_is); (case l38 => k_is); (case c38 => k_is); (case k38 => k_is); (case a39 => k_is); (case l39 => k_is); (case c39 => k_is); (case k39 => k_is); (case a40 => k_is); (case l40 => k_is); (case c40 => k_is); (case k40 => k_is); (case a41 => k_is); (case l41 => k_is); (case c41 => k_is); (case k41 => k_is); (case a42 => k_is); (case l42 => k_is); (case c42 => k_is); (case k42 => k_is); (case a43 => k_is); (case l43 => k_is); (case c43 => k_is); (case k43 => k_is); (case z_ValueError => k_is); (case z_abs => k_is); (case z_all => k_is); (case z_any => k_is); (case z_bool => k_is); (case z_enumerate => k_is); (case z_int => k_is); (case z_isinstance => k_is); (case z_len => k_is); (case z_list => k_is); (case z_max => k_is); (case z_range => k_is); (case z_set => k_is); (case z_sorted => k_is); (case z_str => k_is); (case z_sum => k_is); (case z_super => k_is); (case z_tuple => k_is); (case m13 => k_is)
    (case gBOUNDS => first | k_is | rfl | decide +kernel)
    (case lBOUNDS => first | k_is | rfl | decide +kernel)
    (case gLETTERS => first | k_is | rfl | decide +kernel)
    (case gMOST_COUNTED => first | k_is | rfl | decide +kernel)
    (case gNO_STATE => first | k_is | rfl | decide +kernel)
    (case aS => first | k_is | rfl | decide +kernel)
    (case aI => first | k_is | rfl | decide +kernel)
    (case iI => first | k_is | rfl | decide +kernel)
    (case lI => first | k_is | rfl | decide +kernel)
    (case cI => first | k_is | rfl | decide +kernel)
    (case kI => first | k_is | rfl | decide +kernel)
    (case pgS => first | k_is | rfl | decide +kernel)
    (case hdS => first | k_is | rfl | decide +kernel)
    (case poS => first | k_is | rfl | decide +kernel)
    (case saS => first | k_is | rfl | decide +kernel)
    (case mkS => first | k_is | rfl | decide +kernel)
    (case kcS => first | k_is | rfl | decide +kernel)
    (case n1 => first | k_is | rfl | decide +kernel)
    (case n2 => first | k_is | rfl | decide +kernel)
    (case n3 => first | k_is | rfl | decide +kernel)
    (case n4 => first | k_is | rfl | decide +kernel)
    (case n5 => first | k_is | rfl | decide +kernel)
    (case aM => first | k_is | rfl | decide +kernel)
    (case atM_init => first | k_is | rfl | decide +kernel)
    (case fnM_init => first | k_is | rfl | decide +kernel)
    (case lM_init => first | k_is | rfl | decide +kernel)
    (case cM_init => first | k_is | rfl | decide +kernel)
    (case kM_init => first | k_is | rfl | decide +kernel)
    (case pgM => first | k_is | rfl | decide +kernel)
    (case hdM => first | k_is | rfl | decide +kernel)
    (case poM => first | k_is | rfl | decide +kernel)
    (case saM => first | k_is | rfl | decide +kernel)
    (case mkM => first | k_is | rfl | decide +kernel)
    (case kcM => first | k_is | rfl | decide +kernel)
    (case naM0 => first | k_is | rfl | decide +kernel)
    (case naM1 => first | k_is | rfl | decide +kernel)
