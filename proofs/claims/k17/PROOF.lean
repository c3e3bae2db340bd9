import PyProof.Rows.All
import Wide.All
import OpenK.AllK
import Wide.FinOn
import HandS.ForMost
import HandS.IsInst
import HandS.TupAny
import HandS.TupMul
import HandS.Codes
import HandS.Style
import HandS.Wide
import PyProof.StrBlock2
import HandS.Zip
import PyProof.EnumMake
import PyProof.Draws
import HandS.Iter
import HandS.Rev
import KE.GoesMore
import HandS.DictTup
import HandS.SortInts
import KE.KDictWalk
import KE.KItemsList
import HandS.SortRule
import HandS.NamedTupSort
import HandS.List
import HandS.SortKw
import KE.KMinBuiltin
import KE.KSortTupAny
import KE.LtSeq
import HandS.Text
import PyProof.Rows.StrRev
import KE.KRevSl
import KE.SortData
import HandS.More
import HandS.Deep
import HandS.TryOnly
import HandS.Conv
import HandS.Strs
import HandS.Walk
import HandS.Dict
import HandS.DictComp
import PySem.Challenge.RW_nodoubt_k17_whole_first_doubts
set_option Elab.async false
set_option maxRecDepth 100000
set_option linter.all false
namespace My
open PySem PySem.Spec PyProof.Rows L2
/-! ### a def of the text, and what a caller needs of it -/
structure Df (K : PySem.W.Frag) (mg : Str → Option Value) (x : Str) (st : Stmt) (ps : List Str) (f : Addr) (fd : FuncData) : Prop where
  F : Fun K x x st f fd
  b : Binds K fd ps []
  g : mg x = some (.ref f)
structure Cl (P : Program) (w : World) (K : PySem.W.Frag) (mg : Str → Option Value) (base : Heap) (k : Nat) (x : Str) (ps : List Str) (sp : Sp) : Prop where
  ex : ∃ (f : Addr) (fd : FuncData), FnOk P w K mg base CX0 k f fd ps sp ∧ Binds K fd ps [] ∧ mg x = some (.ref f) ∧ PySem.W.keepIn K (.ref f) = true
theorem Df.cl {P : Program} {w : World} {K : PySem.W.Frag} {mg : Str → Option Value} {base : Heap} {x : Str} {st : Stmt} {ps : List Str} {f : Addr} {fd : FuncData} {k : Nat} {sp : Sp} (D : Df K mg x st ps f fd) (h : FnOk P w K mg base CX0 k f fd ps sp) : Cl P w K mg base k x ps sp :=
  ⟨f, fd, h, D.b, D.g, D.F.kp⟩
theorem pe_cl {X : Cx} {k : Nat} {x : Str} {ps : List Str} {sp : Sp} {p pos : Pos} {e : Expr} {es : List Expr} {t : TA} (C : Cl X.prog X.w X.K X.mg X.base k x ps sp) (hr : Room k X.A) (hg : Gl X x) (ha : PA X (e :: es) t)
    (hdb : (x == ("__debug__" : Str)) = false := by decide) (he : starEach (e :: es) X.env = (false, eval e X.env) :: starEach es X.env := by rfl) (hpl : (backTo pos (starEach es X.env)).any (·.1) = false := by rfl) :
    PE X (.Call (.Name x p) (e :: es) [] pos) (tCall sp [] E0 t) := by
  obtain ⟨f, fd, F, b, m, kp⟩ := C.ex
  exact pe_call F hr hg m kp b .nil pass0 ha hdb he hpl
/-! ### lists of values -/
theorem vals_of : ∀ (vs : List V) (us : List Value), vs.length = us.length → (∀ (j : Nat) (v : V) (u : Value), vs[j]? = some v → us[j]? = some u → RelV v u) → Vals vs us
  | [], [], _, _ => .nil
  | [], _ :: _, h, _ => by cases h
  | _ :: _, [], h, _ => by cases h
  | v :: vs, u :: us, h, k => .cons (k 0 v u rfl rfl) (vals_of vs us (Nat.succ.inj h) fun j v' u' h1 h2 => k (j + 1) v' u' h1 h2)
/-! ### list(text) -/
def signsV (z : Str) : List V := z.cps.toList.map fun c => V.str ⟨#[c]⟩
theorem call_list_text {X : Cx} (hc : X.calm = true) : CallR X (.type "list") (fun xs H Q => ∃ z : Str, xs = [.str z] ∧ z.length ≤ sizeLine ∧ ∀ l, H l = none → Q (.ref l) (upd H l (.lst (signsV z)))) := by
  intro pins s σ H xs us Q I r h
  obtain ⟨z, rfl, hz, q⟩ := h
  obtain ⟨u, rfl, t, rfl⟩ := vals1 r
  have hz' : z.cps.size ≤ sizeLine := hz
  refine call_list_str (I.ok.hd hc) z t (hn := hz) fun h' tk acc' c' hk hS hacc => ?_
  have vals : Vals (signsV z) acc'.toList := by
    refine vals_of _ _ (by unfold signsV; simp [hacc.1]) fun j v u h1 h2 => ?_
    obtain ⟨c, t', hc', rfl⟩ := hacc.2 j u (by simpa using h2)
    unfold signsV at h1
    rw [List.getElem?_map] at h1
    rw [show z.cps.toList[j]? = some c by simpa using hc'] at h1
    cases h1
    exact ⟨_, rfl⟩
  exact ⟨.ref s.heap.objs.size, _, I.laid (t' := tk) hk (Nat.le_refl _) (show ObjOk X.prog X.w _ h' _ (.lst (signsV z)) from ⟨by unfold signsV; simpa using hz', acc'.toList, c', vals, by simpa using hS⟩), rfl, q _ (I.hok.fresh (Nat.le_refl _))⟩

/-- text * number -/
theorem op_mul_str {X : Cx} : OpR X (binaryOp .Mult) (fun x y H Q => ∃ z n, x = .str z ∧ y = .int n ∧ MulOk z n ∧ Q (.str (Txt.mul z n)) H) := by
  intro pins s σ H x y v u Q I rx ry h
  obtain ⟨z, n, rfl, rfl, hok, q⟩ := h
  obtain ⟨t, rfl⟩ := rx
  obtain ⟨t', rfl⟩ := ry
  exact SB.mul hok fun t' k => ⟨.str _, H, I.tok k, ⟨_, rfl⟩, q⟩
/-! ### heaps -/
theorem same_upd {H : Hp} {p : Addr} {o : HO} (h : H p = none) : Same H (upd H p o) := fun b u q => by rw [upd_ne (ne_of_none q h)]; exact q
/-- all but what stands at a is as it was -/
def Keep (a : Addr) (H H' : Hp) : Prop := ∀ b o, H b = some o → b ≠ a → H' b = some o
theorem Keep.refl (a : Addr) (H : Hp) : Keep a H H := fun _ _ h _ => h
theorem Keep.trans {a : Addr} {H H1 H2 : Hp} (x : Keep a H H1) (y : Keep a H1 H2) : Keep a H H2 := fun b o h n => y b o (x b o h n) n
theorem Keep.same {a : Addr} {H H' : Hp} (x : Same H H') : Keep a H H' := fun b o h _ => x b o h
theorem Keep.new {a p : Addr} {H : Hp} {o : HO} (h : H p = none) : Keep a H (upd H p o) := Keep.same (same_upd h)
theorem Keep.store {a : Addr} {H : Hp} {o : HO} : Keep a H (upd H a o) := fun b u q n => by rw [upd_ne n]; exact q
/-- tuples stay, lists stay lists -/
structure Pers (H H' : Hp) : Prop where
  tup : ∀ b xs, H b = some (.tup xs) → H' b = some (.tup xs)
  lst : ∀ b xs, H b = some (.lst xs) → ∃ ys, H' b = some (.lst ys)
theorem Pers.refl (H : Hp) : Pers H H := ⟨fun _ _ h => h, fun _ xs h => ⟨xs, h⟩⟩
theorem Pers.trans {H H1 H2 : Hp} (x : Pers H H1) (y : Pers H1 H2) : Pers H H2 := ⟨fun b xs h => y.tup b xs (x.tup b xs h), fun b xs h => by
  obtain ⟨ys, h1⟩ := x.lst b xs h
  exact y.lst b ys h1⟩
theorem Pers.same {H H' : Hp} (x : Same H H') : Pers H H' := ⟨fun b xs h => x b _ h, fun b xs h => ⟨xs, x b _ h⟩⟩
theorem Pers.new {p : Addr} {H : Hp} {o : HO} (h : H p = none) : Pers H (upd H p o) := Pers.same (same_upd h)
theorem Pers.store {a : Addr} {H : Hp} {xs ys : List V} (h : H a = some (.lst xs)) : Pers H (upd H a (.lst ys)) := ⟨fun b zs q => by
  have n : b ≠ a := fun e => by
    rw [e, h] at q
    cases q
  rw [upd_ne n]
  exact q, fun b zs q => by
  by_cases n : b = a
  · subst n
    exact ⟨ys, upd_same⟩
  · rw [upd_ne n]
    exact ⟨zs, q⟩⟩
/-! ### the stream of draws -/
def StrmW (H : Hp) (a l : Addr) (c k : Int) (ns : List Int) : Prop := H a = some (.lst [.ref l, .int c, .int k]) ∧ H l = some (.lst (ns.map V.int)) ∧ l ≠ a ∧ 0 ≤ k
def Strm (H : Hp) (a : Addr) : Prop := ∃ l c k ns, StrmW H a l c k ns
/-- what a call that draws leaves: all but the stream as it was -/
structure Go (a : Addr) (H H' : Hp) : Prop where
  keep : Keep a H H'
  st0 : Strm H a
  mv : ∀ l c k ns, StrmW H a l c k ns → ∃ c' k' ns', StrmW H' a l c' k' ns'
theorem Go.st {a : Addr} {H H' : Hp} (g : Go a H H') : Strm H' a := by
  obtain ⟨l, c, k, ns, h⟩ := g.st0
  obtain ⟨c', k', ns', h'⟩ := g.mv l c k ns h
  exact ⟨l, c', k', ns', h'⟩
theorem Go.refl {a : Addr} {H : Hp} (h : Strm H a) : Go a H H := ⟨Keep.refl a H, h, fun l c k ns h => ⟨c, k, ns, h⟩⟩
theorem Go.trans {a : Addr} {H H1 H2 : Hp} (x : Go a H H1) (y : Go a H1 H2) : Go a H H2 := ⟨x.keep.trans y.keep, x.st0, fun l c k ns h => by
  obtain ⟨c', k', ns', h'⟩ := x.mv l c k ns h
  exact y.mv l c' k' ns' h'⟩
theorem StrmW.same {a l : Addr} {c k : Int} {ns : List Int} {H H' : Hp} (h : StrmW H a l c k ns) (s : Same H H') : StrmW H' a l c k ns := ⟨s _ _ h.1, s _ _ h.2.1, h.2.2.1, h.2.2.2⟩
theorem Strm.same {a : Addr} {H H' : Hp} (h : Strm H a) (s : Same H H') : Strm H' a := by
  obtain ⟨l, c, k, ns, h⟩ := h
  exact ⟨l, c, k, ns, h.same s⟩
theorem Go.same {a : Addr} {H H' : Hp} (h : Strm H a) (s : Same H H') : Go a H H' := ⟨Keep.same s, h, fun l c k ns w => ⟨c, k, ns, w.same s⟩⟩
theorem Go.new {a p : Addr} {H : Hp} {o : HO} (h : Strm H a) (n : H p = none) : Go a H (upd H p o) := Go.same h (same_upd n)
/-- a store to what is new since H -/
theorem Go.loc {a p : Addr} {H H' : Hp} {o : HO} (g : Go a H H') (n : H p = none) : Go a H (upd H' p o) := ⟨fun b u hb hn => by
  rw [upd_ne (ne_of_none hb n)]
  exact g.keep b u hb hn, g.st0, fun l c k ns h => by
  obtain ⟨c', k', ns', h1, h2, h3, h4⟩ := g.mv l c k ns h
  exact ⟨c', k', ns', by rw [upd_ne (ne_of_none h.1 n)]; exact h1, by rw [upd_ne (ne_of_none h.2.1 n)]; exact h2, h3, h4⟩⟩
theorem Strm.isl {a : Addr} {H : Hp} (h : Strm H a) : ∃ xs, H a = some (.lst xs) := by
  obtain ⟨l, c, k, ns, h1, h2⟩ := h
  exact ⟨_, h1⟩
theorem Go.pers {a : Addr} {H H' : Hp} (g : Go a H H') : Pers H H' := by
  obtain ⟨xs, h1⟩ := g.st0.isl
  obtain ⟨ys, h2⟩ := g.st.isl
  refine ⟨fun b zs q => g.keep b _ q fun e => ?_, fun b zs q => ?_⟩
  · rw [e, h1] at q
    cases q
  · by_cases n : b = a
    · subst n
      exact ⟨ys, h2⟩
    · exact ⟨zs, g.keep b _ q n⟩
theorem Strm.ne {a p : Addr} {H : Hp} (h : Strm H a) (n : H p = none) : a ≠ p := by
  obtain ⟨xs, h1⟩ := h.isl
  exact ne_of_none h1 n
theorem Strm.neT {a p : Addr} {H : Hp} {xs : List V} (h : Strm H a) (n : H p = some (.tup xs)) : p ≠ a := fun e => by
  obtain ⟨ys, h1⟩ := h.isl
  rw [e, h1] at n
  cases n
/-! ### two lists, item by item -/
inductive Two {α β : Type} (R : α → β → Prop) : List α → List β → Prop where
  | nil : Two R [] []
  | cons {a : α} {b : β} {as : List α} {bs : List β} (h : R a b) (t : Two R as bs) : Two R (a :: as) (b :: bs)
theorem Two.len {α β : Type} {R : α → β → Prop} {as : List α} {bs : List β} (h : Two R as bs) : as.length = bs.length := by
  induction h with
  | nil => rfl
  | cons _ _ ih => rw [List.length_cons, List.length_cons, ih]
theorem Two.mono {α β : Type} {R S : α → β → Prop} (k : ∀ a b, R a b → S a b) {as : List α} {bs : List β} (h : Two R as bs) : Two S as bs := by
  induction h with
  | nil => exact .nil
  | cons h _ ih => exact .cons (k _ _ h) ih
theorem Two.monoM {α β : Type} {R S : α → β → Prop} {as : List α} {bs : List β} (h : Two R as bs) (k : ∀ a b, a ∈ as → b ∈ bs → R a b → S a b) : Two S as bs := by
  induction h with
  | nil => exact .nil
  | cons h _ ih => exact .cons (k _ _ (List.mem_cons_self ..) (List.mem_cons_self ..) h) (ih fun a b ha hb => k a b (List.mem_cons_of_mem _ ha) (List.mem_cons_of_mem _ hb))
theorem Two.app {α β : Type} {R : α → β → Prop} {as as' : List α} {bs bs' : List β} (h : Two R as bs) (h' : Two R as' bs') : Two R (as ++ as') (bs ++ bs') := by
  induction h with
  | nil => exact h'
  | cons h _ ih => exact .cons h ih
theorem Two.get {α β : Type} {R : α → β → Prop} {as : List α} {bs : List β} (h : Two R as bs) : ∀ {i : Nat} {a : α}, as[i]? = some a → ∃ b, bs[i]? = some b ∧ R a b := by
  induction h with
  | nil => intro i a h; simp at h
  | cons h _ ih =>
    intro i a e
    cases i with
    | zero => cases e; exact ⟨_, rfl, h⟩
    | succ i => exact ih e
theorem Two.get2 {α β : Type} {R : α → β → Prop} {as : List α} {bs : List β} (h : Two R as bs) {i : Nat} {a : α} {b : β} (ha : as[i]? = some a) (hb : bs[i]? = some b) : R a b := by
  obtain ⟨b', h1, h2⟩ := h.get ha
  rw [h1] at hb
  cases hb
  exact h2
theorem Two.of_get {α β : Type} {R : α → β → Prop} : ∀ {as : List α} {bs : List β}, as.length = bs.length → (∀ (i : Nat) (a : α) (b : β), as[i]? = some a → bs[i]? = some b → R a b) → Two R as bs
  | [], [], _, _ => .nil
  | [], _ :: _, h, _ => by cases h
  | _ :: _, [], h, _ => by cases h
  | a :: as, b :: bs, h, k => .cons (k 0 a b rfl rfl) (Two.of_get (Nat.succ.inj h) fun i a' b' h1 h2 => k (i + 1) a' b' h1 h2)
theorem Two.unsnoc {α β : Type} {R : α → β → Prop} {as : List α} {bs : List β} {b : β} (h : Two R as (bs ++ [b])) : ∃ as' a, as = as' ++ [a] ∧ Two R as' bs ∧ R a b := by
  induction bs generalizing as with
  | nil =>
    cases h with
    | cons h t =>
      cases t
      exact ⟨[], _, rfl, .nil, h⟩
  | cons c bs ih =>
    cases h with
    | cons h t =>
      obtain ⟨as', a, rfl, h1, h2⟩ := ih t
      exact ⟨_ :: as', a, rfl, .cons h h1, h2⟩
theorem Two.map_right {α β γ : Type} {R : α → γ → Prop} {f : β → γ} {as : List α} {bs : List β} (h : Two (fun a b => R a (f b)) as bs) : Two R as (bs.map f) := by
  induction h with
  | nil => exact .nil
  | cons h _ ih => exact .cons h ih
/-! ### data: what stands at a value -/
inductive D where
  | str (z : Str)
  | tup (ds : List D)
  | lst
  | flat
inductive Rep (H : Hp) : V → D → Prop where
  | str {z : Str} (h : z.length ≤ 1000) : Rep H (.str z) (.str z)
  | tup {p : Addr} {xs : List V} {ds : List D} (h : H p = some (.tup xs)) (z : xs.length ≤ 100000) (l : xs.length = ds.length) (k : ∀ (i : Nat) (x : V) (d : D), xs[i]? = some x → ds[i]? = some d → Rep H x d) : Rep H (.ref p) (.tup ds)
  | lst {p : Addr} {xs : List V} (h : H p = some (.lst xs)) : Rep H (.ref p) .lst
  | non : Rep H .non .flat
  | bl (b : Bool) : Rep H (.bl b) .flat
  | int (i : Int) : Rep H (.int i) .flat
theorem Rep.tup2 {H : Hp} {p : Addr} {xs : List V} {ds : List D} (h : H p = some (.tup xs)) (z : xs.length ≤ 100000) (k : Two (Rep H) xs ds) : Rep H (.ref p) (.tup ds) := .tup h z k.len fun _ _ _ h1 h2 => k.get2 h1 h2
theorem Rep.pers {H H' : Hp} (k : Pers H H') {v : V} {d : D} (h : Rep H v d) : Rep H' v d := by
  induction h with
  | str h => exact .str h
  | tup h z l _ ih => exact .tup (k.tup _ _ h) z l ih
  | lst h =>
    obtain ⟨ys, h1⟩ := k.lst _ _ h
    exact .lst h1
  | non => exact .non
  | bl b => exact .bl b
  | int i => exact .int i
theorem Rep.pers2 {H H' : Hp} (k : Pers H H') {vs : List V} {ds : List D} (h : Two (Rep H) vs ds) : Two (Rep H') vs ds := h.mono fun _ _ => Rep.pers k
theorem Rep.untup {H : Hp} {v : V} {ds : List D} (h : Rep H v (.tup ds)) : ∃ p xs, v = .ref p ∧ H p = some (.tup xs) ∧ xs.length ≤ 100000 ∧ Two (Rep H) xs ds := by
  cases h with
  | tup h z l k => exact ⟨_, _, rfl, h, z, Two.of_get l k⟩
def isStr : D → Bool | .str _ => true | _ => false
def isTup : D → Bool | .tup _ => true | _ => false
/-- its type, for isinstance -/
theorem Rep.ty {K : PySem.W.Frag} {H : Hp} {v : V} {d : D} (h : Rep H v d) : ∃ t : String, TyX K H v (.type t) ∧ PySem.W.kitOne K (.type t) (.type "str") = some (isStr d) ∧ PySem.W.kitOne K (.type t) (.type "tuple") = some (isTup d) := by
  cases h with
  | str h => exact ⟨"str", .base (.str _), kit_ty (r := true) (by decide +kernel), kit_ty (r := false) (by decide +kernel)⟩
  | tup h _ _ _ => exact ⟨"tuple", .base (.tup h), kit_ty (r := false) (by decide +kernel), kit_ty (r := true) (by decide +kernel)⟩
  | lst h => exact ⟨"list", .base (.lst h), kit_ty (r := false) (by decide +kernel), kit_ty (r := false) (by decide +kernel)⟩
  | non => exact ⟨"NoneType", .base .non, kit_ty (r := false) (by decide +kernel), kit_ty (r := false) (by decide +kernel)⟩
  | bl b => exact ⟨"bool", .base (.bl _), kit_ty (r := false) (by decide +kernel), kit_ty (r := false) (by decide +kernel)⟩
  | int i => exact ⟨"int", .base (.int _), kit_ty (r := false) (by decide +kernel), kit_ty (r := false) (by decide +kernel)⟩
/-! ### short words for readings -/
theorem vstr {a b : Str} (h : decide (V.str a = V.str b) = true) : a = b := by
  have e := of_decide_eq_true h
  cases e
  rfl
theorem vstrN {a b : Str} (h : ¬ decide (V.str a = V.str b) = true) : ¬ a = b := fun e => h (decide_eq_true (congrArg V.str e))
theorem tyes {σ : L2.St} {H : Hp} {A B : Hp → Prop} (h : A H) : tYes σ H (fun b H3 => if b = true then A H3 else B H3) := by
  show (if true = true then A H else B H)
  rw [if_pos rfl]
  exact h
theorem at_zero {x : V} {xs : List V} : atI (x :: xs) 0 = some x := at_of (j := 0) rfl rfl
theorem at_one {x y : V} {xs : List V} : atI (x :: y :: xs) 1 = some y := at_of (j := 1) rfl rfl
theorem or2 {a b : Prop} {A B : Prop} [Decidable a] [Decidable b] (h1 : a ∨ b → A) (h2 : ¬ (a ∨ b) → B) : if a then A else if b then A else B := by
  by_cases c : a
  · rw [if_pos c]
    exact h1 (.inl c)
  · rw [if_neg c]
    by_cases d : b
    · rw [if_pos d]
      exact h1 (.inr d)
    · rw [if_neg d]
      exact h2 fun z => z.elim c d
theorem lc_str {z : Str} {g : TG} {tt : TT} {te : TE} {vs : List Nat} {σ : L2.St} {H1 : Hp} {D : Addr} {Qd : Hp → Prop} (Pv : Nat → Hp → Prop) (h0 : Pv 0 (upd H1 D (.lst [])))
    (hs : ∀ i c H, z.cps[i]? = some c → Pv i H → g (.str ⟨#[c]⟩) (wipe σ vs) H fun σ2 H2 => wipe σ2 vs = wipe σ vs ∧ tt σ2 H2 fun b H3 =>
      if b = true then te σ2 H3 fun y H4 => ∃ acc, H4 D = some (.lst acc) ∧ acc.length < sizeLine ∧ Pv (i + 1) (upd H4 D (.lst (acc ++ [y]))) else Pv (i + 1) H3) (hd : ∀ H, Pv z.cps.size H → Qd H) :
    ∃ W : Nat → Nat → Hp → Prop, (∃ m, W 0 m (upd H1 D (.lst []))) ∧ ∀ i m H, W i m H →
      ((Its z).stop i H ∧ Qd H) ∨ ((Its z).go i H ∧ ∃ Nx : Hp → Prop, (∀ H', Nx H' → ∃ m', m' < m ∧ W (i + 1) m' H') ∧ ∀ x H', (Its z).yld i H x H' → g x (wipe σ vs) H' fun σ2 H2 => wipe σ2 vs = wipe σ vs ∧ tt σ2 H2 fun b H3 =>
        if b = true then te σ2 H3 fun y H4 => ∃ acc, H4 D = some (.lst acc) ∧ acc.length < sizeLine ∧ Nx (upd H4 D (.lst (acc ++ [y]))) else Nx H3) := by
  refine ⟨fun i m H => m = z.cps.size - i ∧ i ≤ z.cps.size ∧ Pv i H, ⟨z.cps.size, by simp, Nat.zero_le _, h0⟩, ?_⟩
  rintro i m H ⟨rfl, hi, p⟩
  by_cases hlt : i < z.cps.size
  · refine .inr ⟨hlt, Pv (i + 1), fun H' p' => ⟨z.cps.size - (i + 1), by omega, rfl, hlt, p'⟩, fun x H' y => ?_⟩
    obtain ⟨rfl, c, hc, rfl⟩ := y
    exact hs i c _ hc p
  · have e : i = z.cps.size := by omega
    subst e
    exact .inl ⟨Nat.le_refl _, hd H p⟩
/-! ### plain data, for the law's own comparison -/
inductive J where
  | non
  | bl (b : Bool)
  | int (i : Int)
  | str (z : Str)
  | tup (js : List J)
  | lst (js : List J)
inductive RepJ (H : Hp) : V → J → Nat → Prop where
  | non {n : Nat} : RepJ H .non .non n
  | bl {n : Nat} (b : Bool) : RepJ H (.bl b) (.bl b) n
  | int {n : Nat} (i : Int) : RepJ H (.int i) (.int i) n
  | str {n : Nat} (z : Str) : RepJ H (.str z) (.str z) n
  | tup {n : Nat} {p : Addr} {xs : List V} {js : List J} (h : H p = some (.tup xs)) (z : xs.length ≤ 100000) (l : xs.length = js.length) (k : ∀ (i : Nat) (x : V) (j : J), xs[i]? = some x → js[i]? = some j → RepJ H x j n) : RepJ H (.ref p) (.tup js) (n + 1)
  | lst {n : Nat} {p : Addr} {xs : List V} {js : List J} (h : H p = some (.lst xs)) (z : xs.length ≤ 100000) (l : xs.length = js.length) (k : ∀ (i : Nat) (x : V) (j : J), xs[i]? = some x → js[i]? = some j → RepJ H x j n) : RepJ H (.ref p) (.lst js) (n + 1)
theorem RepJ.same {H H' : Hp} (s : Same H H') {v : V} {j : J} {n : Nat} (h : RepJ H v j n) : RepJ H' v j n := by
  induction h with
  | non => exact .non
  | bl b => exact .bl b
  | int i => exact .int i
  | str z => exact .str z
  | tup h z l _ ih => exact .tup (s _ _ h) z l ih
  | lst h z l _ ih => exact .lst (s _ _ h) z l ih
/-! ### the promises of the draws -/
def spStream (K : PySem.W.Frag) : Sp := fun vs H Q _ => ∃ (s : Addr) (ns : List Int), vs = [.ref s] ∧ SqL K H s (ns.map V.int) ∧ ns.length ≤ 63 ∧ ∀ a H', Same H H' → H a = none → Strm H' a → Q (.ref a) H'
def spNext : Sp := fun vs H Q _ => ∃ (a : Addr) (m : Int), vs = [.ref a, .int m] ∧ Strm H a ∧ 0 < m ∧ m < 1000000 ∧ ∀ d H', 0 ≤ d → d < m → Go a H H' → Q (.int d) H'
def spPick (K : PySem.W.Frag) : Sp := fun vs H Q _ => ∃ (a r : Addr) (xs : List V), vs = [.ref a, .ref r] ∧ Strm H a ∧ SqL K H r xs ∧ r ≠ a ∧ 0 < xs.length ∧ xs.length < 1000 ∧ ∀ v H', v ∈ xs → Go a H H' → Q v H'
theorem Go.seq {K : PySem.W.Frag} {a r : Addr} {H H' : Hp} {xs : List V} (g : Go a H H') (n : r ≠ a) (h : SqL K H r xs) : SqL K H' r xs := by
  rcases h with (h | ⟨o, h⟩) | h
  · exact .inl (.inl (g.keep _ _ h n))
  · exact .inl (.inr ⟨o, g.keep _ _ h n⟩)
  · exact .inr h
end My
namespace My
open PySem PySem.Spec PyProof.Rows L2
/-! ### letters and words -/
def isLet (z : Str) : Bool := match z.cps.toList with | [c] => decide (97 ≤ c) && decide (c ≤ 100) | _ => false
abbrev sJoin : Str := "join"
abbrev sOr : Str := "or"
abbrev sMaybe : Str := "maybe"
abbrev sMany : Str := "many"
abbrev sNo : Str := ""
theorem jo : ¬ sJoin = sOr := by decide +kernel
theorem jm : ¬ sJoin = sMaybe := by decide +kernel
theorem jn : ¬ sJoin = sMany := by decide +kernel
theorem je : ¬ sJoin = sNo := by decide +kernel
theorem om : ¬ sOr = sMaybe := by decide +kernel
theorem on : ¬ sOr = sMany := by decide +kernel
theorem oe : ¬ sOr = sNo := by decide +kernel
theorem mn : ¬ sMaybe = sMany := by decide +kernel
theorem lJ : sJoin.length = 4 := by decide +kernel
theorem lO : sOr.length = 2 := by decide +kernel
theorem lM : sMaybe.length = 5 := by decide +kernel
theorem lN : sMany.length = 4 := by decide +kernel
theorem lE : sNo.length = 0 := by decide +kernel
/-! ### the parts directly in a datum -/
def begins (w : Str) : D → Bool
  | .tup (.str x :: _) => decide (x = w)
  | _ => false
def rowOk (w : Str) : D → Bool
  | .tup ys => decide (2 ≤ ys.length) && !(ys.any (begins w))
  | _ => false
def rowItems : D → Option (List D)
  | .tup ys => some ys
  | _ => none
def innerPair (w : Str) (y : D) : Option (List D) := if w = sMaybe ∨ w = sMany then some [y] else if (w = sJoin ∨ w = sOr) ∧ rowOk w y = true then rowItems y else none
def inner : D → Option (List D)
  | .str z => if z = sNo ∨ isLet z = true then some [] else none
  | .tup [.str w, y] => innerPair w y
  | _ => none
theorem inner_pair (w : Str) (y : D) : inner (.tup [.str w, y]) = innerPair w y := rfl
/-- a part of a row does not begin with an object -/
def notObj : D → Bool
  | .tup _ => false
  | .lst => false
  | _ => true
def headFlat : D → Bool
  | .tup (x :: _) => notObj x
  | _ => true
def rowFlat : D → Bool
  | .tup ys => ys.all headFlat
  | _ => true
/-- what the looks at a datum ask: items of a row of parts begin flat -/
inductive Fl : D → Prop where
  | str (z : Str) : Fl (.str z)
  | tup {ds : List D} (h : ∀ w y, ds = [.str w, y] → w = sJoin ∨ w = sOr → rowFlat y = true) (k : ∀ d ∈ ds, Fl d) : Fl (.tup ds)
  | lst : Fl .lst
  | flat : Fl .flat
/-! ### sizes, for the loop's measure -/
def D.size : D → Nat
  | .str _ => 1
  | .tup ds => 1 + sizes ds
  | .lst => 1
  | .flat => 1
where sizes : List D → Nat
  | [] => 0
  | d :: ds => d.size + sizes ds
def places1 : D → Nat
  | .str z => z.length
  | _ => 0
abbrev Bnd := Nat × Nat × Nat
def within (b a : Bnd) : Bool := decide (a.1 ≤ b.1) && decide (a.2.1 ≤ b.2.1) && decide (a.2.2 ≤ b.2.2)
/-- the loop: n turns at most; the stack's last is looked at first -/
def look (b : Bnd) : Nat → List (D × Nat) → Bnd → Option Bnd
  | 0, _, _ => none
  | _ + 1, [], a => some a
  | n + 1, (d, k) :: st, a => match inner d with
    | none => none
    | some ys =>
      if within b (a.1 + places1 d, max a.2.1 k, a.2.2 + ys.length) = true then look b n ((ys.map fun y => (y, k + 1)).reverse ++ st) (a.1 + places1 d, max a.2.1 k, a.2.2 + ys.length) else none
def msr (st : List (D × Nat)) : Nat := (st.map fun p => p.1.size).sum
theorem sizes_eq (ds : List D) : D.size.sizes ds = (ds.map D.size).sum := by
  induction ds with
  | nil => rfl
  | cons d ds ih => rw [D.size.sizes, ih, List.map_cons, List.sum_cons]
theorem size_pos (d : D) : 0 < d.size := by
  cases d <;> (unfold D.size; omega)
theorem inner_size {d : D} {ys : List D} (h : inner d = some ys) : (ys.map D.size).sum < d.size := by
  unfold inner at h
  split at h
  · split at h
    · cases h
      exact size_pos _
    · cases h
  · rename_i w y
    unfold innerPair at h
    split at h
    · cases h
      simp only [D.size, D.size.sizes, List.map_cons, List.map_nil, List.sum_cons, List.sum_nil]
      omega
    · split at h
      · cases y with
        | tup zs =>
          cases h
          simp only [D.size, D.size.sizes, sizes_eq]
          omega
        | str z => cases h
        | lst => cases h
        | flat => cases h
      · cases h
  · cases h
theorem msr_step {d : D} {k : Nat} {st : List (D × Nat)} {ys : List D} (h : inner d = some ys) : msr ((ys.map fun y => (y, k + 1)).reverse ++ st) < msr ((d, k) :: st) := by
  unfold msr
  rw [List.map_append, List.sum_append, List.map_reverse, List.sum_reverse, List.map_map, List.map_cons, List.sum_cons]
  have e : ((fun p : D × Nat => p.1.size) ∘ fun y => (y, k + 1)) = D.size := rfl
  rw [e]
  have := inner_size h
  show _ < d.size + _
  omega

/-! ### expressions -/
inductive E where
  | eps
  | sym (c : Nat)
  | maybe (e : E)
  | many (e : E)
  | join (es : List E)
  | alt (es : List E)
def E.toD : E → D
  | .eps => .str sNo
  | .sym c => .str ⟨#[c]⟩
  | .maybe e => .tup [.str sMaybe, e.toD]
  | .many e => .tup [.str sMany, e.toD]
  | .join es => .tup [.str sJoin, .tup (toDs es)]
  | .alt es => .tup [.str sOr, .tup (toDs es)]
where toDs : List E → List D
  | [] => []
  | e :: es => e.toD :: toDs es
theorem toDs_eq (es : List E) : E.toD.toDs es = es.map E.toD := by
  induction es with
  | nil => rfl
  | cons e es ih => rw [E.toD.toDs, ih, List.map_cons]
def isJoin : E → Bool | .join _ => true | _ => false
def isAlt : E → Bool | .alt _ => true | _ => false
def E.ok : E → Bool
  | .eps => true
  | .sym c => decide (97 ≤ c) && decide (c ≤ 100)
  | .maybe e => e.ok
  | .many e => e.ok
  | .join es => decide (2 ≤ es.length) && oks es && !(es.any isJoin)
  | .alt es => decide (2 ≤ es.length) && oks es && !(es.any isAlt)
where oks : List E → Bool
  | [] => true
  | e :: es => e.ok && oks es
theorem oks_eq (es : List E) : E.ok.oks es = es.all E.ok := by
  induction es with
  | nil => rfl
  | cons e es ih => rw [E.ok.oks, ih, List.all_cons]
def E.places : E → Nat
  | .eps => 0
  | .sym _ => 1
  | .maybe e => e.places
  | .many e => e.places
  | .join es => placess es
  | .alt es => placess es
where placess : List E → Nat
  | [] => 0
  | e :: es => e.places + placess es
def E.depth : E → Nat
  | .eps => 0
  | .sym _ => 0
  | .maybe e => e.depth + 1
  | .many e => e.depth + 1
  | .join es => depths es + 1
  | .alt es => depths es + 1
where depths : List E → Nat
  | [] => 0
  | e :: es => max e.depth (depths es)
def E.parts : E → Nat
  | .eps => 1
  | .sym _ => 1
  | .maybe e => e.parts + 1
  | .many e => e.parts + 1
  | .join es => partss es + 1
  | .alt es => partss es + 1
where partss : List E → Nat
  | [] => 0
  | e :: es => e.parts + partss es
theorem placess_eq (es : List E) : E.places.placess es = (es.map E.places).sum := by
  induction es with
  | nil => rfl
  | cons e es ih => rw [E.places.placess, ih, List.map_cons, List.sum_cons]
theorem partss_eq (es : List E) : E.parts.partss es = (es.map E.parts).sum := by
  induction es with
  | nil => rfl
  | cons e es ih => rw [E.parts.partss, ih, List.map_cons, List.sum_cons]
theorem depths_le {es : List E} {n : Nat} (h : ∀ e ∈ es, e.depth ≤ n) : E.depth.depths es ≤ n := by
  induction es with
  | nil => exact Nat.zero_le _
  | cons e es ih =>
    rw [E.depth.depths]
    exact Nat.max_le.mpr ⟨h e (List.mem_cons_self ..), ih fun x hx => h x (List.mem_cons_of_mem _ hx)⟩
/-- the expressions directly in one -/
def E.kids : E → List E
  | .eps => []
  | .sym _ => []
  | .maybe e => [e]
  | .many e => [e]
  | .join es => es
  | .alt es => es
def E.own : E → Nat
  | .sym _ => 1
  | _ => 0
theorem parts_kids (e : E) : e.parts = (e.kids.map E.parts).sum + 1 := by
  cases e <;> simp [E.parts, E.kids, partss_eq]
theorem places_kids (e : E) : e.places = e.own + (e.kids.map E.places).sum := by
  cases e <;> simp [E.places, E.kids, E.own, placess_eq]
theorem ok_kids {e : E} (h : e.ok = true) : ∀ k ∈ e.kids, k.ok = true := by
  intro k hk
  cases e with
  | eps => cases hk
  | sym c => cases hk
  | maybe e => rw [E.kids, List.mem_singleton] at hk; subst hk; rw [E.ok] at h; exact h
  | many e => rw [E.kids, List.mem_singleton] at hk; subst hk; rw [E.ok] at h; exact h
  | join es =>
    rw [E.ok, oks_eq] at h
    simp only [Bool.and_eq_true, List.all_eq_true] at h
    exact h.1.2 k hk
  | alt es =>
    rw [E.ok, oks_eq] at h
    simp only [Bool.and_eq_true, List.all_eq_true] at h
    exact h.1.2 k hk
theorem begins_tup (w x : Str) (ys : List D) : begins w (.tup (.str x :: ys)) = decide (x = w) := rfl
theorem begins_join (e : E) : begins sJoin e.toD = isJoin e := by
  cases e with
  | eps => rfl
  | sym c => rfl
  | maybe e => rw [E.toD, begins_tup]; exact decide_eq_false (fun h => jm h.symm)
  | many e => rw [E.toD, begins_tup]; exact decide_eq_false (fun h => jn h.symm)
  | join es => rw [E.toD, begins_tup]; exact decide_eq_true rfl
  | alt es => rw [E.toD, begins_tup]; exact decide_eq_false (fun h => jo h.symm)
theorem begins_or (e : E) : begins sOr e.toD = isAlt e := by
  cases e with
  | eps => rfl
  | sym c => rfl
  | maybe e => rw [E.toD, begins_tup]; exact decide_eq_false (fun h => om h.symm)
  | many e => rw [E.toD, begins_tup]; exact decide_eq_false (fun h => on h.symm)
  | join es => rw [E.toD, begins_tup]; exact decide_eq_false (fun h => jo h)
  | alt es => rw [E.toD, begins_tup]; exact decide_eq_true rfl
theorem rowOk_tup (w : Str) (ys : List D) : rowOk w (.tup ys) = (decide (2 ≤ ys.length) && !(ys.any (begins w))) := rfl
theorem inner_toD {e : E} (h : e.ok = true) : inner e.toD = some (e.kids.map E.toD) := by
  cases e with
  | eps => rw [E.toD, inner, if_pos (.inl rfl)]; rfl
  | sym c =>
    have q : isLet ⟨#[c]⟩ = true := by
      rw [E.ok] at h
      exact h
    rw [E.toD, inner, if_pos (.inr q)]; rfl
  | maybe e => rw [E.toD, inner_pair, innerPair, if_pos (.inl rfl)]; rfl
  | many e => rw [E.toD, inner_pair, innerPair, if_pos (.inr rfl)]; rfl
  | join es =>
    rw [E.ok, oks_eq] at h
    simp only [Bool.and_eq_true, decide_eq_true_eq] at h
    have r : rowOk sJoin (.tup (E.toD.toDs es)) = true := by
      rw [rowOk_tup, toDs_eq, List.length_map, List.any_map]
      have z : (begins sJoin ∘ E.toD) = isJoin := funext begins_join
      rw [z, h.2, Bool.and_true]
      exact decide_eq_true h.1.1
    rw [E.toD, inner_pair, innerPair, if_neg (fun z => z.elim jm jn), if_pos ⟨.inl rfl, r⟩, toDs_eq]; rfl
  | alt es =>
    rw [E.ok, oks_eq] at h
    simp only [Bool.and_eq_true, decide_eq_true_eq] at h
    have r : rowOk sOr (.tup (E.toD.toDs es)) = true := by
      rw [rowOk_tup, toDs_eq, List.length_map, List.any_map]
      have z : (begins sOr ∘ E.toD) = isAlt := funext begins_or
      rw [z, h.2, Bool.and_true]
      exact decide_eq_true h.1.1
    rw [E.toD, inner_pair, innerPair, if_neg (fun z => z.elim om on), if_pos ⟨.inr rfl, r⟩, toDs_eq]; rfl
theorem places1_toD (e : E) : places1 e.toD = e.own := by
  cases e <;> rw [E.toD] <;> first | rfl | exact lE
theorem depth_kids (e : E) : ∀ k ∈ e.kids, k.depth + 1 ≤ e.depth := by
  have a : ∀ (es : List E), ∀ k ∈ es, k.depth ≤ E.depth.depths es := by
    intro es
    induction es with
    | nil => intro k h; cases h
    | cons e es ih =>
      intro k h
      rw [E.depth.depths]
      rcases List.mem_cons.mp h with rfl | h
      · exact Nat.le_max_left _ _
      · exact Nat.le_trans (ih k h) (Nat.le_max_right _ _)
  intro k hk
  cases e with
  | eps => cases hk
  | sym c => cases hk
  | maybe e => rw [E.kids, List.mem_singleton] at hk; subst hk; rw [E.depth]; omega
  | many e => rw [E.kids, List.mem_singleton] at hk; subst hk; rw [E.depth]; omega
  | join es => have := a es k hk; rw [E.depth]; omega
  | alt es => have := a es k hk; rw [E.depth]; omega
theorem depth_by {e : E} {n : Nat} (h : ∀ k ∈ e.kids, k.depth + 1 ≤ n) : e.depth ≤ n ∨ (e.kids = [] ∧ e.depth = 0) ∨ e.depth = 1 := by
  cases e with
  | eps => exact .inr (.inl ⟨rfl, rfl⟩)
  | sym c => exact .inr (.inl ⟨rfl, rfl⟩)
  | maybe e => exact .inl (h e (List.mem_singleton.mpr rfl))
  | many e => exact .inl (h e (List.mem_singleton.mpr rfl))
  | join es =>
    cases es with
    | nil => exact .inr (.inr rfl)
    | cons x r =>
      refine .inl ?_
      rw [E.depth]
      cases n with
      | zero => have := h x (List.mem_cons_self ..); omega
      | succ n => exact Nat.succ_le_succ (depths_le fun k hk => Nat.le_of_succ_le_succ (h k hk))
  | alt es =>
    cases es with
    | nil => exact .inr (.inr rfl)
    | cons x r =>
      refine .inl ?_
      rw [E.depth]
      cases n with
      | zero => have := h x (List.mem_cons_self ..); omega
      | succ n => exact Nat.succ_le_succ (depths_le fun k hk => Nat.le_of_succ_le_succ (h k hk))
/-! ### what the look gives -/
abbrev Stk := List (E × Nat)
def sD (st : Stk) : List (D × Nat) := st.map fun p => (p.1.toD, p.2)
/-- the greatest depth on the stack, from m on -/
def deepE (st : Stk) (m : Nat) : Nat := st.foldr (fun p m => max (p.2 + p.1.depth) m) m
def totE (st : Stk) (a : Bnd) : Bnd := (a.1 + (st.map fun p => p.1.places).sum, deepE st a.2.1, a.2.2 + (st.map fun p => p.1.parts - 1).sum)
theorem deepE_app (s t : Stk) (m : Nat) : deepE (s ++ t) m = deepE s (deepE t m) := by
  unfold deepE
  rw [List.foldr_append]
theorem deepE_max (s : Stk) (m : Nat) : m ≤ deepE s m := by
  induction s with
  | nil => exact Nat.le_refl _
  | cons p s ih => exact Nat.le_trans ih (Nat.le_max_right _ _)
theorem deepE_le {s : Stk} {m n : Nat} : deepE s m ≤ n ↔ m ≤ n ∧ ∀ p ∈ s, p.2 + p.1.depth ≤ n := by
  induction s with
  | nil => exact ⟨fun h => ⟨h, fun p hp => by cases hp⟩, fun h => h.1⟩
  | cons p s ih =>
    show max (p.2 + p.1.depth) (deepE s m) ≤ n ↔ _
    rw [Nat.max_le, ih]
    constructor
    · rintro ⟨h1, h2, h3⟩
      refine ⟨h2, fun q hq => ?_⟩
      rcases List.mem_cons.mp hq with rfl | hq
      · exact h1
      · exact h3 q hq
    · rintro ⟨h1, h2⟩
      exact ⟨h2 p (List.mem_cons_self ..), h1, fun q hq => h2 q (List.mem_cons_of_mem _ hq)⟩
theorem within_iff {b a : Bnd} : within b a = true ↔ a.1 ≤ b.1 ∧ a.2.1 ≤ b.2.1 ∧ a.2.2 ≤ b.2.2 := by
  unfold within
  simp only [Bool.and_eq_true, decide_eq_true_eq, and_assoc]
theorem depth_parts (e : E) (k : Nat) (n : Nat) (h0 : k ≤ n) (h : ∀ q ∈ e.kids, k + 1 + q.depth ≤ n) (hk : e.kids = [] → e.depth = 0) : k + e.depth ≤ n := by
  rcases depth_by (e := e) (n := n - k) (fun q hq => by have := h q hq; omega) with a | ⟨_, a⟩ | a
  · omega
  · omega
  · cases e with
    | eps => have : E.depth E.eps = 0 := rfl; omega
    | sym c => have : E.depth (E.sym c) = 0 := rfl; omega
    | maybe e => have := h e (List.mem_singleton.mpr rfl); omega
    | many e => have := h e (List.mem_singleton.mpr rfl); omega
    | join es =>
      cases es with
      | nil => have := hk rfl; omega
      | cons x r => have := h x (List.mem_cons_self ..); omega
    | alt es =>
      cases es with
      | nil => have := hk rfl; omega
      | cons x r => have := h x (List.mem_cons_self ..); omega
theorem kids_nil {e : E} (h : e.ok = true) (k : e.kids = []) : e.depth = 0 := by
  cases e with
  | eps => rfl
  | sym c => rfl
  | maybe e => cases k
  | many e => cases k
  | join es =>
    rw [E.kids] at k
    subst k
    cases h
  | alt es =>
    rw [E.kids] at k
    subst k
    cases h
theorem parts_pos (e : E) : 1 ≤ e.parts := by
  rw [parts_kids]
  omega
theorem sum_pred (es : List E) : (es.map fun e => e.parts - 1).sum + es.length = (es.map E.parts).sum := by
  induction es with
  | nil => rfl
  | cons e es ih =>
    have := parts_pos e
    simp only [List.map_cons, List.sum_cons, List.length_cons]
    omega
/-- one look at an expression -/
theorem tot_step {b : Bnd} {e : E} {k : Nat} {st : Stk} {a : Bnd} (h : e.ok = true) :
    totE ((e.kids.map fun y => (y, k + 1)).reverse ++ st) (a.1 + e.own, max a.2.1 k, a.2.2 + e.kids.length) = totE ((e, k) :: st) a := by
  have hp := places_kids e
  have hq := parts_kids e
  have hs := sum_pred e.kids
  unfold totE
  refine Prod.ext ?_ (Prod.ext ?_ ?_)
  · show a.1 + e.own + _ = a.1 + _
    rw [List.map_append, List.sum_append, List.map_reverse, List.sum_reverse, List.map_map, List.map_cons, List.sum_cons]
    show a.1 + e.own + ((e.kids.map E.places).sum + _) = a.1 + (e.places + _)
    omega
  · show deepE _ (max a.2.1 k) = deepE ((e, k) :: st) a.2.1
    refine Nat.le_antisymm (deepE_le.mpr ⟨?_, ?_⟩) (deepE_le.mpr ⟨?_, ?_⟩)
    · refine Nat.max_le.mpr ⟨deepE_max _ _, ?_⟩
      exact Nat.le_trans (Nat.le_add_right _ _) ((deepE_le.mp (Nat.le_refl _)).2 (e, k) (List.mem_cons_self ..))
    · intro p hp
      rcases List.mem_append.mp hp with hp | hp
      · rw [List.mem_reverse, List.mem_map] at hp
        obtain ⟨y, hy, rfl⟩ := hp
        have := depth_kids e y hy
        have q := (deepE_le.mp (Nat.le_refl (deepE ((e, k) :: st) a.2.1))).2 (e, k) (List.mem_cons_self ..)
        show k + 1 + y.depth ≤ _
        have q' : k + e.depth ≤ deepE ((e, k) :: st) a.2.1 := q
        omega
      · exact (deepE_le.mp (Nat.le_refl (deepE ((e, k) :: st) a.2.1))).2 p (List.mem_cons_of_mem _ hp)
    · exact Nat.le_trans (Nat.le_max_left _ _) (deepE_max _ _)
    · intro p hp
      have L := (deepE_le.mp (Nat.le_refl (deepE ((e.kids.map fun y => (y, k + 1)).reverse ++ st) (max a.2.1 k))))
      rcases List.mem_cons.mp hp with rfl | hp
      · refine depth_parts e k _ (Nat.le_trans (Nat.le_max_right _ _) L.1) (fun q hq => ?_) (kids_nil h)
        exact L.2 (q, k + 1) (List.mem_append_left _ (List.mem_reverse.mpr (List.mem_map.mpr ⟨q, hq, rfl⟩)))
      · exact L.2 p (List.mem_append_right _ hp)
  · show a.2.2 + e.kids.length + _ = a.2.2 + _
    rw [List.map_append, List.sum_append, List.map_reverse, List.sum_reverse, List.map_map, List.map_cons, List.sum_cons]
    show a.2.2 + e.kids.length + ((e.kids.map fun e => e.parts - 1).sum + _) = a.2.2 + ((e.parts - 1) + _)
    omega
theorem tot_ge (st : Stk) (a : Bnd) : a.1 ≤ (totE st a).1 ∧ a.2.1 ≤ (totE st a).2.1 ∧ a.2.2 ≤ (totE st a).2.2 := ⟨Nat.le_add_right _ _, deepE_max _ _, Nat.le_add_right _ _⟩
theorem sD_step (e : E) (k : Nat) (st : Stk) : ((e.kids.map E.toD).map fun y => (y, k + 1)).reverse ++ sD st = sD ((e.kids.map fun y => (y, k + 1)).reverse ++ st) := by
  unfold sD
  rw [List.map_append, List.map_reverse, List.map_map, List.map_map]
  rfl
theorem look_ok {b : Bnd} : ∀ (n : Nat) (st : Stk) (a : Bnd), msr (sD st) < n → (∀ p ∈ st, p.1.ok = true) → within b a = true → look b n (sD st) a = if within b (totE st a) = true then some (totE st a) else none
  | 0, st, a, h, _, _ => absurd h (Nat.not_lt_zero _)
  | n + 1, [], a, _, _, hw => by
    have e : totE [] a = a := rfl
    rw [e, if_pos hw]
    rfl
  | n + 1, (e, k) :: st, a, hm, ho, hw => by
    have h := ho (e, k) (List.mem_cons_self ..)
    have hi := inner_toD h
    show (match inner e.toD with | none => none | some ys => if within b (a.1 + places1 e.toD, max a.2.1 k, a.2.2 + ys.length) = true then look b n ((ys.map fun y => (y, k + 1)).reverse ++ sD st) (a.1 + places1 e.toD, max a.2.1 k, a.2.2 + ys.length) else none) = _
    rw [hi]
    show (if within b (a.1 + places1 e.toD, max a.2.1 k, a.2.2 + (e.kids.map E.toD).length) = true then look b n (((e.kids.map E.toD).map fun y => (y, k + 1)).reverse ++ sD st) (a.1 + places1 e.toD, max a.2.1 k, a.2.2 + (e.kids.map E.toD).length) else none) = _
    rw [places1_toD, List.length_map, sD_step]
    have ts := tot_step (b := b) (k := k) (st := st) (a := a) h
    by_cases c : within b (a.1 + e.own, max a.2.1 k, a.2.2 + e.kids.length) = true
    · have m1 : msr (sD ((e.kids.map fun y => (y, k + 1)).reverse ++ st)) < n := by
        have := msr_step (k := k) (st := sD st) hi
        rw [sD_step] at this
        have hm' : msr ((e.toD, k) :: sD st) < n + 1 := hm
        exact Nat.lt_of_lt_of_le this (Nat.le_of_lt_succ hm')
      rw [if_pos c, look_ok n _ _ m1 (fun p hp => ?_) c, ts]
      rcases List.mem_append.mp hp with hp | hp
      · rw [List.mem_reverse, List.mem_map] at hp
        obtain ⟨y, hy, rfl⟩ := hp
        exact ok_kids h y hy
      · exact ho p (List.mem_cons_of_mem _ hp)
    · rw [if_neg c, if_neg]
      intro z
      rw [← ts] at z
      apply c
      have g := tot_ge ((e.kids.map fun y => (y, k + 1)).reverse ++ st) (a.1 + e.own, max a.2.1 k, a.2.2 + e.kids.length)
      rw [within_iff] at z ⊢
      exact ⟨Nat.le_trans g.1 z.1, Nat.le_trans g.2.1 z.2.1, Nat.le_trans g.2.2 z.2.2⟩
/-- something wrong within -/
inductive Bad : D → Prop where
  | here {d : D} (h : inner d = none) : Bad d
  | inn {d y : D} {ys : List D} (h : inner d = some ys) (m : y ∈ ys) (b : Bad y) : Bad d
theorem look_bad {b : Bnd} : ∀ (n : Nat) (st : List (D × Nat)) (a : Bnd), (∃ p ∈ st, Bad p.1) → look b n st a = none
  | 0, _, _, _ => rfl
  | n + 1, [], _, h => by
    obtain ⟨p, hp, _⟩ := h
    cases hp
  | n + 1, (d, k) :: st, a, h => by
    show (match inner d with | none => none | some ys => if within b (a.1 + places1 d, max a.2.1 k, a.2.2 + ys.length) = true then look b n ((ys.map fun y => (y, k + 1)).reverse ++ st) (a.1 + places1 d, max a.2.1 k, a.2.2 + ys.length) else none) = none
    cases hi : inner d with
    | none => rfl
    | some ys =>
      show (if within b (a.1 + places1 d, max a.2.1 k, a.2.2 + ys.length) = true then look b n ((ys.map fun y => (y, k + 1)).reverse ++ st) (a.1 + places1 d, max a.2.1 k, a.2.2 + ys.length) else none) = none
      split
      · refine look_bad n _ _ ?_
        obtain ⟨p, hp, hb⟩ := h
        rcases List.mem_cons.mp hp with rfl | hp
        · cases hb with
          | here z => rw [z] at hi; cases hi
          | inn z m hb =>
            rw [z] at hi
            cases hi
            exact ⟨(_, k + 1), List.mem_append_left _ (List.mem_reverse.mpr (List.mem_map.mpr ⟨_, m, rfl⟩)), hb⟩
        · exact ⟨p, List.mem_append_right _ hp, hb⟩
      · rfl
/-- what sizes_within gives of a datum -/
def sizesOf (b : Bnd) (d : D) : Option Bnd := look b (d.size + 1) [(d, 0)] (0, 0, 1)
theorem sizes_ok {b : Bnd} {e : E} (h : e.ok = true) (hb : 1 ≤ b.2.2) : sizesOf b e.toD = if within b (e.places, e.depth, e.parts) = true then some (e.places, e.depth, e.parts) else none := by
  have q := look_ok (b := b) (e.toD.size + 1) [(e, 0)] (0, 0, 1) (by show msr [(e.toD, 0)] < _; unfold msr; simp) (fun p hp => by rw [List.mem_singleton] at hp; subst hp; exact h) (within_iff.mpr ⟨Nat.zero_le _, Nat.zero_le _, hb⟩)
  have t : totE [(e, 0)] (0, 0, 1) = (e.places, e.depth, e.parts) := by
    have := parts_pos e
    refine Prod.ext ?_ (Prod.ext ?_ ?_)
    · show 0 + (e.places + 0) = e.places
      omega
    · show max (0 + e.depth) 0 = e.depth
      omega
    · show 1 + (e.parts - 1 + 0) = e.parts
      omega
  rw [t] at q
  exact q
theorem sizes_bad {b : Bnd} {d : D} (h : Bad d) : sizesOf b d = none := look_bad _ _ _ ⟨(d, 0), List.mem_singleton.mpr rfl, h⟩
theorem headFlat_toD (e : E) : headFlat e.toD = true := by
  cases e <;> rw [E.toD] <;> rfl
theorem rowFlat_toDs (es : List E) : rowFlat (.tup (E.toD.toDs es)) = true := by
  rw [toDs_eq]
  show (es.map E.toD).all headFlat = true
  rw [List.all_eq_true]
  intro d hd
  rw [List.mem_map] at hd
  obtain ⟨e, _, rfl⟩ := hd
  exact headFlat_toD e
theorem fl_pair {w : Str} {y : D} (h : w = sJoin ∨ w = sOr → rowFlat y = true) (k : Fl y) : Fl (.tup [.str w, y]) := by
  refine .tup (fun w' y' e => ?_) fun d hd => ?_
  · cases e
    exact h
  · rcases List.mem_cons.mp hd with rfl | hd
    · exact .str _
    · rw [List.mem_singleton] at hd
      subst hd
      exact k
theorem toD_str {e : E} {w : Str} (h : e.toD = .str w) : ¬ (w = sJoin ∨ w = sOr) := by
  cases e with
  | eps =>
    rw [E.toD] at h
    cases h
    rintro (h | h)
    · exact je h.symm
    · exact oe h.symm
  | sym c =>
    rw [E.toD] at h
    cases h
    rintro (h | h)
    · have := congrArg Str.length h
      rw [lJ] at this
      cases this
    · have := congrArg Str.length h
      rw [lO] at this
      cases this
  | maybe e => rw [E.toD] at h; cases h
  | many e => rw [E.toD] at h; cases h
  | join es => rw [E.toD] at h; cases h
  | alt es => rw [E.toD] at h; cases h
mutual
theorem fl_toD : ∀ e : E, Fl e.toD
  | .eps => .str _
  | .sym c => .str _
  | .maybe e => by
    rw [E.toD]
    exact fl_pair (fun h => (h.elim (fun h => jm h.symm) fun h => om h.symm).elim) (fl_toD e)
  | .many e => by
    rw [E.toD]
    exact fl_pair (fun h => (h.elim (fun h => jn h.symm) fun h => on h.symm).elim) (fl_toD e)
  | .join es => by
    rw [E.toD]
    exact fl_pair (fun _ => rowFlat_toDs es) (fl_toDs es)
  | .alt es => by
    rw [E.toD]
    exact fl_pair (fun _ => rowFlat_toDs es) (fl_toDs es)
theorem fl_toDs : ∀ es : List E, Fl (.tup (E.toD.toDs es))
  | [] => .tup (fun w y h => by cases h) fun d hd => by cases hd
  | e :: es => by
    have h := fl_toDs es
    have h0 := fl_toD e
    refine .tup (fun w y z hw => ?_) fun d hd => ?_
    · rw [E.toD.toDs] at z
      have z1 : e.toD = .str w := (List.cons.inj z).1
      exact absurd hw (toD_str z1)
    · rw [E.toD.toDs] at hd
      rcases List.mem_cons.mp hd with rfl | hd
      · exact h0
      · cases h with
        | tup _ k => exact k d hd
end
end My
namespace My
open PySem PySem.Spec PyProof.Rows L2
/-! ### which places come first, last, behind one another -/
structure Gl where
  nul : Bool
  fst : List Nat
  lst : List Nat
  fol : List (Nat × Nat)
def prodL (xs ys : List Nat) : List (Nat × Nat) := (xs.map fun i => ys.map fun j => (i, j)).flatten
theorem mem_prodL {xs ys : List Nat} {i j : Nat} : (i, j) ∈ prodL xs ys ↔ i ∈ xs ∧ j ∈ ys := by
  unfold prodL
  rw [List.mem_flatten]
  constructor
  · rintro ⟨l, hl, h⟩
    obtain ⟨a, ha, rfl⟩ := List.mem_map.mp hl
    obtain ⟨b, hb, e⟩ := List.mem_map.mp h
    cases e
    exact ⟨ha, hb⟩
  · rintro ⟨h1, h2⟩
    exact ⟨_, List.mem_map.mpr ⟨i, h1, rfl⟩, List.mem_map.mpr ⟨j, h2, rfl⟩⟩
def Gl.one : Gl := ⟨true, [], [], []⟩
def Gl.non : Gl := ⟨false, [], [], []⟩
def Gl.seq (a b : Gl) : Gl := ⟨a.nul && b.nul, a.fst ++ (if a.nul then b.fst else []), (if b.nul then a.lst else []) ++ b.lst, a.fol ++ (prodL a.lst b.fst ++ b.fol)⟩
def Gl.par (a b : Gl) : Gl := ⟨a.nul || b.nul, a.fst ++ b.fst, a.lst ++ b.lst, a.fol ++ b.fol⟩
def gl : E → Nat → Gl
  | .eps, _ => .one
  | .sym _, o => ⟨false, [o], [o], []⟩
  | .maybe e, o => ⟨true, (gl e o).fst, (gl e o).lst, (gl e o).fol⟩
  | .many e, o => ⟨true, (gl e o).fst, (gl e o).lst, (gl e o).fol ++ prodL (gl e o).lst (gl e o).fst⟩
  | .join es, o => glJ es o
  | .alt es, o => glA es o
where
  glJ : List E → Nat → Gl
    | [], _ => .one
    | e :: es, o => (gl e o).seq (glJ es (o + e.places))
  glA : List E → Nat → Gl
    | [], _ => .non
    | e :: es, o => (gl e o).par (glA es (o + e.places))
/-- the same but for the sequence of the pairs -/
structure Eqv (a b : Gl) : Prop where
  nul : a.nul = b.nul
  fst : a.fst = b.fst
  lst : a.lst = b.lst
  fol : ∀ x, x ∈ a.fol ↔ x ∈ b.fol
theorem Eqv.refl (a : Gl) : Eqv a a := ⟨rfl, rfl, rfl, fun _ => Iff.rfl⟩
theorem Eqv.trans {a b c : Gl} (x : Eqv a b) (y : Eqv b c) : Eqv a c := ⟨x.nul.trans y.nul, x.fst.trans y.fst, x.lst.trans y.lst, fun z => (x.fol z).trans (y.fol z)⟩
theorem Eqv.seq {a b c : Gl} (h : Eqv b c) : Eqv (a.seq b) (a.seq c) where
  nul := by unfold Gl.seq; rw [h.nul]
  fst := by unfold Gl.seq; rw [h.fst]
  lst := by unfold Gl.seq; rw [h.lst, h.nul]
  fol x := by
    unfold Gl.seq
    simp only [List.mem_append]
    rw [h.fst, h.fol]
theorem seq_one (a : Gl) : Eqv (a.seq .one) a where
  nul := Bool.and_true _
  fst := by show a.fst ++ (if a.nul = true then [] else []) = _; split <;> simp
  lst := by show (if true = true then a.lst else []) ++ [] = _; simp
  fol x := by
    show x ∈ a.fol ++ (prodL a.lst [] ++ []) ↔ _
    obtain ⟨i, j⟩ := x
    rw [List.mem_append, List.append_nil, mem_prodL]
    simp
theorem one_seq (a : Gl) : Eqv (Gl.one.seq a) a where
  nul := rfl
  fst := rfl
  lst := by show (if a.nul = true then [] else []) ++ a.lst = _; split <;> rfl
  fol x := Iff.rfl
theorem seq_assoc (a b c : Gl) : Eqv ((a.seq b).seq c) (a.seq (b.seq c)) where
  nul := Bool.and_assoc ..
  fst := by
    show (a.fst ++ (if a.nul = true then b.fst else [])) ++ (if (a.nul && b.nul) = true then c.fst else []) = a.fst ++ (if a.nul = true then b.fst ++ (if b.nul = true then c.fst else []) else [])
    cases a.nul <;> cases b.nul <;> simp
  lst := by
    show (if c.nul = true then (if b.nul = true then a.lst else []) ++ b.lst else []) ++ c.lst = (if (b.nul && c.nul) = true then a.lst else []) ++ ((if c.nul = true then b.lst else []) ++ c.lst)
    cases b.nul <;> cases c.nul <;> simp
  fol x := by
    obtain ⟨i, j⟩ := x
    unfold Gl.seq
    simp only [List.mem_append, mem_prodL]
    cases a.nul <;> cases b.nul <;> cases c.nul <;> simp <;> grind
theorem par_assoc (a b c : Gl) : (a.par b).par c = a.par (b.par c) := by
  unfold Gl.par
  simp [Bool.or_assoc, List.append_assoc]
theorem par_non (a : Gl) : a.par .non = a := by
  unfold Gl.par Gl.non
  simp
theorem non_par (a : Gl) : Gl.non.par a = a := by
  unfold Gl.par Gl.non
  simp
theorem sumP_cons (e : E) (es : List E) : ((e :: es).map E.places).sum = e.places + (es.map E.places).sum := by
  rw [List.map_cons, List.sum_cons]
theorem glJ_snoc (es : List E) (e : E) : ∀ o, Eqv (gl.glJ (es ++ [e]) o) ((gl.glJ es o).seq (gl e (o + (es.map E.places).sum))) := by
  induction es with
  | nil =>
    intro o
    show Eqv ((gl e o).seq Gl.one) (Gl.one.seq (gl e (o + 0)))
    rw [Nat.add_zero]
    refine (seq_one _).trans ?_
    have := one_seq (gl e o)
    exact ⟨this.nul.symm, this.fst.symm, this.lst.symm, fun x => (this.fol x).symm⟩
  | cons a es ih =>
    intro o
    show Eqv ((gl a o).seq (gl.glJ (es ++ [e]) (o + a.places))) (((gl a o).seq (gl.glJ es (o + a.places))).seq _)
    refine ((ih (o + a.places)).seq).trans ?_
    have h := seq_assoc (gl a o) (gl.glJ es (o + a.places)) (gl e (o + a.places + (es.map E.places).sum))
    rw [sumP_cons, ← Nat.add_assoc]
    exact ⟨h.nul.symm, h.fst.symm, h.lst.symm, fun x => (h.fol x).symm⟩
theorem glA_snoc (es : List E) (e : E) : ∀ o, gl.glA (es ++ [e]) o = (gl.glA es o).par (gl e (o + (es.map E.places).sum)) := by
  induction es with
  | nil =>
    intro o
    show (gl e o).par Gl.non = Gl.non.par (gl e (o + 0))
    rw [Nat.add_zero, par_non, non_par]
  | cons a es ih =>
    intro o
    show (gl a o).par (gl.glA (es ++ [e]) (o + a.places)) = ((gl a o).par (gl.glA es (o + a.places))).par _
    rw [ih, par_assoc, sumP_cons, ← Nat.add_assoc]
/-- all places that are told lie within the expression's own -/
structure Within (g : Gl) (o n : Nat) : Prop where
  fst : ∀ i ∈ g.fst, o ≤ i ∧ i < o + n
  lst : ∀ i ∈ g.lst, o ≤ i ∧ i < o + n
  fol : ∀ i j, (i, j) ∈ g.fol → (o ≤ i ∧ i < o + n) ∧ o ≤ j ∧ j < o + n
theorem Within.wide {g : Gl} {o n o' n' : Nat} (h : Within g o n) (h1 : o' ≤ o) (h2 : o + n ≤ o' + n') : Within g o' n' where
  fst i hi := by have := h.fst i hi; omega
  lst i hi := by have := h.lst i hi; omega
  fol i j hi := by have := h.fol i j hi; omega
theorem Within.seq {a b : Gl} {o n : Nat} (x : Within a o n) (y : Within b o n) : Within (a.seq b) o n where
  fst i hi := by
    rcases List.mem_append.mp hi with h | h
    · exact x.fst i h
    · split at h
      · exact y.fst i h
      · cases h
  lst i hi := by
    rcases List.mem_append.mp hi with h | h
    · split at h
      · exact x.lst i h
      · cases h
    · exact y.lst i h
  fol i j hi := by
    rcases List.mem_append.mp hi with h | h
    · exact x.fol i j h
    · rcases List.mem_append.mp h with h | h
      · have := mem_prodL.mp h
        exact ⟨x.lst i this.1, y.fst j this.2⟩
      · exact y.fol i j h
theorem Within.par {a b : Gl} {o n : Nat} (x : Within a o n) (y : Within b o n) : Within (a.par b) o n where
  fst i hi := (List.mem_append.mp hi).elim (x.fst i) (y.fst i)
  lst i hi := (List.mem_append.mp hi).elim (x.lst i) (y.lst i)
  fol i j hi := (List.mem_append.mp hi).elim (x.fol i j) (y.fol i j)
mutual
theorem gl_within : ∀ (e : E) (o : Nat), Within (gl e o) o e.places
  | .eps, o => ⟨(fun i h => by cases h), (fun i h => by cases h), (fun i j h => by cases h)⟩
  | .sym c, o => ⟨(fun i h => by rw [gl, List.mem_singleton] at h; rw [E.places]; omega), (fun i h => by rw [gl, List.mem_singleton] at h; rw [E.places]; omega), (fun i j h => by cases h)⟩
  | .maybe e, o => by
    have h := gl_within e o
    rw [gl, E.places]
    exact ⟨h.fst, h.lst, h.fol⟩
  | .many e, o => by
    have h := gl_within e o
    rw [gl, E.places]
    refine ⟨h.fst, h.lst, fun i j hi => ?_⟩
    rcases List.mem_append.mp hi with c | c
    · exact h.fol i j c
    · have := mem_prodL.mp c
      exact ⟨h.lst i this.1, h.fst j this.2⟩
  | .join es, o => by
    rw [gl, E.places]
    exact glJ_within es o
  | .alt es, o => by
    rw [gl, E.places]
    exact glA_within es o
theorem glJ_within : ∀ (es : List E) (o : Nat), Within (gl.glJ es o) o (E.places.placess es)
  | [], o => ⟨(fun i h => by cases h), (fun i h => by cases h), (fun i j h => by cases h)⟩
  | e :: es, o => by
    rw [gl.glJ, E.places.placess]
    exact ((gl_within e o).wide (Nat.le_refl _) (by omega)).seq ((glJ_within es (o + e.places)).wide (by omega) (by omega))
theorem glA_within : ∀ (es : List E) (o : Nat), Within (gl.glA es o) o (E.places.placess es)
  | [], o => ⟨(fun i h => by cases h), (fun i h => by cases h), (fun i j h => by cases h)⟩
  | e :: es, o => by
    rw [gl.glA, E.places.placess]
    exact ((gl_within e o).wide (Nat.le_refl _) (by omega)).par ((glA_within es (o + e.places)).wide (by omega) (by omega))
end
/-! ### the letters of the places -/
def E.letters : E → List Nat
  | .eps => []
  | .sym c => [c]
  | .maybe e => e.letters
  | .many e => e.letters
  | .join es => letterss es
  | .alt es => letterss es
where letterss : List E → List Nat
  | [] => []
  | e :: es => e.letters ++ letterss es
theorem letterss_snoc (es : List E) (e : E) : E.letters.letterss (es ++ [e]) = E.letters.letterss es ++ e.letters := by
  induction es with
  | nil => show e.letters ++ [] = [] ++ e.letters; simp
  | cons a es ih =>
    show a.letters ++ E.letters.letterss (es ++ [e]) = (a.letters ++ E.letters.letterss es) ++ e.letters
    rw [ih, List.append_assoc]
mutual
theorem letters_len : ∀ e : E, e.letters.length = e.places
  | .eps => rfl
  | .sym c => rfl
  | .maybe e => by rw [E.letters, E.places]; exact letters_len e
  | .many e => by rw [E.letters, E.places]; exact letters_len e
  | .join es => by rw [E.letters, E.places]; exact letterss_len es
  | .alt es => by rw [E.letters, E.places]; exact letterss_len es
theorem letterss_len : ∀ es : List E, (E.letters.letterss es).length = E.places.placess es
  | [] => rfl
  | e :: es => by rw [E.letters.letterss, E.places.placess, List.length_append, letters_len e, letterss_len es]
end
structure Short (g : Gl) (n : Nat) : Prop where
  fst : g.fst.length ≤ n
  lst : g.lst.length ≤ n
theorem Short.seq {a b : Gl} {m n : Nat} (x : Short a m) (y : Short b n) : Short (a.seq b) (m + n) where
  fst := by
    show (a.fst ++ (if a.nul = true then b.fst else [])).length ≤ _
    rw [List.length_append]
    have := x.fst
    have := y.fst
    split
    · omega
    · show _ + 0 ≤ _; omega
  lst := by
    show ((if b.nul = true then a.lst else []) ++ b.lst).length ≤ _
    rw [List.length_append]
    have := x.lst
    have := y.lst
    split
    · omega
    · show 0 + _ ≤ _; omega
theorem Short.par {a b : Gl} {m n : Nat} (x : Short a m) (y : Short b n) : Short (a.par b) (m + n) where
  fst := by
    show (a.fst ++ b.fst).length ≤ _
    rw [List.length_append]
    have := x.fst
    have := y.fst
    omega
  lst := by
    show (a.lst ++ b.lst).length ≤ _
    rw [List.length_append]
    have := x.lst
    have := y.lst
    omega
mutual
theorem gl_len : ∀ (e : E) (o : Nat), Short (gl e o) e.places
  | .eps, o => ⟨Nat.zero_le _, Nat.zero_le _⟩
  | .sym c, o => ⟨Nat.le_refl _, Nat.le_refl _⟩
  | .maybe e, o => by
    rw [gl, E.places]
    exact ⟨(gl_len e o).fst, (gl_len e o).lst⟩
  | .many e, o => by
    rw [gl, E.places]
    exact ⟨(gl_len e o).fst, (gl_len e o).lst⟩
  | .join es, o => by
    rw [gl, E.places]
    exact glJ_len es o
  | .alt es, o => by
    rw [gl, E.places]
    exact glA_len es o
theorem glJ_len : ∀ (es : List E) (o : Nat), Short (gl.glJ es o) (E.places.placess es)
  | [], o => ⟨Nat.zero_le _, Nat.zero_le _⟩
  | e :: es, o => by
    rw [gl.glJ, E.places.placess]
    exact (gl_len e o).seq (glJ_len es (o + e.places))
theorem glA_len : ∀ (es : List E) (o : Nat), Short (gl.glA es o) (E.places.placess es)
  | [], o => ⟨Nat.zero_le _, Nat.zero_le _⟩
  | e :: es, o => by
    rw [gl.glA, E.places.placess]
    exact (gl_len e o).par (glA_len es (o + e.places))
end
end My
namespace My
open PySem PySem.Spec PyProof.Rows L2
def keysD (ms : List Int) : List (Key × V) := ms.map fun x => (Sum.inl x, V.bl true)
theorem putK_keys (ms : List Int) (x : Int) : putK (keysD ms) (Sum.inl x : Key) (V.bl true) = keysD (if x ∈ ms then ms else ms ++ [x]) := by
  unfold putK keysD
  have e1 : ((ms.map fun x => ((Sum.inl x : Key), V.bl true)).any fun kv => decide (kv.1 = Sum.inl x)) = decide (x ∈ ms) := by
    induction ms with
    | nil => simp
    | cons m ms ih =>
      rw [List.map_cons, List.any_cons, ih]
      by_cases c : m = x
      · subst c
        simp
      · have : ¬ ((Sum.inl m : Key) = Sum.inl x) := fun h => c (Sum.inl.inj h)
        rw [decide_eq_false this, Bool.false_or]
        by_cases d : x ∈ ms
        · rw [decide_eq_true d, decide_eq_true (List.mem_cons_of_mem _ d)]
        · rw [decide_eq_false d, decide_eq_false]
          intro h
          rcases List.mem_cons.mp h with h | h
          · exact c h.symm
          · exact d h
  rw [e1]
  by_cases c : x ∈ ms
  · rw [if_pos (decide_eq_true c), if_pos c, List.map_map]
    refine List.map_congr_left fun y _ => ?_
    show (if (Sum.inl y : Key) = Sum.inl x then ((Sum.inl y : Key), V.bl true) else ((Sum.inl y : Key), V.bl true)) = _
    split <;> rfl
  · rw [if_neg (by rw [decide_eq_false c]; exact Bool.false_ne_true), if_neg c, List.map_append]
    rfl
theorem keysD_vals (ms : List Int) : (keysD ms).map (fun kv => kV kv.1) = ms.map V.int := by
  unfold keysD
  rw [List.map_map]
  rfl
theorem keysD_len (ms : List Int) : (keysD ms).length = ms.length := List.length_map _
/-- a new key beside the others, once -/
def addK (ms : List Int) (x : Int) : List Int := if x ∈ ms then ms else ms ++ [x]
theorem mem_addK {ms : List Int} {x y : Int} : y ∈ addK ms x ↔ y ∈ ms ∨ y = x := by
  unfold addK
  split
  · rename_i h
    constructor
    · exact .inl
    · rintro (c | rfl)
      · exact c
      · exact h
  · rw [List.mem_append, List.mem_singleton]
theorem nodup_addK {ms : List Int} {x : Int} (h : ms.Nodup) : (addK ms x).Nodup := by
  unfold addK
  split
  · exact h
  · rename_i c
    rw [List.nodup_append]
    exact ⟨h, by simp, fun a ha b hb e => c (by rw [List.mem_singleton] at hb; rw [← hb, ← e]; exact ha)⟩
theorem len_addK (ms : List Int) (x : Int) : (addK ms x).length ≤ ms.length + 1 := by
  unfold addK
  split
  · omega
  · rw [List.length_append]; exact Nat.le_refl _
theorem nodup_len : ∀ (n : Nat) (l : List Int), l.Nodup → (∀ x ∈ l, 0 ≤ x ∧ x < n) → l.length ≤ n
  | 0, l, _, h => by
    cases l with
    | nil => exact Nat.le_refl _
    | cons x l =>
      have := h x (List.mem_cons_self ..)
      omega
  | n + 1, l, hd, h => by
    by_cases c : (n : Int) ∈ l
    · have h1 := nodup_len n (l.erase (n : Int)) (hd.erase _) fun x hx => by
        have h2 := h x (List.mem_of_mem_erase hx)
        have h3 : x ≠ (n : Int) := fun e => by
          rw [e] at hx
          exact (List.Nodup.not_mem_erase hd) hx
        omega
      have h4 := List.length_erase_of_mem c
      omega
    · have h1 := nodup_len n l hd fun x hx => by
        have h2 := h x hx
        have h3 : x ≠ (n : Int) := fun e => c (e ▸ hx)
        omega
      omega
theorem take_snoc {α : Type} {l : List α} {i : Nat} {x : α} (h : l[i]? = some x) : l.take (i + 1) = l.take i ++ [x] := by
  rw [List.take_add_one, h]
  rfl
end My
namespace My
open PySem PySem.Spec PyProof.Rows L2
/-! ### what the builders of expressions count -/
def E.leaves : E → Nat
  | .eps => 1
  | .sym _ => 1
  | .maybe e => e.leaves
  | .many e => e.leaves
  | .join es => leavess es
  | .alt es => leavess es
where leavess : List E → Nat
  | [] => 0
  | e :: es => e.leaves + leavess es
def E.wr : E → Nat
  | .eps => 0
  | .sym _ => 0
  | .maybe e => e.wr + 1
  | .many e => e.wr + 1
  | .join es => wrs es
  | .alt es => wrs es
where wrs : List E → Nat
  | [] => 0
  | e :: es => e.wr + wrs es
theorem leavess_eq (es : List E) : E.leaves.leavess es = (es.map E.leaves).sum := by
  induction es with
  | nil => rfl
  | cons e es ih => rw [E.leaves.leavess, ih, List.map_cons, List.sum_cons]
theorem wrs_eq (es : List E) : E.wr.wrs es = (es.map E.wr).sum := by
  induction es with
  | nil => rfl
  | cons e es ih => rw [E.wr.wrs, ih, List.map_cons, List.sum_cons]
structure Cnt (e : E) : Prop where
  l : 1 ≤ e.leaves
  d : e.depth + 1 ≤ e.leaves + e.wr
  p : e.parts + 1 ≤ 2 * e.leaves + e.wr
  s : e.toD.size ≤ 4 * e.parts
structure Cnts (es : List E) : Prop where
  l : es.length ≤ E.leaves.leavess es
  d : E.depth.depths es + es.length ≤ E.leaves.leavess es + E.wr.wrs es
  p : E.parts.partss es + es.length ≤ 2 * E.leaves.leavess es + E.wr.wrs es
  s : D.size.sizes (E.toD.toDs es) ≤ 4 * E.parts.partss es
mutual
theorem cnt : ∀ {e : E}, e.ok = true → Cnt e
  | .eps, _ => ⟨by rw [E.leaves]; omega, by rw [E.leaves, E.depth, E.wr]; omega, by rw [E.leaves, E.parts, E.wr]; omega, by rw [E.toD, D.size, E.parts]; omega⟩
  | .sym c, _ => ⟨by rw [E.leaves]; omega, by rw [E.leaves, E.depth, E.wr]; omega, by rw [E.leaves, E.parts, E.wr]; omega, by rw [E.toD, D.size, E.parts]; omega⟩
  | .maybe e, h => by
    rw [E.ok] at h
    have c := cnt h
    obtain ⟨c1, c2, c3, c4⟩ := c
    refine ⟨by rw [E.leaves]; omega, by rw [E.leaves, E.depth, E.wr]; omega, by rw [E.leaves, E.parts, E.wr]; omega, ?_⟩
    simp only [E.toD, D.size, D.size.sizes, E.parts]
    omega
  | .many e, h => by
    rw [E.ok] at h
    have c := cnt h
    obtain ⟨c1, c2, c3, c4⟩ := c
    refine ⟨by rw [E.leaves]; omega, by rw [E.leaves, E.depth, E.wr]; omega, by rw [E.leaves, E.parts, E.wr]; omega, ?_⟩
    simp only [E.toD, D.size, D.size.sizes, E.parts]
    omega
  | .join es, h => by
    rw [E.ok] at h
    simp only [Bool.and_eq_true, decide_eq_true_eq] at h
    obtain ⟨c1, c2, c3, c4⟩ := cnts h.1.2
    have h2 := h.1.1
    refine ⟨by rw [E.leaves]; omega, by rw [E.leaves, E.depth, E.wr]; omega, by rw [E.leaves, E.parts, E.wr]; omega, ?_⟩
    simp only [E.toD, D.size, D.size.sizes, E.parts]
    omega
  | .alt es, h => by
    rw [E.ok] at h
    simp only [Bool.and_eq_true, decide_eq_true_eq] at h
    obtain ⟨c1, c2, c3, c4⟩ := cnts h.1.2
    have h2 := h.1.1
    refine ⟨by rw [E.leaves]; omega, by rw [E.leaves, E.depth, E.wr]; omega, by rw [E.leaves, E.parts, E.wr]; omega, ?_⟩
    simp only [E.toD, D.size, D.size.sizes, E.parts]
    omega
theorem cnts : ∀ {es : List E}, E.ok.oks es = true → Cnts es
  | [], _ => ⟨Nat.le_refl _, Nat.le_refl _, Nat.le_refl _, Nat.le_refl _⟩
  | e :: es, h => by
    rw [E.ok.oks, Bool.and_eq_true] at h
    obtain ⟨a1, a2, a3, a4⟩ := cnt h.1
    obtain ⟨c1, c2, c3, c4⟩ := cnts h.2
    refine ⟨?_, ?_, ?_, ?_⟩
    · rw [E.leaves.leavess, List.length_cons]; omega
    · rw [E.leaves.leavess, E.wr.wrs, E.depth.depths, List.length_cons]
      rcases Nat.le_total e.depth (E.depth.depths es) with hh | hh
      · rw [Nat.max_eq_right hh]; omega
      · rw [Nat.max_eq_left hh]; omega
    · rw [E.leaves.leavess, E.wr.wrs, E.parts.partss, List.length_cons]; omega
    · rw [E.toD.toDs, D.size.sizes, E.parts.partss]; omega
end
/-! ### a row of two -/
def kidsOf (b : Bool) : E → List E
  | .join es => if b then es else [.join es]
  | .alt es => if b then [.alt es] else es
  | e => [e]
def rowE (b : Bool) (es : List E) : E := if b then .join es else .alt es
def mkRow (b : Bool) (x y : E) : E := rowE b (kidsOf b x ++ kidsOf b y)
structure KidsOk (b : Bool) (es : List E) : Prop where
  n : 1 ≤ es.length
  ok : es.all E.ok = true
  no : es.any (fun e => if b then isJoin e else isAlt e) = false
theorem kids_okB {b : Bool} {e : E} (h : e.ok = true) : KidsOk b (kidsOf b e) := by
  have one : ∀ e : E, e.ok = true → (if b then isJoin e else isAlt e) = false → KidsOk b [e] := fun e h1 h2 => ⟨Nat.le_refl _, by rw [List.all_cons, h1]; rfl, by rw [List.any_cons, h2]; rfl⟩
  cases e with
  | eps => exact one _ h (by cases b <;> rfl)
  | sym c => exact one _ h (by cases b <;> rfl)
  | maybe e => exact one _ h (by cases b <;> rfl)
  | many e => exact one _ h (by cases b <;> rfl)
  | join es =>
    cases b
    · exact one _ h rfl
    · rw [E.ok, oks_eq] at h
      simp only [Bool.and_eq_true, decide_eq_true_eq, Bool.not_eq_true'] at h
      exact ⟨Nat.le_trans (by decide) h.1.1, h.1.2, h.2⟩
  | alt es =>
    cases b
    · rw [E.ok, oks_eq] at h
      simp only [Bool.and_eq_true, decide_eq_true_eq, Bool.not_eq_true'] at h
      exact ⟨Nat.le_trans (by decide) h.1.1, h.1.2, h.2⟩
    · exact one _ h rfl
theorem ok_row {b : Bool} {es es' : List E} (h : KidsOk b es) (h' : KidsOk b es') : (rowE b (es ++ es')).ok = true := by
  have a := h.n
  have a' := h'.n
  cases b
  · show E.ok (.alt (es ++ es')) = true
    rw [E.ok, oks_eq, List.all_append, h.ok, h'.ok, List.any_append]
    have n1 : es.any isAlt = false := h.no
    have n2 : es'.any isAlt = false := h'.no
    rw [n1, n2, List.length_append, decide_eq_true (by omega)]
    rfl
  · show E.ok (.join (es ++ es')) = true
    rw [E.ok, oks_eq, List.all_append, h.ok, h'.ok, List.any_append]
    have n1 : es.any isJoin = false := h.no
    have n2 : es'.any isJoin = false := h'.no
    rw [n1, n2, List.length_append, decide_eq_true (by omega)]
    rfl
theorem ok_mkRow {b : Bool} {x y : E} (hx : x.ok = true) (hy : y.ok = true) : (mkRow b x y).ok = true := ok_row (kids_okB hx) (kids_okB hy)
theorem kids_places (b : Bool) (e : E) : ((kidsOf b e).map E.places).sum = e.places := by
  cases e <;> cases b <;> simp [kidsOf, E.places, placess_eq]
theorem kids_leaves (b : Bool) (e : E) : ((kidsOf b e).map E.leaves).sum = e.leaves := by
  cases e <;> cases b <;> simp [kidsOf, E.leaves, leavess_eq]
theorem kids_wr (b : Bool) (e : E) : ((kidsOf b e).map E.wr).sum = e.wr := by
  cases e <;> cases b <;> simp [kidsOf, E.wr, wrs_eq]
theorem mkRow_places (b : Bool) (x y : E) : (mkRow b x y).places = x.places + y.places := by
  have : (mkRow b x y).places = ((kidsOf b x ++ kidsOf b y).map E.places).sum := by cases b <;> simp [mkRow, rowE, E.places, placess_eq]
  rw [this, List.map_append, List.sum_append, kids_places, kids_places]
theorem mkRow_leaves (b : Bool) (x y : E) : (mkRow b x y).leaves = x.leaves + y.leaves := by
  have : (mkRow b x y).leaves = ((kidsOf b x ++ kidsOf b y).map E.leaves).sum := by cases b <;> simp [mkRow, rowE, E.leaves, leavess_eq]
  rw [this, List.map_append, List.sum_append, kids_leaves, kids_leaves]
theorem mkRow_wr (b : Bool) (x y : E) : (mkRow b x y).wr = x.wr + y.wr := by
  have : (mkRow b x y).wr = ((kidsOf b x ++ kidsOf b y).map E.wr).sum := by cases b <;> simp [mkRow, rowE, E.wr, wrs_eq]
  rw [this, List.map_append, List.sum_append, kids_wr, kids_wr]
def rowW (b : Bool) : Str := if b then sJoin else sOr
theorem rowE_toD (b : Bool) (es : List E) : (rowE b es).toD = .tup [.str (rowW b), .tup (es.map E.toD)] := by
  cases b
  · show E.toD (.alt es) = _
    rw [E.toD, toDs_eq]
    rfl
  · show E.toD (.join es) = _
    rw [E.toD, toDs_eq]
    rfl
end My
namespace My
open PySem PySem.Spec PyProof.Rows L2
/-! ### ways through the places, and words -/
def lastN : Nat → List Nat → Nat
  | x, [] => x
  | _, y :: ys => lastN y ys
def chn (F : List (Nat × Nat)) : Nat → List Nat → Prop
  | _, [] => True
  | x, y :: ys => (x, y) ∈ F ∧ chn F y ys
def Sfx (g : Gl) (x : Nat) (xs : List Nat) : Prop := chn g.fol x xs ∧ lastN x xs ∈ g.lst
def Acc (g : Gl) : List Nat → Prop
  | [] => g.nul = true
  | x :: xs => x ∈ g.fst ∧ Sfx g x xs
/-- any number of words that are not empty, one behind the other -/
inductive Star {α : Type} (L : List α → Prop) : List α → Prop where
  | nil : Star L []
  | cons {u v : List α} (h : L u) (n : u ≠ []) (t : Star L v) : Star L (u ++ v)
theorem Star.mono {α : Type} {L M : List α → Prop} (k : ∀ u, L u → M u) {w : List α} (h : Star L w) : Star M w := by
  induction h with
  | nil => exact .nil
  | cons h n _ ih => exact .cons (k _ h) n ih
def MP : E → Nat → List Nat → Prop
  | .eps, _, ps => ps = []
  | .sym _, o, ps => ps = [o]
  | .maybe e, o, ps => ps = [] ∨ MP e o ps
  | .many e, o, ps => Star (MP e o) ps
  | .join es, o, ps => mpJ es o ps
  | .alt es, o, ps => mpA es o ps
where
  mpJ : List E → Nat → List Nat → Prop
    | [], _, ps => ps = []
    | e :: es, o, ps => ∃ us vs, ps = us ++ vs ∧ MP e o us ∧ mpJ es (o + e.places) vs
  mpA : List E → Nat → List Nat → Prop
    | [], _, _ => False
    | e :: es, o, ps => MP e o ps ∨ mpA es (o + e.places) ps
def MW : E → List Nat → Prop
  | .eps, w => w = []
  | .sym c, w => w = [c]
  | .maybe e, w => w = [] ∨ MW e w
  | .many e, w => Star (MW e) w
  | .join es, w => mwJ es w
  | .alt es, w => mwA es w
where
  mwJ : List E → List Nat → Prop
    | [], w => w = []
    | e :: es, w => ∃ us vs, w = us ++ vs ∧ MW e us ∧ mwJ es vs
  mwA : List E → List Nat → Prop
    | [], _ => False
    | e :: es, w => MW e w ∨ mwA es w
theorem mp_eps (o : Nat) (ps : List Nat) : MP .eps o ps ↔ ps = [] := Iff.rfl
theorem mp_sym (c o : Nat) (ps : List Nat) : MP (.sym c) o ps ↔ ps = [o] := Iff.rfl
/-! #### one behind the other -/
theorem chn_mono {F G : List (Nat × Nat)} (k : ∀ x, x ∈ F → x ∈ G) : ∀ (ys : List Nat) (x : Nat), chn F x ys → chn G x ys
  | [], _, _ => trivial
  | y :: ys, x, h => ⟨k _ h.1, chn_mono k ys y h.2⟩
theorem chn_app {F : List (Nat × Nat)} : ∀ (us : List Nat) (x y : Nat) (vs : List Nat), chn F x us → (lastN x us, y) ∈ F → chn F y vs → chn F x (us ++ y :: vs)
  | [], _, _, _, _, h2, h3 => ⟨h2, h3⟩
  | _ :: us, _, _, _, h1, h2, h3 => ⟨h1.1, chn_app us _ _ _ h1.2 h2 h3⟩
theorem lastN_app : ∀ (us : List Nat) (x y : Nat) (vs : List Nat), lastN x (us ++ y :: vs) = lastN y vs
  | [], _, _, _ => rfl
  | u :: us, _, y, vs => lastN_app us u y vs
theorem lastN_app0 (x : Nat) (us : List Nat) : lastN x (us ++ []) = lastN x us := by rw [List.append_nil]
/-- a way that is within the later part stays there -/
theorem seq_right {a b : Gl} {o n m : Nat} (wa : Within a o n) (wb : Within b (o + n) m) : ∀ (xs : List Nat) (x : Nat), o + n ≤ x → Sfx (a.seq b) x xs → Sfx b x xs
  | [], x, hx, h => by
    refine ⟨trivial, ?_⟩
    have h2 : x ∈ (if b.nul = true then a.lst else []) ++ b.lst := h.2
    rcases List.mem_append.mp h2 with h2 | h2
    · split at h2
      · have := wa.lst x h2; omega
      · cases h2
    · exact h2
  | y :: ys, x, hx, h => by
    obtain ⟨⟨h1, h2⟩, h3⟩ := h
    have h1' : (x, y) ∈ a.fol ++ (prodL a.lst b.fst ++ b.fol) := h1
    rcases List.mem_append.mp h1' with c | c
    · have := (wa.fol x y c).1; omega
    · rcases List.mem_append.mp c with c | c
      · have := wa.lst x (mem_prodL.mp c).1; omega
      · have hy := (wb.fol x y c).2
        have r := seq_right wa wb ys y hy.1 ⟨h2, h3⟩
        exact ⟨⟨c, r.1⟩, r.2⟩
theorem seq_left {a b : Gl} {o n m : Nat} (wa : Within a o n) (wb : Within b (o + n) m) : ∀ (xs : List Nat) (x : Nat), x < o + n → Sfx (a.seq b) x xs → ∃ us vs, xs = us ++ vs ∧ Sfx a x us ∧ Acc b vs
  | [], x, hx, h => by
    have h2 : x ∈ (if b.nul = true then a.lst else []) ++ b.lst := h.2
    rcases List.mem_append.mp h2 with h2 | h2
    · split at h2
      · rename_i c
        exact ⟨[], [], rfl, ⟨trivial, h2⟩, c⟩
      · cases h2
    · have := wb.lst x h2; omega
  | y :: ys, x, hx, h => by
    obtain ⟨⟨h1, h2⟩, h3⟩ := h
    have h1' : (x, y) ∈ a.fol ++ (prodL a.lst b.fst ++ b.fol) := h1
    rcases List.mem_append.mp h1' with c | c
    · have hy := (wa.fol x y c).2
      obtain ⟨us, vs, e, r1, r2⟩ := seq_left wa wb ys y hy.2 ⟨h2, h3⟩
      subst e
      exact ⟨y :: us, vs, rfl, ⟨⟨c, r1.1⟩, r1.2⟩, r2⟩
    · rcases List.mem_append.mp c with c | c
      · obtain ⟨c1, c2⟩ := mem_prodL.mp c
        exact ⟨[], y :: ys, rfl, ⟨trivial, c1⟩, c2, seq_right wa wb ys y (wb.fst y c2).1 ⟨h2, h3⟩⟩
      · have := (wb.fol x y c).1; omega
theorem acc_seq {a b : Gl} {o n m : Nat} (wa : Within a o n) (wb : Within b (o + n) m) (ps : List Nat) : Acc (a.seq b) ps ↔ ∃ us vs, ps = us ++ vs ∧ Acc a us ∧ Acc b vs := by
  constructor
  · intro h
    cases ps with
    | nil =>
      have h' : (a.nul && b.nul) = true := h
      rw [Bool.and_eq_true] at h'
      exact ⟨[], [], rfl, h'.1, h'.2⟩
    | cons x xs =>
      obtain ⟨h1, h2⟩ := h
      have h1' : x ∈ a.fst ++ (if a.nul = true then b.fst else []) := h1
      rcases List.mem_append.mp h1' with c | c
      · obtain ⟨us, vs, e, r1, r2⟩ := seq_left wa wb xs x (wa.fst x c).2 h2
        subst e
        exact ⟨x :: us, vs, rfl, ⟨c, r1⟩, r2⟩
      · split at c
        · rename_i hn
          exact ⟨[], x :: xs, rfl, hn, c, seq_right wa wb xs x (wb.fst x c).1 h2⟩
        · cases c
  · rintro ⟨us, vs, rfl, h1, h2⟩
    cases us with
    | nil =>
      have h1' : a.nul = true := h1
      cases vs with
      | nil =>
        have h2' : b.nul = true := h2
        show (a.nul && b.nul) = true
        rw [h1', h2']
        rfl
      | cons y ys =>
        refine ⟨?_, chn_mono (fun x hx => List.mem_append_right _ (List.mem_append_right _ hx)) ys y h2.2.1, List.mem_append_right _ h2.2.2⟩
        show y ∈ a.fst ++ (if a.nul = true then b.fst else [])
        rw [if_pos h1']
        exact List.mem_append_right _ h2.1
    | cons x xs =>
      have ca := chn_mono (G := (a.seq b).fol) (fun z hz => List.mem_append_left _ hz) xs x h1.2.1
      cases vs with
      | nil =>
        have h2' : b.nul = true := h2
        rw [List.append_nil]
        refine ⟨List.mem_append_left _ h1.1, ca, ?_⟩
        show _ ∈ (if b.nul = true then a.lst else []) ++ b.lst
        rw [if_pos h2']
        exact List.mem_append_left _ h1.2.2
      | cons y ys =>
        refine ⟨List.mem_append_left _ h1.1, chn_app xs x y ys ca ?_ (chn_mono (fun z hz => List.mem_append_right _ (List.mem_append_right _ hz)) ys y h2.2.1), ?_⟩
        · exact List.mem_append_right _ (List.mem_append_left _ (mem_prodL.mpr ⟨h1.2.2, h2.1⟩))
        · show lastN x (xs ++ y :: ys) ∈ _
          rw [lastN_app]
          exact List.mem_append_right _ h2.2.2
/-! #### one or the other -/
theorem par_left {a b : Gl} {o n m : Nat} (wa : Within a o n) (wb : Within b (o + n) m) : ∀ (xs : List Nat) (x : Nat), x < o + n → Sfx (a.par b) x xs → Sfx a x xs
  | [], x, hx, h => by
    refine ⟨trivial, ?_⟩
    have h2 : x ∈ a.lst ++ b.lst := h.2
    rcases List.mem_append.mp h2 with h2 | h2
    · exact h2
    · have := wb.lst x h2; omega
  | y :: ys, x, hx, h => by
    obtain ⟨⟨h1, h2⟩, h3⟩ := h
    have h1' : (x, y) ∈ a.fol ++ b.fol := h1
    rcases List.mem_append.mp h1' with c | c
    · have r := par_left wa wb ys y (wa.fol x y c).2.2 ⟨h2, h3⟩
      exact ⟨⟨c, r.1⟩, r.2⟩
    · have := (wb.fol x y c).1; omega
theorem par_right {a b : Gl} {o n m : Nat} (wa : Within a o n) (wb : Within b (o + n) m) : ∀ (xs : List Nat) (x : Nat), o + n ≤ x → Sfx (a.par b) x xs → Sfx b x xs
  | [], x, hx, h => by
    refine ⟨trivial, ?_⟩
    have h2 : x ∈ a.lst ++ b.lst := h.2
    rcases List.mem_append.mp h2 with h2 | h2
    · have := wa.lst x h2; omega
    · exact h2
  | y :: ys, x, hx, h => by
    obtain ⟨⟨h1, h2⟩, h3⟩ := h
    have h1' : (x, y) ∈ a.fol ++ b.fol := h1
    rcases List.mem_append.mp h1' with c | c
    · have := (wa.fol x y c).1; omega
    · have r := par_right wa wb ys y (wb.fol x y c).2.1 ⟨h2, h3⟩
      exact ⟨⟨c, r.1⟩, r.2⟩
theorem acc_par {a b : Gl} {o n m : Nat} (wa : Within a o n) (wb : Within b (o + n) m) (ps : List Nat) : Acc (a.par b) ps ↔ Acc a ps ∨ Acc b ps := by
  cases ps with
  | nil =>
    show (a.nul || b.nul) = true ↔ _
    rw [Bool.or_eq_true]
    exact Iff.rfl
  | cons x xs =>
    constructor
    · rintro ⟨h1, h2⟩
      have h1' : x ∈ a.fst ++ b.fst := h1
      rcases List.mem_append.mp h1' with c | c
      · exact .inl ⟨c, par_left wa wb xs x (wa.fst x c).2 h2⟩
      · exact .inr ⟨c, par_right wa wb xs x (wb.fst x c).1 h2⟩
    · rintro (⟨h1, h2, h3⟩ | ⟨h1, h2, h3⟩)
      · exact ⟨List.mem_append_left _ h1, chn_mono (fun z hz => List.mem_append_left _ hz) xs x h2, List.mem_append_left _ h3⟩
      · exact ⟨List.mem_append_right _ h1, chn_mono (fun z hz => List.mem_append_right _ hz) xs x h2, List.mem_append_right _ h3⟩
/-! #### again and again -/
def Gl.rep (a : Gl) : Gl := ⟨true, a.fst, a.lst, a.fol ++ prodL a.lst a.fst⟩
theorem rep_sfx {a : Gl} : ∀ (xs : List Nat) (x : Nat), Sfx a.rep x xs → ∃ us vs, xs = us ++ vs ∧ Sfx a x us ∧ Star (Acc a) vs
  | [], x, h => ⟨[], [], rfl, ⟨trivial, h.2⟩, .nil⟩
  | y :: ys, x, h => by
    obtain ⟨⟨h1, h2⟩, h3⟩ := h
    obtain ⟨us, vs, e, r1, r2⟩ := rep_sfx ys y ⟨h2, h3⟩
    subst e
    have h1' : (x, y) ∈ a.fol ++ prodL a.lst a.fst := h1
    rcases List.mem_append.mp h1' with c | c
    · exact ⟨y :: us, vs, rfl, ⟨⟨c, r1.1⟩, r1.2⟩, r2⟩
    · obtain ⟨c1, c2⟩ := mem_prodL.mp c
      refine ⟨[], y :: (us ++ vs), rfl, ⟨trivial, c1⟩, ?_⟩
      have : Star (Acc a) ((y :: us) ++ vs) := .cons (u := y :: us) ⟨c2, r1⟩ (by simp) r2
      exact this
theorem rep_star {a : Gl} {ps : List Nat} (h : Star (Acc a) ps) : Acc a.rep ps := by
  induction h with
  | nil => rfl
  | @cons u v hu hn _ ih =>
    cases u with
    | nil => exact absurd rfl hn
    | cons x xs =>
      have ca := chn_mono (G := a.rep.fol) (fun z hz => List.mem_append_left _ hz) xs x hu.2.1
      cases v with
      | nil =>
        rw [List.append_nil]
        exact ⟨hu.1, ca, hu.2.2⟩
      | cons y ys =>
        refine ⟨hu.1, chn_app xs x y ys ca (List.mem_append_right _ (mem_prodL.mpr ⟨hu.2.2, ih.1⟩)) ih.2.1, ?_⟩
        show lastN x (xs ++ y :: ys) ∈ _
        rw [lastN_app]
        exact ih.2.2
theorem acc_rep (a : Gl) (ps : List Nat) : Acc a.rep ps ↔ Star (Acc a) ps := by
  refine ⟨fun h => ?_, rep_star⟩
  cases ps with
  | nil => exact .nil
  | cons x xs =>
    obtain ⟨us, vs, e, r1, r2⟩ := rep_sfx xs x h.2
    subst e
    exact .cons (u := x :: us) ⟨h.1, r1⟩ (by simp) r2
mutual
theorem acc_mp : ∀ (e : E) (o : Nat) (ps : List Nat), Acc (gl e o) ps ↔ MP e o ps
  | .eps, o, ps => by
    rw [gl, MP]
    cases ps with
    | nil => exact ⟨fun _ => rfl, fun _ => rfl⟩
    | cons x xs => exact ⟨fun h => (by cases h.1), fun h => by cases h⟩
  | .sym c, o, ps => by
    rw [gl, MP]
    cases ps with
    | nil => exact ⟨fun h => (by cases h), fun h => by cases h⟩
    | cons x xs =>
      constructor
      · rintro ⟨h1, h2, h3⟩
        have h1' := List.mem_singleton.mp h1
        subst h1'
        cases xs with
        | nil => rfl
        | cons y ys => exact absurd h2.1 (by intro c; cases c)
      · intro h
        cases h
        exact ⟨List.mem_singleton.mpr rfl, trivial, List.mem_singleton.mpr rfl⟩
  | .maybe e, o, ps => by
    have ih := acc_mp e o ps
    rw [gl, MP, ← ih]
    cases ps with
    | nil => exact ⟨fun _ => .inl rfl, fun _ => rfl⟩
    | cons x xs => exact ⟨fun h => .inr h, fun h => h.elim (fun c => by cases c) id⟩
  | .many e, o, ps => by
    have ih := acc_mp e o
    have e1 : Star (MP e o) ps ↔ Star (Acc (gl e o)) ps := ⟨Star.mono fun u h => (ih u).mpr h, Star.mono fun u h => (ih u).mp h⟩
    rw [MP, e1, ← acc_rep]
    exact Iff.rfl
  | .join es, o, ps => by
    rw [gl, MP]
    exact acc_mpJ es o ps
  | .alt es, o, ps => by
    rw [gl, MP]
    exact acc_mpA es o ps
theorem acc_mpJ : ∀ (es : List E) (o : Nat) (ps : List Nat), Acc (gl.glJ es o) ps ↔ MP.mpJ es o ps
  | [], o, ps => by
    rw [MP.mpJ]
    cases ps with
    | nil => exact ⟨fun _ => rfl, fun _ => rfl⟩
    | cons x xs => exact ⟨fun h => (by cases h.1), fun h => by cases h⟩
  | e :: es, o, ps => by
    rw [gl.glJ, MP.mpJ, acc_seq (gl_within e o) (glJ_within es (o + e.places))]
    exact exists_congr fun us => exists_congr fun vs => and_congr Iff.rfl (and_congr (acc_mp e o us) (acc_mpJ es _ vs))
theorem acc_mpA : ∀ (es : List E) (o : Nat) (ps : List Nat), Acc (gl.glA es o) ps ↔ MP.mpA es o ps
  | [], o, ps => by
    rw [MP.mpA]
    cases ps with
    | nil => exact ⟨fun h => (by cases h), fun h => h.elim⟩
    | cons x xs => exact ⟨fun h => (by cases h.1), fun h => h.elim⟩
  | e :: es, o, ps => by
    rw [gl.glA, MP.mpA, acc_par (gl_within e o) (glA_within es (o + e.places))]
    exact or_congr (acc_mp e o ps) (acc_mpA es _ ps)
end
/-! #### from places to letters -/
theorem map_split {α β : Type} {f : α → β} : ∀ {ps : List α} {u v : List β}, ps.map f = u ++ v → ∃ p1 p2, ps = p1 ++ p2 ∧ p1.map f = u ∧ p2.map f = v := by
  intro ps u v h
  exact ⟨ps.take u.length, ps.drop u.length, (List.take_append_drop ..).symm, by rw [List.map_take, h]; simp, by rw [List.map_drop, h]; simp⟩
theorem some_inj {u v : List Nat} (h : u.map some = v.map some) : u = v := by
  have := congrArg (List.map fun (o : Option Nat) => o.getD 0) h
  rw [List.map_map, List.map_map] at this
  have e : ((fun (o : Option Nat) => o.getD 0) ∘ some) = id := rfl
  rw [e, List.map_id, List.map_id] at this
  exact this
mutual
theorem mw_mp : ∀ (e : E) (o : Nat) (f : Nat → Option Nat), (∀ i, i < e.places → f (o + i) = e.letters[i]?) → ∀ w, MW e w ↔ ∃ ps, MP e o ps ∧ ps.map f = w.map some
  | .eps, o, f, hf, w => by
    rw [MW]
    constructor
    · rintro rfl
      exact ⟨[], rfl, rfl⟩
    · rintro ⟨ps, h, e⟩
      have h' : ps = [] := h
      subst h'
      cases w with
      | nil => rfl
      | cons c w => cases e
  | .sym c, o, f, hf, w => by
    have h0 := hf 0 (by rw [E.places]; exact Nat.one_pos)
    rw [Nat.add_zero] at h0
    have h0' : f o = some c := h0
    rw [MW]
    constructor
    · rintro rfl
      exact ⟨[o], rfl, by rw [List.map_singleton, List.map_singleton, h0']⟩
    · rintro ⟨ps, h, e⟩
      have h' : ps = [o] := h
      subst h'
      rw [List.map_singleton, h0'] at e
      exact (some_inj (u := [c]) e).symm
  | .maybe e, o, f, hf, w => by
    have ih := mw_mp e o f hf w
    rw [MW, ih]
    constructor
    · rintro (rfl | ⟨ps, h, e⟩)
      · exact ⟨[], .inl rfl, rfl⟩
      · exact ⟨ps, .inr h, e⟩
    · rintro ⟨ps, h | h, e⟩
      · subst h
        cases w with
        | nil => exact .inl rfl
        | cons c w => cases e
      · exact .inr ⟨ps, h, e⟩
  | .many e, o, f, hf, w => by
    have ih := mw_mp e o f hf
    rw [MW]
    constructor
    · intro h
      induction h with
      | nil => exact ⟨[], .nil, rfl⟩
      | cons h n _ ihv =>
        obtain ⟨p1, h1, e1⟩ := (ih _).mp h
        obtain ⟨p2, h2, e2⟩ := ihv
        refine ⟨p1 ++ p2, .cons h1 (fun c => n ?_) h2, by rw [List.map_append, List.map_append, e1, e2]⟩
        subst c
        exact some_inj e1.symm
    · rintro ⟨ps, h, e⟩
      have h' : Star (MP _ o) ps := h
      clear h
      induction h' generalizing w with
      | nil =>
        cases w with
        | nil => exact .nil
        | cons c w => cases e
      | @cons u v hu hn _ ihv =>
        rw [List.map_append] at e
        obtain ⟨w1, w2, rfl, e1, e2⟩ := map_split e.symm
        refine .cons ((ih _).mpr ⟨u, hu, e1.symm⟩) (fun c => hn ?_) (ihv w2 e2.symm)
        subst c
        cases u with
        | nil => rfl
        | cons x u => cases e1
  | .join es, o, f, hf, w => by
    rw [MW]
    exact mw_mpJ es o f hf w
  | .alt es, o, f, hf, w => by
    rw [MW]
    exact mw_mpA es o f hf w
theorem mw_mpJ : ∀ (es : List E) (o : Nat) (f : Nat → Option Nat), (∀ i, i < E.places.placess es → f (o + i) = (E.letters.letterss es)[i]?) → ∀ w, MW.mwJ es w ↔ ∃ ps, MP.mpJ es o ps ∧ ps.map f = w.map some
  | [], o, f, hf, w => by
    rw [MW.mwJ]
    constructor
    · rintro rfl
      exact ⟨[], rfl, rfl⟩
    · rintro ⟨ps, h, e⟩
      have h' : ps = [] := h
      subst h'
      cases w with
      | nil => rfl
      | cons c w => cases e
  | e :: es, o, f, hf, w => by
    have hl := letters_len e
    have i1 := mw_mp e o f (fun i hi => by
      rw [hf i (by rw [E.places.placess]; omega), E.letters.letterss, List.getElem?_append_left (by omega)])
    have i2 := mw_mpJ es (o + e.places) f (fun i hi => by
      rw [Nat.add_assoc, hf (e.places + i) (by rw [E.places.placess]; omega), E.letters.letterss, List.getElem?_append_right (by omega), hl, Nat.add_sub_cancel_left])
    rw [MW.mwJ]
    constructor
    · rintro ⟨us, vs, rfl, h1, h2⟩
      obtain ⟨p1, g1, e1⟩ := (i1 _).mp h1
      obtain ⟨p2, g2, e2⟩ := (i2 _).mp h2
      exact ⟨p1 ++ p2, ⟨p1, p2, rfl, g1, g2⟩, by rw [List.map_append, List.map_append, e1, e2]⟩
    · rintro ⟨ps, ⟨p1, p2, rfl, g1, g2⟩, ee⟩
      rw [List.map_append] at ee
      obtain ⟨w1, w2, rfl, e1, e2⟩ := map_split ee.symm
      exact ⟨w1, w2, rfl, (i1 _).mpr ⟨p1, g1, e1.symm⟩, (i2 _).mpr ⟨p2, g2, e2.symm⟩⟩
theorem mw_mpA : ∀ (es : List E) (o : Nat) (f : Nat → Option Nat), (∀ i, i < E.places.placess es → f (o + i) = (E.letters.letterss es)[i]?) → ∀ w, MW.mwA es w ↔ ∃ ps, MP.mpA es o ps ∧ ps.map f = w.map some
  | [], o, f, hf, w => by
    rw [MW.mwA]
    exact ⟨fun h => h.elim, fun ⟨_, h, _⟩ => h.elim⟩
  | e :: es, o, f, hf, w => by
    have hl := letters_len e
    have i1 := mw_mp e o f (fun i hi => by
      rw [hf i (by rw [E.places.placess]; omega), E.letters.letterss, List.getElem?_append_left (by omega)]) w
    have i2 := mw_mpA es (o + e.places) f (fun i hi => by
      rw [Nat.add_assoc, hf (e.places + i) (by rw [E.places.placess]; omega), E.letters.letterss, List.getElem?_append_right (by omega), hl, Nat.add_sub_cancel_left]) w
    rw [MW.mwA, i1, i2]
    constructor
    · rintro (⟨ps, h, e⟩ | ⟨ps, h, e⟩)
      · exact ⟨ps, .inl h, e⟩
      · exact ⟨ps, .inr h, e⟩
    · rintro ⟨ps, h | h, e⟩
      · exact .inl ⟨ps, h, e⟩
      · exact .inr ⟨ps, h, e⟩
end
/-- a word is right: some way through the places has its letters -/
theorem mw_acc (e : E) (w : List Nat) : MW e w ↔ ∃ ps, Acc (gl e 0) ps ∧ ps.map (fun p => e.letters[p]?) = w.map some := by
  rw [mw_mp e 0 (fun p => e.letters[p]?) (fun i _ => by rw [Nat.zero_add])]
  exact exists_congr fun ps => and_congr (acc_mp e 0 ps).symm Iff.rfl
end My
namespace My
open PySem PySem.Spec PyProof.Rows L2
/-! ### words, listed -/
theorem str_ext {a b : Str} (h : a.cps.toList = b.cps.toList) : a = b := by
  obtain ⟨⟨x⟩⟩ := a
  obtain ⟨⟨y⟩⟩ := b
  have e : x = y := h
  rw [e]
theorem cps_app (a b : Str) : (a ++ b).cps.toList = a.cps.toList ++ b.cps.toList := by
  show (a.cps ++ b.cps).toList = _
  simp
theorem len_app (a b : Str) : (a ++ b).length = a.length + b.length := by
  show (a.cps ++ b.cps).size = _
  rw [Array.size_append]
  rfl
theorem len_cps (z : Str) : z.length = z.cps.toList.length := Array.length_toList.symm
theorem cps_no : sNo.cps.toList = [] := by decide +kernel
theorem no_of_cps {z : Str} (h : z.cps.toList = []) : z = sNo := str_ext (h.trans cps_no.symm)
theorem len_no : sNo.length = 0 := by decide +kernel
/-- at most so many words, snoc by snoc -/
def Pw (L : List Nat → Prop) : Nat → List Nat → Prop
  | 0, w => w = []
  | n + 1, w => Pw L n w ∨ ∃ u v, w = u ++ v ∧ Pw L n u ∧ L v
theorem Pw.up {L : List Nat → Prop} {n : Nat} {w : List Nat} (h : Pw L n w) : ∀ k, Pw L (n + k) w
  | 0 => h
  | k + 1 => .inl (Pw.up h k)
theorem Pw.le {L : List Nat → Prop} {n m : Nat} {w : List Nat} (h : Pw L n w) (l : n ≤ m) : Pw L m w := by
  have := h.up (m - n)
  rw [show n + (m - n) = m by omega] at this
  exact this
theorem Pw.cons {L : List Nat → Prop} {u : List Nat} (hu : L u) : ∀ (n : Nat) (w : List Nat), Pw L n w → Pw L (n + 1) (u ++ w)
  | 0, w, h => by
    have h' : w = [] := h
    subst h'
    exact .inr ⟨[], u, by simp, rfl, hu⟩
  | n + 1, w, h => by
    rcases h with h | ⟨a, b, rfl, h1, h2⟩
    · exact .inl (Pw.cons hu n w h)
    · exact .inr ⟨u ++ a, b, by simp, Pw.cons hu n a h1, h2⟩
theorem star_snoc {L : List Nat → Prop} {u v : List Nat} (h : Star L u) (hv : L v) : Star L (u ++ v) := by
  induction h with
  | nil =>
    by_cases c : v = []
    · subst c
      exact .nil
    · have : Star L (v ++ []) := .cons hv c .nil
      rw [List.append_nil] at this
      exact this
  | cons h n _ ih =>
    rw [List.append_assoc]
    exact .cons h n ih
theorem star_pw {L : List Nat → Prop} {w : List Nat} (h : Star L w) : Pw L w.length w := by
  induction h with
  | nil => rfl
  | @cons u v h n _ ih =>
    have : 0 < u.length := List.length_pos_iff.mpr n
    refine (Pw.cons h _ v ih).le ?_
    rw [List.length_append]
    omega
theorem pw_star {L : List Nat → Prop} : ∀ (n : Nat) (w : List Nat), Pw L n w → Star L w
  | 0, w, h => by
    have h' : w = [] := h
    subst h'
    exact .nil
  | n + 1, w, h => by
    rcases h with h | ⟨a, b, rfl, h1, h2⟩
    · exact pw_star n w h
    · exact star_snoc (pw_star n a h1) h2
theorem star_iff {L : List Nat → Prop} {w : List Nat} {n : Nat} (h : w.length ≤ n) : Star L w ↔ Pw L n w := ⟨fun s => (star_pw s).le h, pw_star n w⟩
theorem mwJ_snoc (e : E) : ∀ (es : List E) (w : List Nat), MW.mwJ (es ++ [e]) w ↔ ∃ u v, w = u ++ v ∧ MW.mwJ es u ∧ MW e v
  | [], w => by
    show (∃ us vs, w = us ++ vs ∧ MW e us ∧ vs = []) ↔ ∃ u v, w = u ++ v ∧ u = [] ∧ MW e v
    constructor
    · rintro ⟨us, vs, rfl, h, rfl⟩
      exact ⟨[], us, by simp, rfl, h⟩
    · rintro ⟨u, v, rfl, rfl, h⟩
      exact ⟨v, [], by simp, h, rfl⟩
  | k :: es, w => by
    show (∃ us vs, w = us ++ vs ∧ MW k us ∧ MW.mwJ (es ++ [e]) vs) ↔ ∃ u v, w = u ++ v ∧ (∃ us vs, u = us ++ vs ∧ MW k us ∧ MW.mwJ es vs) ∧ MW e v
    constructor
    · rintro ⟨us, vs, rfl, h, g⟩
      obtain ⟨x, y, rfl, h1, h2⟩ := (mwJ_snoc e es vs).mp g
      exact ⟨us ++ x, y, by simp, ⟨us, x, rfl, h, h1⟩, h2⟩
    · rintro ⟨u, v, rfl, ⟨us, vs, rfl, h, g⟩, h2⟩
      exact ⟨us, vs ++ v, by simp, h, (mwJ_snoc e es _).mpr ⟨vs, v, rfl, g, h2⟩⟩
theorem mwA_iff : ∀ (es : List E) (w : List Nat), MW.mwA es w ↔ ∃ e ∈ es, MW e w
  | [], w => ⟨fun h => h.elim, fun ⟨_, h, _⟩ => by cases h⟩
  | k :: es, w => by
    show (MW k w ∨ MW.mwA es w) ↔ _
    rw [mwA_iff es w]
    simp
/-! #### the letters of right words -/
mutual
theorem mw_lets : ∀ (e : E), e.ok = true → ∀ w, MW e w → ∀ c ∈ w, c ∈ e.letters ∧ 97 ≤ c ∧ c ≤ 100
  | .eps, _, w, h, c, hc => by
    rw [MW] at h
    subst h
    cases hc
  | .sym d, ho, w, h, c, hc => by
    rw [MW] at h
    subst h
    rw [List.mem_singleton] at hc
    subst hc
    rw [E.ok] at ho
    simp only [Bool.and_eq_true, decide_eq_true_eq] at ho
    exact ⟨List.mem_singleton.mpr rfl, ho⟩
  | .maybe e, ho, w, h, c, hc => by
    rw [MW] at h
    rcases h with rfl | h
    · cases hc
    · exact mw_lets e (by rw [E.ok] at ho; exact ho) w h c hc
  | .many e, ho, w, h, c, hc => by
    rw [MW] at h
    have ih := mw_lets e (by rw [E.ok] at ho; exact ho)
    induction h with
    | nil => cases hc
    | cons h n _ ih2 =>
      rcases List.mem_append.mp hc with hc | hc
      · exact ih _ h c hc
      · exact ih2 hc
  | .join es, ho, w, h, c, hc => by
    rw [MW] at h
    rw [E.ok, oks_eq] at ho
    simp only [Bool.and_eq_true] at ho
    exact mw_letsJ es ho.1.2 w h c hc
  | .alt es, ho, w, h, c, hc => by
    rw [MW] at h
    rw [E.ok, oks_eq] at ho
    simp only [Bool.and_eq_true] at ho
    exact mw_letsA es ho.1.2 w h c hc
theorem mw_letsJ : ∀ (es : List E), es.all E.ok = true → ∀ w, MW.mwJ es w → ∀ c ∈ w, c ∈ E.letters.letterss es ∧ 97 ≤ c ∧ c ≤ 100
  | [], _, w, h, c, hc => by
    rw [MW.mwJ] at h
    subst h
    cases hc
  | e :: es, ho, w, h, c, hc => by
    rw [List.all_cons, Bool.and_eq_true] at ho
    obtain ⟨u, v, rfl, h1, h2⟩ := h
    rw [E.letters.letterss, List.mem_append]
    rcases List.mem_append.mp hc with hc | hc
    · have := mw_lets e ho.1 u h1 c hc
      exact ⟨.inl this.1, this.2⟩
    · have := mw_letsJ es ho.2 v h2 c hc
      exact ⟨.inr this.1, this.2⟩
theorem mw_letsA : ∀ (es : List E), es.all E.ok = true → ∀ w, MW.mwA es w → ∀ c ∈ w, c ∈ E.letters.letterss es ∧ 97 ≤ c ∧ c ≤ 100
  | [], _, w, h, c, hc => h.elim
  | e :: es, ho, w, h, c, hc => by
    rw [List.all_cons, Bool.and_eq_true] at ho
    rw [E.letters.letterss, List.mem_append]
    rcases h with h | h
    · have := mw_lets e ho.1 w h c hc
      exact ⟨.inl this.1, this.2⟩
    · have := mw_letsA es ho.2 w h c hc
      exact ⟨.inr this.1, this.2⟩
end
/-! #### how many words there are -/
def codeW : List Nat → Nat
  | [] => 0
  | c :: w => (c - 96) + 5 * codeW w
theorem codeW_lt : ∀ (w : List Nat), (∀ c ∈ w, 97 ≤ c ∧ c ≤ 100) → codeW w < 5 ^ w.length
  | [], _ => by show 0 < 1; omega
  | c :: w, h => by
    have := codeW_lt w fun x hx => h x (List.mem_cons_of_mem _ hx)
    have := h c (List.mem_cons_self ..)
    show (c - 96) + 5 * codeW w < 5 ^ (w.length + 1)
    rw [Nat.pow_succ]
    omega
theorem codeW_inj : ∀ (u w : List Nat), (∀ c ∈ u, 97 ≤ c ∧ c ≤ 100) → (∀ c ∈ w, 97 ≤ c ∧ c ≤ 100) → codeW u = codeW w → u = w
  | [], [], _, _, _ => rfl
  | [], c :: w, _, h, e => by
    have := h c (List.mem_cons_self ..)
    have e' : 0 = (c - 96) + 5 * codeW w := e
    omega
  | c :: u, [], h, _, e => by
    have := h c (List.mem_cons_self ..)
    have e' : (c - 96) + 5 * codeW u = 0 := e
    omega
  | c :: u, d :: w, h, g, e => by
    have h1 := h c (List.mem_cons_self ..)
    have g1 := g d (List.mem_cons_self ..)
    have e' : (c - 96) + 5 * codeW u = (d - 96) + 5 * codeW w := e
    have e2 : codeW u = codeW w := by omega
    have e3 : c = d := by omega
    rw [e3, codeW_inj u w (fun x hx => h x (List.mem_cons_of_mem _ hx)) (fun x hx => g x (List.mem_cons_of_mem _ hx)) e2]
def LetW (z : Str) : Prop := ∀ c ∈ z.cps.toList, 97 ≤ c ∧ c ≤ 100
theorem words_len {ms : List Str} (nd : ms.Nodup) (hl : ∀ z ∈ ms, z.length ≤ 5) (hc : ∀ z ∈ ms, LetW z) : ms.length ≤ 3125 := by
  have h := nodup_len 3125 (ms.map fun z => ((codeW z.cps.toList : Nat) : Int)) ?_ ?_
  · rw [List.length_map] at h
    exact h
  · refine (List.pairwise_map.mpr (List.Pairwise.imp_of_mem (fun {a b} ha hb hab e => hab ?_) nd))
    have e' : codeW a.cps.toList = codeW b.cps.toList := by exact_mod_cast e
    exact str_ext (codeW_inj _ _ (hc a ha) (hc b hb) e')
  · intro x hx
    obtain ⟨z, hz, rfl⟩ := List.mem_map.mp hx
    have h1 := codeW_lt _ (hc z hz)
    have h2 := hl z hz
    rw [len_cps] at h2
    have h3 : 5 ^ z.cps.toList.length ≤ 5 ^ 5 := Nat.pow_le_pow_right (by decide) h2
    constructor
    · exact Int.ofNat_nonneg _
    · have : codeW z.cps.toList < 3125 := Nat.lt_of_lt_of_le h1 h3
      exact_mod_cast this
/-- the right words of at most so many letters, each once -/
structure WordsOf (L : List Nat → Prop) (most : Nat) (ms : List Str) : Prop where
  nd : ms.Nodup
  mem : ∀ x, x ∈ ms ↔ x.length ≤ most ∧ L x.cps.toList
theorem WordsOf.len {L : List Nat → Prop} {most : Nat} {ms : List Str} (h : WordsOf L most ms) (hm : most ≤ 5) (hL : ∀ w, L w → ∀ c ∈ w, 97 ≤ c ∧ c ≤ 100) : ms.length ≤ 3125 :=
  words_len h.nd (fun z hz => Nat.le_trans ((h.mem z).mp hz).1 hm) fun z hz => hL _ ((h.mem z).mp hz).2
def addA {α : Type} [DecidableEq α] (ms : List α) (x : α) : List α := if x ∈ ms then ms else ms ++ [x]
theorem mem_addA {α : Type} [DecidableEq α] {ms : List α} {x y : α} : y ∈ addA ms x ↔ y ∈ ms ∨ y = x := by
  unfold addA
  split
  · rename_i h
    constructor
    · exact .inl
    · rintro (c | rfl)
      · exact c
      · exact h
  · rw [List.mem_append, List.mem_singleton]
theorem nodup_addA {α : Type} [DecidableEq α] {ms : List α} {x : α} (h : ms.Nodup) : (addA ms x).Nodup := by
  unfold addA
  split
  · exact h
  · rename_i c
    rw [List.nodup_append]
    exact ⟨h, by simp, fun a ha b hb e => c (by rw [List.mem_singleton] at hb; rw [← hb, ← e]; exact ha)⟩
theorem len_addA {α : Type} [DecidableEq α] (ms : List α) (x : α) : (addA ms x).length ≤ ms.length + 1 := by
  unfold addA
  split
  · omega
  · rw [List.length_append]; exact Nat.le_refl _
def keysS (ms : List Str) : List (Key × V) := ms.map fun x => (Sum.inr x, V.bl true)
theorem putK_keysS (ms : List Str) (x : Str) : putK (keysS ms) (Sum.inr x : Key) (V.bl true) = keysS (addA ms x) := by
  unfold putK keysS addA
  have e1 : ((ms.map fun x => ((Sum.inr x : Key), V.bl true)).any fun kv => decide (kv.1 = Sum.inr x)) = decide (x ∈ ms) := by
    induction ms with
    | nil => simp
    | cons m ms ih =>
      rw [List.map_cons, List.any_cons, ih]
      by_cases c : m = x
      · subst c
        simp
      · have : ¬ ((Sum.inr m : Key) = Sum.inr x) := fun h => c (Sum.inr.inj h)
        rw [decide_eq_false this, Bool.false_or]
        by_cases d : x ∈ ms
        · rw [decide_eq_true d, decide_eq_true (List.mem_cons_of_mem _ d)]
        · rw [decide_eq_false d, decide_eq_false]
          intro h
          rcases List.mem_cons.mp h with h | h
          · exact c h.symm
          · exact d h
  rw [e1]
  by_cases c : x ∈ ms
  · rw [if_pos (decide_eq_true c), if_pos c, List.map_map]
    refine List.map_congr_left fun y _ => ?_
    show (if (Sum.inr y : Key) = Sum.inr x then ((Sum.inr y : Key), V.bl true) else ((Sum.inr y : Key), V.bl true)) = _
    split <;> rfl
  · rw [if_neg (by rw [decide_eq_false c]; exact Bool.false_ne_true), if_neg c, List.map_append]
    rfl
theorem keysS_vals (ms : List Str) : (keysS ms).map (fun kv => kV kv.1) = ms.map V.str := by
  unfold keysS
  rw [List.map_map]
  rfl
theorem keysS_len (ms : List Str) : (keysS ms).length = ms.length := List.length_map _
end My
set_option maxHeartbeats 1000000
namespace My
open PySem PySem.Spec PyProof.Rows L2
open PySem.Sem (wp)
/-! ### zip of a text and a tuple -/
section
variable {prog : Program} {w : World} {A : Around} {E : Value → Shared → Prop} {s : Shared}
theorem sign_next {ty : String} (hty : ty = "str_ascii_iterator" ∨ ty = "str_iterator") {it : Addr} {x : Str} {t : Tok} {i c : Nat} {Q : Value → Shared → Prop} (st : s.heap.IsStrIter it ty x t i) (hx : x.cps[i]? = some c)
    (hQ : ∀ h', h'.IsStrIter it ty x t (i + 1) → Heap.SameBut it s.heap h' → Q (.str ⟨#[c]⟩ s.toks) { s with heap := h', toks := s.toks + 1 }) : wpAny (model prog w) A (Builtin.SmallTypes.nextOf (.ref it)) Q E s := by
  rcases hty with e | e
  · subst e; exact wpAny_nextOf_ascii_item st hx hQ
  · subst e; exact wpAny_nextOf_wide_item st hx hQ
theorem sign_last {ty : String} (hty : ty = "str_ascii_iterator" ∨ ty = "str_iterator") (hh : A.handled = none) {it : Addr} {x : Str} {t : Tok} {i : Nat} {Q : Value → Shared → Prop} (st : s.heap.IsStrIter it ty x t i) (hx : x.cps[i]? = none)
    (hE : ∀ h' e, Heap.ExtBut it s.heap h' → (∃ o, h'.get? e = some o ∧ o.cls = .type "StopIteration") → E (.ref e) { s with heap := h' }) : wpAny (model prog w) A (Builtin.SmallTypes.nextOf (.ref it)) Q E s := by
  rcases hty with e | e
  · subst e; exact wpAny_nextOf_ascii_end hh st hx hE
  · subst e; exact wpAny_nextOf_wide_end hh st hx hE

/-- what a zip over a text (iterator i1) and the tuple b (iterator i2) is in the heap -/
structure SZ (h : Heap) (z TI TO i1 i2 b : Addr) (ty : String) (x : Str) (t : Tok) (i : Nat) : Prop where
  D : ZipApart z TI TO i1 i2 b b
  hz : IsZip h z TI TO .none
  hTI : IsPair h TI (.ref i1) (.ref i2)
  hTO : ∃ u v, IsPair h TO u v
  h1 : h.IsStrIter i1 ty x t i
  h2 : h.IsTupleIter i2 b i
  hty : ty = "str_ascii_iterator" ∨ ty = "str_iterator"
def SZf (z TI TO i1 i2 : Addr) (h h' : Heap) : Prop := ∀ c o, c ≠ z → c ≠ TI → c ≠ TO → c ≠ i1 → c ≠ i2 → h.get? c = some o → h'.get? c = some o

theorem sz_item {z TI TO i1 i2 b : Addr} {ty : String} {x : Str} {t : Tok} {i c : Nat} {ys : Array Value} {y : Value} {Q : Value → Shared → Prop} (Z : SZ s.heap z TI TO i1 i2 b ty x t i) (hb : s.heap.IsTuple b ys) (hx : x.cps[i]? = some c) (hy : ys[i]? = some y)
    (hQ : ∀ h' tk tk', IsZip h' z TI TO (rawInt s.heap.objs.size) → IsPair h' TI (.ref i1) (.ref i2) → IsPair h' TO (.str ⟨#[c]⟩ tk) y → h'.IsStrIter i1 ty x t (i + 1) → h'.IsTupleIter i2 b (i + 1) → IsPair h' s.heap.objs.size (.str ⟨#[c]⟩ tk) y →
      SZf z TI TO i1 i2 s.heap h' → Q (.ref s.heap.objs.size) { s with heap := h', toks := tk' }) :
    wpAny (model prog w) A (Builtin.«zip.__next__» ⟨[.ref z], []⟩) (fun fin s' => ∃ v, fin = .done (.ret v) ∧ Q v s') E s := by
  obtain ⟨D, hz, hTI, ⟨u0, v0, hTO⟩, h1, h2, hty⟩ := Z
  show wpAny _ _ (field (.ref z) 2 >>= _) _ _ _
  refine wpAny_bind (wpAny_field hz rfl (x := .bool false) rfl ?_)
  show wpAny _ _ (field (.ref z) 3 >>= _) _ _ _
  refine wpAny_bind (wpAny_field hz rfl (x := .ref TI) rfl ?_)
  refine wpAny_bind (wpAny_seqItems hTI rfl ?_)
  show wpAny _ _ (Builtin.SmallTypes.ownedTupleIsFree (.ref z) >>= _) _ _ _
  refine wpAny_bind ?_
  unfold Builtin.SmallTypes.ownedTupleIsFree
  refine wpAny_bind (wpAny_field hz rfl (x := .none) rfl (wpAny_pure ?_))
  simp only [if_true]
  refine wpAny_bind (wpAny_rule ?_)
  refine wpAny_bind (wpAny_field hz rfl (x := .ref TO) rfl ?_)
  refine wpAny_bind (wpAny_setField_rec hz (by simp) fun g1 z1 k1 => ?_)
  replace z1 : IsZip g1 z TI TO .ellipsis := z1
  refine wpAny_bind ?_
  simp only [List.zipIdx_cons, List.zipIdx_nil, List.forIn_cons, List.forIn_nil]
  refine wpAny_bind (wpAny_bind (wpAny_onRaise ?_))
  show wpAny _ _ (Builtin.SmallTypes.nextOf (.ref i1) >>= _) _ _ _
  refine wpAny_bind (sign_next hty (h1.extBut k1.extBut D.i1z) hx fun g2 s2 k2 => wpAny_pure ?_)
  have p2 : IsPair g2 TO u0 v0 := k2.extBut _ _ D.TOi1 (k1.extBut _ _ D.TOz hTO)
  refine wpAny_bind (wpAny_seqItems p2 rfl ?_)
  refine wpAny_bind (wpAny_updateSeq_pair p2 fun g3 p3 k3 => ?_)
  replace p3 : IsPair g3 TO (.str ⟨#[c]⟩ s.toks) v0 := p3
  refine wpAny_bind (wpAny_letGo (wpAny_pure ?_))
  refine wpAny_bind (wpAny_bind (wpAny_onRaise ?_))
  show wpAny _ _ (Builtin.SmallTypes.nextOf (.ref i2) >>= _) _ _ _
  refine wpAny_bind (RZ.nextOf_tuple_item (((h2.extBut k1.extBut D.i2z).extBut k2.extBut D.i12.symm).extBut k3.extBut D.TOi2.symm)
    (((hb.extBut k1.extBut D.l2z).extBut k2.extBut D.l2i1).extBut k3.extBut D.l2TO) hy fun g4 s4 k4 => wpAny_pure ?_)
  have p4 : IsPair g4 TO (.str ⟨#[c]⟩ s.toks) v0 := k4.extBut _ _ D.TOi2 p3
  refine wpAny_bind (wpAny_seqItems p4 rfl ?_)
  refine wpAny_bind (wpAny_updateSeq_pair p4 fun g5 p5 k5 => ?_)
  replace p5 : IsPair g5 TO (.str ⟨#[c]⟩ s.toks) y := p5
  refine wpAny_bind (wpAny_letGo (wpAny_pure (wpAny_pure ?_)))
  refine wpAny_bind (wpAny_seqItems p5 rfl ?_)
  refine wpAny_bind (wpAny_newTuple ?_)
  have sz : g5.objs.size = s.heap.objs.size := by rw [k5.1, k4.1, k3.1, k2.1, k1.1]
  have kk : SZf z TI TO i1 i2 s.heap g5 := fun a o a1 _ a2 a3 a4 e => k5.extBut _ _ a2 (k4.extBut _ _ a4 (k3.extBut _ _ a2 (k2.extBut _ _ a3 (k1.extBut _ _ a1 e))))
  have z5 : IsZip g5 z TI TO .ellipsis := k5.extBut _ _ D.TOz.symm (k4.extBut _ _ D.i2z.symm (k3.extBut _ _ D.TOz.symm (k2.extBut _ _ D.i1z.symm z1)))
  have i5 : IsPair g5 TI (.ref i1) (.ref i2) := k5.extBut _ _ D.TITO (k4.extBut _ _ D.TIi2 (k3.extBut _ _ D.TITO (k2.extBut _ _ D.TIi1 (k1.extBut _ _ D.TIz hTI))))
  have s5 : g5.IsStrIter i1 ty x t (i + 1) := ((s2.extBut k3.extBut D.TOi1.symm).extBut k4.extBut D.i12).extBut k5.extBut D.TOi1.symm
  have t5 : g5.IsTupleIter i2 b (i + 1) := s4.extBut k5.extBut D.TOi2.symm
  have zl : z < g5.objs.size := Heap.lt_size z5
  show wpAny _ _ (Builtin.SmallTypes.ownedTupleHandOut (.ref z) (.ref g5.objs.size) >>= _) _ _ _
  refine wpAny_bind ?_
  unfold Builtin.SmallTypes.ownedTupleHandOut
  have z6 : IsZip (g5.push { cls := .type "tuple", data := .seq #[(.str ⟨#[c]⟩ s.toks : Value), y] }) z TI TO .ellipsis := Heap.get?_push_of_some _ z5
  refine wpAny_bind (wpAny_setField_rec z6 (by simp) fun g7 z7 k7 => ?_)
  replace z7 : IsZip g7 z TI TO (rawInt g5.objs.size) := z7
  refine wpAny_setField_rec z7 (by simp) fun g8 z8 k8 => ?_
  replace z8 : IsZip g8 z TI TO (rawInt g5.objs.size) := z8
  have up : ∀ a o, a ≠ z → g5.get? a = some o → g8.get? a = some o := fun a o a1 e => k8.extBut _ _ a1 (k7.extBut _ _ a1 (Heap.get?_push_of_some _ e))
  have T8 : IsPair g8 g5.objs.size (.str ⟨#[c]⟩ s.toks) y := k8.extBut _ _ (Nat.ne_of_gt zl) (k7.extBut _ _ (Nat.ne_of_gt zl) (Heap.get?_push_size _ rfl))
  rw [sz] at z8 T8
  refine wpAny_pure ⟨_, rfl, ?_⟩
  show Q (.ref g5.objs.size) _
  rw [sz]
  exact hQ g8 s.toks _ z8 (up _ _ D.TIz i5) (up _ _ D.TOz p5) (let ⟨o, ho, r⟩ := s5; ⟨o, up _ o D.i1z ho, r⟩) (t5.at fun o e => up _ o D.i2z e) T8 fun a o a1 a2 a3 a4 a5 e => up a o a1 (kk a o a1 a2 a3 a4 a5 e)

theorem sz_end {z TI TO i1 i2 b : Addr} {ty : String} {x : Str} {t : Tok} {i : Nat} {ys : Array Value} {Q : Fin → Shared → Prop} (hh : A.handled = none) (Z : SZ s.heap z TI TO i1 i2 b ty x t i) (hb : s.heap.IsTuple b ys) (hend : x.cps[i]? = none ∨ ys[i]? = none)
    (hE : ∀ h' e tk, SZf z TI TO i1 i2 s.heap h' → (∃ o, h'.get? e = some o ∧ o.cls = .type "StopIteration") → E (.ref e) { s with heap := h', toks := tk }) :
    wpAny (model prog w) A (Builtin.«zip.__next__» ⟨[.ref z], []⟩) Q E s := by
  obtain ⟨D, hz, hTI, ⟨u0, v0, hTO⟩, h1, h2, hty⟩ := Z
  show wpAny _ _ (field (.ref z) 2 >>= _) _ _ _
  refine wpAny_bind (wpAny_field hz rfl (x := .bool false) rfl ?_)
  show wpAny _ _ (field (.ref z) 3 >>= _) _ _ _
  refine wpAny_bind (wpAny_field hz rfl (x := .ref TI) rfl ?_)
  refine wpAny_bind (wpAny_seqItems hTI rfl ?_)
  show wpAny _ _ (Builtin.SmallTypes.ownedTupleIsFree (.ref z) >>= _) _ _ _
  refine wpAny_bind ?_
  unfold Builtin.SmallTypes.ownedTupleIsFree
  refine wpAny_bind (wpAny_field hz rfl (x := .none) rfl (wpAny_pure ?_))
  simp only [if_true]
  refine wpAny_bind (wpAny_rule ?_)
  refine wpAny_bind (wpAny_field hz rfl (x := .ref TO) rfl ?_)
  refine wpAny_bind (wpAny_setField_rec hz (by simp) fun g1 z1 k1 => ?_)
  replace z1 : IsZip g1 z TI TO .ellipsis := z1
  refine wpAny_bind ?_
  simp only [List.zipIdx_cons, List.zipIdx_nil, List.forIn_cons, List.forIn_nil]
  refine wpAny_bind (wpAny_bind (wpAny_onRaise ?_))
  show wpAny _ _ (Builtin.SmallTypes.nextOf (.ref i1) >>= _) _ _ _
  cases hx : x.cps[i]? with
  | none =>
    refine wpAny_bind (sign_last hty hh (h1.extBut k1.extBut D.i1z) hx fun g2 e k2 he => ?_)
    obtain ⟨oe, ho, hc⟩ := he
    have z2 : IsZip g2 z TI TO .ellipsis := k2 _ _ D.i1z.symm z1
    have ez : e ≠ z := fun q => by subst q; rw [z2] at ho; cases ho; simp at hc
    refine wpAny_setField_rec z2 (by simp) fun g3 _ k3 => hE g3 e _ (fun a o a1 _ _ a3 _ q => k3.extBut _ _ a1 (k2 _ _ a3 (k1.extBut _ _ a1 q))) ⟨oe, k3.extBut _ _ ez ho, hc⟩
  | some c =>
    have hy : ys[i]? = none := by rcases hend with q | q; rw [hx] at q; cases q; exact q
    refine wpAny_bind (sign_next hty (h1.extBut k1.extBut D.i1z) hx fun g2 s2 k2 => wpAny_pure ?_)
    have p2 : IsPair g2 TO u0 v0 := k2.extBut _ _ D.TOi1 (k1.extBut _ _ D.TOz hTO)
    refine wpAny_bind (wpAny_seqItems p2 rfl ?_)
    refine wpAny_bind (wpAny_updateSeq_pair p2 fun g3 p3 k3 => ?_)
    refine wpAny_bind (wpAny_letGo (wpAny_pure ?_))
    refine wpAny_bind (wpAny_bind (wpAny_onRaise ?_))
    show wpAny _ _ (Builtin.SmallTypes.nextOf (.ref i2) >>= _) _ _ _
    refine wpAny_bind (RZ.nextOf_tuple_end hh (((h2.extBut k1.extBut D.i2z).extBut k2.extBut D.i12.symm).extBut k3.extBut D.TOi2.symm)
      (((hb.extBut k1.extBut D.l2z).extBut k2.extBut D.l2i1).extBut k3.extBut D.l2TO) hy fun g4 e k4 he => ?_)
    obtain ⟨oe, ho, hc⟩ := he
    have z4 : IsZip g4 z TI TO .ellipsis := k4 _ _ D.i2z.symm (k3.extBut _ _ D.TOz.symm (k2.extBut _ _ D.i1z.symm z1))
    have ez : e ≠ z := fun q => by subst q; rw [z4] at ho; cases ho; simp at hc
    refine wpAny_setField_rec z4 (by simp) fun g5 _ k5 => hE g5 e _ (fun a o a1 _ a2 a3 a4 q => k5.extBut _ _ a1 (k4 _ _ a4 (k3.extBut _ _ a2 (k2.extBut _ _ a3 (k1.extBut _ _ a1 q))))) ⟨oe, k5.extBut _ _ ez ho, hc⟩

theorem sz_pyItem {z TI TO i1 i2 b : Addr} {ty : String} {x : Str} {t : Tok} {i c : Nat} {ys : Array Value} {y : Value} {Q : Option Value → Shared → Prop} (Z : SZ s.heap z TI TO i1 i2 b ty x t i) (hb : s.heap.IsTuple b ys) (hx : x.cps[i]? = some c) (hy : ys[i]? = some y)
    (hQ : ∀ h' tk tk', IsZip h' z TI TO (rawInt s.heap.objs.size) → IsPair h' TI (.ref i1) (.ref i2) → IsPair h' TO (.str ⟨#[c]⟩ tk) y → h'.IsStrIter i1 ty x t (i + 1) → h'.IsTupleIter i2 b (i + 1) → IsPair h' s.heap.objs.size (.str ⟨#[c]⟩ tk) y →
      SZf z TI TO i1 i2 s.heap h' → Q (some (.ref s.heap.objs.size)) { s with heap := h', toks := tk' }) : wpAny (model prog w) A (pyNext (.ref z)) Q E s := by
  have hT : s.TypeIs (.ref z) "zip" := ⟨_, Z.hz, rfl⟩
  unfold pyNext
  exact wpAny_bind (wpAny_attempt (wpAny_callSpecial?_slot (name := Str.ofString "__next__") hT F.slot_zip_next
    (wpAny_call_entry F.slot_zip_next hT F.entry_zip_next (sz_item Z hb hx hy fun h' tk tk' a1 a2 a3 a4 a5 a6 a7 => wpAny_pure (hQ h' tk tk' a1 a2 a3 a4 a5 a6 a7)) (F.args_zip_next_1 _))))
theorem sz_pyEnd {z TI TO i1 i2 b : Addr} {ty : String} {x : Str} {t : Tok} {i : Nat} {ys : Array Value} {Q : Option Value → Shared → Prop} (hh : A.handled = none) (Z : SZ s.heap z TI TO i1 i2 b ty x t i) (hb : s.heap.IsTuple b ys) (hend : x.cps[i]? = none ∨ ys[i]? = none)
    (hQ : ∀ h' tk, SZf z TI TO i1 i2 s.heap h' → Q none { s with heap := h', toks := tk }) : wpAny (model prog w) A (pyNext (.ref z)) Q E s := by
  have hT : s.TypeIs (.ref z) "zip" := ⟨_, Z.hz, rfl⟩
  unfold pyNext
  refine wpAny_bind (wpAny_attempt (wpAny_callSpecial?_slot (name := Str.ofString "__next__") hT F.slot_zip_next
    (wpAny_call_entry F.slot_zip_next hT F.entry_zip_next (sz_end hh Z hb hend fun h' e tk hk he => ?_) (F.args_zip_next_1 _))))
  obtain ⟨o, ho, hc⟩ := he
  refine wpAny_bind (wpAny_isInstance (T := "StopIteration") (b := true) ⟨o, ho, hc⟩ isSubtype_stop ?_)
  exact wpAny_pure (hQ _ _ hk)
end

/-! the making of it -/
abbrev sz1 (h : Heap) (x : Str) (t : Tok) : Heap := h.push { cls := .type (strIterType x), data := .fields #[.str x t, .int 0 0] }
abbrev sz2 (h : Heap) (x : Str) (t : Tok) (b : Addr) : Heap := (sz1 h x t).push { cls := .type "tuple_iterator", data := .fields #[.ref b, .int 0 0] }
abbrev sz3 (h : Heap) (x : Str) (t : Tok) (b : Addr) : Heap := (sz2 h x t b).push { cls := .type "tuple", data := .seq #[.ref h.objs.size, .ref (sz1 h x t).objs.size] }
abbrev sz4 (h : Heap) (x : Str) (t : Tok) (b : Addr) : Heap := (sz3 h x t b).push { cls := .type "tuple", data := .seq #[.none, .none] }
abbrev sz5 (h : Heap) (x : Str) (t : Tok) (b : Addr) : Heap := (sz4 h x t b).push { cls := .type "zip", data := .fields #[.none, .bool false, .bool false, .ref (sz2 h x t b).objs.size, .ref (sz3 h x t b).objs.size] }
theorem sz_meets (x : Str) (t : Tok) (b : Addr) (ys : Array Value) :
    Meets (Builtin.«zip.__new__» ⟨[.type "zip", .str x t, .ref b], []⟩) (fun _ R s => s.heap.IsTuple b ys ∧ R (.ok (.ret (.ref (sz4 s.heap x t b).objs.size))) { s with heap := sz5 s.heap x t b }) :=
  .of_wp fun prog w A R s h => by
    obtain ⟨hp, g, d, tk, os⟩ := s; obtain ⟨hb, h⟩ := h
    have hsub := sub_zip
    have hB : Heap.IsTuple (Shared.heap ⟨hp.push { cls := .type (strIterType x), data := .fields #[.str x t, .int 0 0] }, g, d, tk, os⟩) b ys := Heap.IsTuple.push hb _
    wp_walk using wpAny_pyIter_strU, wpAny_pyIter_tuple hB
    exact ⟨_, rfl, h⟩
theorem sz_type (x : Str) : strIterType x = "str_ascii_iterator" ∨ strIterType x = "str_iterator" := by
  unfold strIterType
  split
  · exact .inl rfl
  · exact .inr rfl
section
variable {prog : Program} {w : World} {A : Around} {E : Value → Shared → Prop} {s : Shared}
theorem sz_call {x : Str} {t : Tok} {b : Addr} {ys : Array Value} {Q : Value → Shared → Prop} (hb : s.heap.IsTuple b ys)
    (h : ∀ h', SZ h' (s.heap.objs.size + 4) (s.heap.objs.size + 2) (s.heap.objs.size + 3) s.heap.objs.size (s.heap.objs.size + 1) b (strIterType x) x t 0 → (∀ c o, s.heap.get? c = some o → h'.get? c = some o) → Q (.ref (s.heap.objs.size + 4)) { s with heap := h' }) :
    wpAny (model prog w) A (call (.type "zip") [.str x t, .ref b]) Q E s := by
  have lb : b < s.heap.objs.size := by obtain ⟨o, ho, _⟩ := id hb; exact Heap.lt_size ho
  refine callType_new F.called_zip (by decide) (F.typeCall_zip_2 _ _) (F.newCall_zip_2 _ _) (fun obj => F.args_object_init_3 obj _ _) F.entry_zip_new (sz_meets x t b ys) ⟨hb, ?_⟩
  have n1 : (sz1 s.heap x t).objs.size = s.heap.objs.size + 1 := Heap.size_push ..
  have n2 : (sz2 s.heap x t b).objs.size = s.heap.objs.size + 2 := by rw [Heap.size_push, n1]
  have n3 : (sz3 s.heap x t b).objs.size = s.heap.objs.size + 3 := by rw [Heap.size_push, n2]
  have n4 : (sz4 s.heap x t b).objs.size = s.heap.objs.size + 4 := by rw [Heap.size_push, n3]
  have o5 : (sz5 s.heap x t b).get? (sz4 s.heap x t b).objs.size = some _ := Heap.get?_push_size _ rfl
  have o4 : (sz5 s.heap x t b).get? (sz3 s.heap x t b).objs.size = some _ := Heap.get?_push_of_some _ (Heap.get?_push_size _ rfl)
  have o3 : (sz5 s.heap x t b).get? (sz2 s.heap x t b).objs.size = some _ := Heap.get?_push_of_some _ (Heap.get?_push_of_some _ (Heap.get?_push_size _ rfl))
  have o2 : (sz5 s.heap x t b).get? (sz1 s.heap x t).objs.size = some _ := Heap.get?_push_of_some _ (Heap.get?_push_of_some _ (Heap.get?_push_of_some _ (Heap.get?_push_size _ rfl)))
  have o1 : (sz5 s.heap x t b).get? s.heap.objs.size = some _ := Heap.get?_push_of_some _ (Heap.get?_push_of_some _ (Heap.get?_push_of_some _ (Heap.get?_push_of_some _ (Heap.get?_push_size _ rfl))))
  show _ ∧ _
  rw [n2, n3, n4] at o5
  rw [n1, n2] at o3
  rw [n3] at o4
  rw [n1] at o2
  rw [n4]
  exact ⟨⟨_, o5, rfl⟩, h _ ⟨PySem.W.ktu_apart _ _ _ lb lb, o5, o3, ⟨_, _, o4⟩, ⟨_, o1, rfl, rfl⟩, ⟨_, o2, rfl, rfl⟩, sz_type x⟩ fun c o q =>
    Heap.get?_push_of_some _ (Heap.get?_push_of_some _ (Heap.get?_push_of_some _ (Heap.get?_push_of_some _ (Heap.get?_push_of_some _ q))))⟩
end

/-- a text and the tuple at b, side by side, in new pairs -/
def ItzS (K : PySem.W.Frag) (x : Str) (b : Addr) : It :=
  ⟨fun i H => i < x.cps.size ∧ ∃ (ys : List V) (y : V), SqT K H b ys ∧ ys[i]? = some y,
    fun i H v H' => ∃ T c y, v = .ref T ∧ H T = none ∧ H' = upd H T (.tup [.str ⟨#[c]⟩, y]) ∧ x.cps[i]? = some c ∧ ∀ ys, SqT K H b ys → ys[i]? = some y,
    fun i H => ∃ ys : List V, SqT K H b ys ∧ (x.cps.size ≤ i ∨ ys.length ≤ i)⟩
theorem sz_turn {P : Program} {w : World} {K : PySem.W.Frag} {elts : List Expr} {kk : Nat} {tpos : Pos} {b z TI TO i1 i2 : Addr} {ty : String} {x : Str} {t : Tok} :
    Turn P w K (.Tuple elts kk tpos) (ItzS K x b) [z, TI, TO, i1, i2] z (fun i h => SZ h z TI TO i1 i2 b ty x t i) where
  mem := by simp
  obj := fun i h st c hc => by
    obtain ⟨_, hz, hTI, ⟨u, v, hTO⟩, ⟨o1, e1, _, d1⟩, ⟨o2, e2, _, d2⟩, _⟩ := st
    have e' : c = z ∨ c = TI ∨ c = TO ∨ c = i1 ∨ c = i2 := by simpa using hc
    rcases e' with q | q | q | q | q
    · rw [q]; exact ⟨_, hz, fun v q => nomatch q⟩
    · rw [q]; exact ⟨_, hTI, fun v q => nomatch q⟩
    · rw [q]; exact ⟨_, hTO, fun v q => nomatch q⟩
    · rw [q]; exact ⟨o1, e1, fun v q => by rw [d1] at q; cases q⟩
    · rw [q]; exact ⟨o2, e2, fun v q => by rw [d2] at q; cases q⟩
  keep := fun i h h' st k => by
    obtain ⟨D, hz, hTI, ⟨u, v, hTO⟩, ⟨o1, e1, r1⟩, h2, hty⟩ := st
    exact ⟨D, k z (by simp) _ hz, k TI (by simp) _ hTI, ⟨u, v, k TO (by simp) _ hTO⟩, ⟨o1, k i1 (by simp) _ e1, r1⟩, h2.at fun o q => k i2 (by simp) o q, hty⟩
  item := by
    intro X hP hw hK hc i pins s σ H E I hf st hg
    subst hP hw hK
    obtain ⟨hi, ys, y, hq, hy⟩ := hg
    obtain ⟨its, rv, p, _⟩ := I.tuple hq
    obtain ⟨u, hu, ru⟩ := rv.get hy
    have hxc : x.cps[i]? = some x.cps[i] := Array.getElem?_eq_getElem hi
    have D := st.D
    have hzl : z < s.heap.objs.size := Heap.lt_size st.hz
    refine sz_pyItem st p hxc (y := u) (by simpa using hu) fun h' tk tk' z' TI' TO' h1' h2' hT hk => ?_
    refine ⟨_, rfl, wpAny_letOwnedTupleGo_zip (s := { s with heap := h', toks := tk' }) z' fun h2 z2 sb => ?_⟩
    have hT2 : h2.get? s.heap.objs.size = some { cls := .type "tuple", data := .seq #[.str ⟨#[x.cps[i]]⟩ tk, u] } := (sb.2 _ (Nat.ne_of_gt hzl)).trans hT
    have new : ObjOk X.prog X.w (upd H s.heap.objs.size (.tup [.str ⟨#[x.cps[i]]⟩, y])) h2 s.heap.objs.size (.tup [.str ⟨#[x.cps[i]]⟩, y]) :=
      ⟨by show 2 ≤ sizeLine; decide, [.str ⟨#[x.cps[i]]⟩ tk, u], .cons ⟨tk, rfl⟩ (.cons ru .nil), ⟨_, hT2, rfl, _, rfl⟩⟩
    have I1 : Inv X pins σ (upd H s.heap.objs.size (.tup [.str ⟨#[x.cps[i]]⟩, y])) { s with heap := h2, toks := tk' } :=
      I.turnedNew (t' := tk') (ch := [z, TI, TO, i1, i2]) (fun c o hb q => (sb.2 c (fun q' => hb (by simp [q']))).trans (hk c o (fun q' => hb (by simp [q'])) (fun q' => hb (by simp [q'])) (fun q' => hb (by simp [q'])) (fun q' => hb (by simp [q'])) (fun q' => hb (by simp [q'])) q)) hf (Nat.le_refl _) new
    refine ⟨.ref s.heap.objs.size, _, I1, rfl, ⟨_, x.cps[i], y, rfl, I.hok.fresh (Nat.le_refl _), rfl, hxc, fun l hl => by rw [I.tuple_inj hl hq]; exact hy⟩, ⟨D, z2, ?_, ⟨.str ⟨#[x.cps[i]]⟩ tk, u, ?_⟩, ?_, ?_, st.hty⟩, fun c hcm => ?_⟩
    · exact (sb.2 _ D.TIz).trans TI'
    · exact (sb.2 _ D.TOz).trans TO'
    · obtain ⟨o, ho, r⟩ := h1'
      exact ⟨o, (sb.2 _ D.i1z).trans ho, r⟩
    · exact h2'.at fun o q => (sb.2 _ D.i2z).trans q
    · have hlt : c < s.heap.objs.size := by
        have e' : c = z ∨ c = TI ∨ c = TO ∨ c = i1 ∨ c = i2 := by simpa using hcm
        rcases e' with q | q | q | q | q
        · rw [q]; exact hzl
        · rw [q]; exact Heap.lt_size st.hTI
        · rw [q]; obtain ⟨_, _, q'⟩ := st.hTO; exact Heap.lt_size q'
        · rw [q]; obtain ⟨_, e1, _⟩ := st.h1; exact Heap.lt_size e1
        · rw [q]; obtain ⟨_, e2, _⟩ := st.h2; exact Heap.lt_size e2
      rw [upd_ne (Nat.ne_of_lt hlt)]
      exact (hf c hcm).1
  done := by
    intro X hP hw hK hc i pins s σ H E I hf st hg
    subst hP hw hK
    obtain ⟨ys, hq, hend⟩ := hg
    obtain ⟨its, rv, p, _⟩ := I.tuple hq
    have ln := rv.length
    have he : x.cps[i]? = none ∨ its.toArray[i]? = none := by
      rcases hend with q | q
      · exact .inl (Array.getElem?_eq_none q)
      · exact .inr (by simp; omega)
    exact sz_pyEnd (I.ok.hd hc) st p he fun h' tk hk => ⟨rfl, I.turnedL (t' := tk) (ch := [z, TI, TO, i1, i2]) (fun c o hb q =>
      hk c o (fun q' => hb (by simp [q'])) (fun q' => hb (by simp [q'])) (fun q' => hb (by simp [q'])) (fun q' => hb (by simp [q'])) (fun q' => hb (by simp [q'])) q) hf⟩
  self := fun A i s Q E st h => wpAny_pyIter_zip st.hz h

def iZipS (K : PySem.W.Frag) (ta : TA) : TI := fun σ H R => ta σ H fun vs H1 => ∃ x b ys, vs = [.str x, .ref b] ∧ SqT K H1 b ys ∧ R (ItzS K x b) H1
theorem pi_zipS {X : Cx} {e e2 : Expr} {ta : TA} {p pos tpos : Pos} {elts : List Expr} {kk : Nat} (hg : L2.Gl X "zip") (hm : X.mg "zip" = none) (ha : PA X [e, e2] ta)
    (hs : starEach [e, e2] X.env = (false, eval e X.env) :: starEach [e2] X.env := by rfl) (hpl : (backTo pos (starEach [e2] X.env)).any (·.1) = false := by rfl) :
    PI X (.Tuple elts kk tpos) (.Call (.Name "zip" p) [e, e2] [] pos) (iZipS X.K ta) := by
  refine ⟨fun pins s σ H R I h => ?_⟩
  refine Call_ (ld_blt I hg hm PyProof.Rows.boot_zip (PyProof.Rows.callWith_type1 (thn (ha.run pos pins s σ H _ I h) fun us s1 ⟨vs, H1, I1, r1, q1⟩ => ?_) hs hpl))
  obtain ⟨x, b, ys, ex, hq, q⟩ := q1
  subst ex
  cases r1 with
  | cons r rr =>
    cases rr with
    | cons r' rr =>
      cases rr
      obtain ⟨t, rfl⟩ := r
      cases r'
      have fresh5 : ∀ c, c ∈ [s1.heap.objs.size + 4, s1.heap.objs.size + 2, s1.heap.objs.size + 3, s1.heap.objs.size, s1.heap.objs.size + 1] → FpOk X pins H1 c := fun c hcm => by
        have hle : s1.heap.objs.size ≤ c := by
          have e' : c = s1.heap.objs.size + 4 ∨ c = s1.heap.objs.size + 2 ∨ c = s1.heap.objs.size + 3 ∨ c = s1.heap.objs.size ∨ c = s1.heap.objs.size + 1 := by simpa using hcm
          rcases e' with q | q | q | q | q <;> rw [q]
          · exact Nat.le_add_right _ _
          · exact Nat.le_add_right _ _
          · exact Nat.le_add_right _ _
          · exact Nat.le_refl _
          · exact Nat.le_add_right _ _
        exact I1.fpOk hle (I1.hok.fresh hle)
      obtain ⟨its, rv, p1, _⟩ := I1.tuple hq
      refine sz_call (x := x) (t := t) (show s1.heap.IsTuple b its.toArray from p1) fun h' Z hk => wpAny_pyIter_zip Z.hz ?_
      have I2 : Inv X pins σ H1 { s1 with heap := h' } := I1.kept (t' := s1.toks) hk
      exact ⟨s1.heap.objs.size + 4, [s1.heap.objs.size + 4, s1.heap.objs.size + 2, s1.heap.objs.size + 3, s1.heap.objs.size, s1.heap.objs.size + 1], _, _, H1, rfl, I2, sz_turn, Z, fresh5, q⟩
end My
namespace My
open PySem PySem.Spec PyProof.Rows L2
/-! ### comprehensions whose results are known by the turns -/
theorem sqT_same {K : PySem.W.Frag} {H H' : Hp} {p : Addr} {xs : List V} (s : Same H H') (h : SqT K H p xs) : SqT K H' p xs := by
  rcases h with (h | ⟨o, h⟩) | h
  · exact .inl (.inl (s _ _ h))
  · exact .inl (.inr ⟨o, s _ _ h⟩)
  · exact .inr h
/-- one more result -/
theorem r_push {H1 H H4 : Hp} {D : Addr} {R : Nat → List V} {i : Nat} (hz : ∀ i, (R i).length ≤ 100000) (hD : H1 D = none) (s : Same H1 H) (h : H D = some (.lst (R i))) : ∀ y H4, R (i + 1) = R i ++ [y] → Same H H4 → ∃ acc, H4 D = some (.lst acc) ∧ acc.length < sizeLine ∧ Same H1 (upd H4 D (.lst (acc ++ [y]))) ∧ (upd H4 D (.lst (acc ++ [y]))) D = some (.lst (R (i + 1))) := by
  intro y H4 e s4
  refine ⟨_, s4 _ _ h, Nat.lt_of_le_of_lt (hz i) (by decide), fun b o hb => ?_, ?_⟩
  · rw [upd_ne (ne_of_none hb hD)]
    exact s4 _ _ (s _ _ hb)
  · rw [upd_same, e]
theorem r_keep {H1 H : Hp} {D : Addr} {R : Nat → List V} {i : Nat} (s : Same H1 H) (h : H D = some (.lst (R i))) : ∀ H4, R (i + 1) = R i → Same H H4 → Same H1 H4 ∧ H4 D = some (.lst (R (i + 1))) := by
  intro H4 e s4
  exact ⟨s.trans s4, by rw [e]; exact s4 _ _ h⟩
theorem lc_tupR {K : PySem.W.Frag} {a : Addr} {xs : List V} {g : TG} {tt : TT} {te : TE} {vs : List Nat} {σ : L2.St} {H1 : Hp} {D : Addr} {Qd : Hp → Prop} (R : Nat → List V) (h0 : R 0 = []) (hz : ∀ i, (R i).length ≤ 100000) (hD : H1 D = none) (ha : SqT K H1 a xs) 
    (hs : ∀ i x H, xs[i]? = some x → Same H1 H → (∀ y H4, R (i + 1) = R i ++ [y] → Same H H4 → ∃ acc, H4 D = some (.lst acc) ∧ acc.length < sizeLine ∧ Same H1 (upd H4 D (.lst (acc ++ [y]))) ∧ (upd H4 D (.lst (acc ++ [y]))) D = some (.lst (R (i + 1)))) → (∀ H4, R (i + 1) = R i → Same H H4 → Same H1 H4 ∧ H4 D = some (.lst (R (i + 1)))) →
      g x (wipe σ vs) H fun σ2 H2 => wipe σ2 vs = wipe σ vs ∧ tt σ2 H2 fun b H3 => if b = true then te σ2 H3 fun y H4 => ∃ acc, H4 D = some (.lst acc) ∧ acc.length < sizeLine ∧ Same H1 (upd H4 D (.lst (acc ++ [y]))) ∧ (upd H4 D (.lst (acc ++ [y]))) D = some (.lst (R (i + 1))) else Same H1 H3 ∧ H3 D = some (.lst (R (i + 1))))
    (hd : ∀ H, Same H1 H → H D = some (.lst (R xs.length)) → Qd H) :
    ∃ W : Nat → Nat → Hp → Prop, (∃ m, W 0 m (upd H1 D (.lst []))) ∧ ∀ i m H, W i m H →
      ((Itt K a).stop i H ∧ Qd H) ∨ ((Itt K a).go i H ∧ ∃ Nx : Hp → Prop, (∀ H', Nx H' → ∃ m', m' < m ∧ W (i + 1) m' H') ∧ ∀ x H', (Itt K a).yld i H x H' → g x (wipe σ vs) H' fun σ2 H2 => wipe σ2 vs = wipe σ vs ∧ tt σ2 H2 fun b H3 =>
        if b = true then te σ2 H3 fun y H4 => ∃ acc, H4 D = some (.lst acc) ∧ acc.length < sizeLine ∧ Nx (upd H4 D (.lst (acc ++ [y]))) else Nx H3) := by
  have fin : ∀ {i : Nat} {H : Hp}, Same H1 H → H D = some (.lst (R i)) → ∀ y H4, R (i + 1) = R i ++ [y] → Same H H4 → ∃ acc, H4 D = some (.lst acc) ∧ acc.length < sizeLine ∧ Same H1 (upd H4 D (.lst (acc ++ [y]))) ∧ (upd H4 D (.lst (acc ++ [y]))) D = some (.lst (R (i + 1))) := fun s h => r_push (H4 := H1) hz hD s h
  have fin0 : ∀ {i : Nat} {H : Hp}, Same H1 H → H D = some (.lst (R i)) → ∀ H4, R (i + 1) = R i → Same H H4 → Same H1 H4 ∧ H4 D = some (.lst (R (i + 1))) := fun s h => r_keep s h
  exact lc_tup (K := K) (a := a) (xs := xs) (fun i H' => Same H1 H' ∧ H' D = some (.lst (R i))) ⟨same_upd hD, by rw [upd_same, h0]⟩ (fun i H _ h => sqT_same h.1 ha) (fun i x H hx h => hs i x H hx h.1 (fin h.1 h.2) (fin0 h.1 h.2)) (fun H h => hd H h.1 h.2)
theorem lc_listR {K : PySem.W.Frag} {a : Addr} {xs : List V} {g : TG} {tt : TT} {te : TE} {vs : List Nat} {σ : L2.St} {H1 : Hp} {D : Addr} {Qd : Hp → Prop} (R : Nat → List V) (h0 : R 0 = []) (hz : ∀ i, (R i).length ≤ 100000) (hD : H1 D = none) (ha : SqL K H1 a xs) 
    (hs : ∀ i x H, xs[i]? = some x → Same H1 H → (∀ y H4, R (i + 1) = R i ++ [y] → Same H H4 → ∃ acc, H4 D = some (.lst acc) ∧ acc.length < sizeLine ∧ Same H1 (upd H4 D (.lst (acc ++ [y]))) ∧ (upd H4 D (.lst (acc ++ [y]))) D = some (.lst (R (i + 1)))) → (∀ H4, R (i + 1) = R i → Same H H4 → Same H1 H4 ∧ H4 D = some (.lst (R (i + 1)))) →
      g x (wipe σ vs) H fun σ2 H2 => wipe σ2 vs = wipe σ vs ∧ tt σ2 H2 fun b H3 => if b = true then te σ2 H3 fun y H4 => ∃ acc, H4 D = some (.lst acc) ∧ acc.length < sizeLine ∧ Same H1 (upd H4 D (.lst (acc ++ [y]))) ∧ (upd H4 D (.lst (acc ++ [y]))) D = some (.lst (R (i + 1))) else Same H1 H3 ∧ H3 D = some (.lst (R (i + 1))))
    (hd : ∀ H, Same H1 H → H D = some (.lst (R xs.length)) → Qd H) :
    ∃ W : Nat → Nat → Hp → Prop, (∃ m, W 0 m (upd H1 D (.lst []))) ∧ ∀ i m H, W i m H →
      ((Itl K a).stop i H ∧ Qd H) ∨ ((Itl K a).go i H ∧ ∃ Nx : Hp → Prop, (∀ H', Nx H' → ∃ m', m' < m ∧ W (i + 1) m' H') ∧ ∀ x H', (Itl K a).yld i H x H' → g x (wipe σ vs) H' fun σ2 H2 => wipe σ2 vs = wipe σ vs ∧ tt σ2 H2 fun b H3 =>
        if b = true then te σ2 H3 fun y H4 => ∃ acc, H4 D = some (.lst acc) ∧ acc.length < sizeLine ∧ Nx (upd H4 D (.lst (acc ++ [y]))) else Nx H3) := by
  have fin : ∀ {i : Nat} {H : Hp}, Same H1 H → H D = some (.lst (R i)) → ∀ y H4, R (i + 1) = R i ++ [y] → Same H H4 → ∃ acc, H4 D = some (.lst acc) ∧ acc.length < sizeLine ∧ Same H1 (upd H4 D (.lst (acc ++ [y]))) ∧ (upd H4 D (.lst (acc ++ [y]))) D = some (.lst (R (i + 1))) := fun s h => r_push (H4 := H1) hz hD s h
  have fin0 : ∀ {i : Nat} {H : Hp}, Same H1 H → H D = some (.lst (R i)) → ∀ H4, R (i + 1) = R i → Same H H4 → Same H1 H4 ∧ H4 D = some (.lst (R (i + 1))) := fun s h => r_keep s h
  exact lc_list (K := K) (a := a) (xs := xs) (fun i H' => Same H1 H' ∧ H' D = some (.lst (R i))) ⟨same_upd hD, by rw [upd_same, h0]⟩ (fun i H _ h => h.1.seq ha) (fun i x H hx h => hs i x H hx h.1 (fin h.1 h.2) (fin0 h.1 h.2)) (fun H h => hd H h.1 h.2)
theorem lc_rangeR {lo : Int} {n : Nat} {g : TG} {tt : TT} {te : TE} {vs : List Nat} {σ : L2.St} {H1 : Hp} {D : Addr} {Qd : Hp → Prop} (R : Nat → List V) (h0 : R 0 = []) (hz : ∀ i, (R i).length ≤ 100000) (hD : H1 D = none) 
    (hs : ∀ i H, i < n → Same H1 H → (∀ y H4, R (i + 1) = R i ++ [y] → Same H H4 → ∃ acc, H4 D = some (.lst acc) ∧ acc.length < sizeLine ∧ Same H1 (upd H4 D (.lst (acc ++ [y]))) ∧ (upd H4 D (.lst (acc ++ [y]))) D = some (.lst (R (i + 1)))) → (∀ H4, R (i + 1) = R i → Same H H4 → Same H1 H4 ∧ H4 D = some (.lst (R (i + 1)))) →
      g (.int (lo + (i : Nat))) (wipe σ vs) H fun σ2 H2 => wipe σ2 vs = wipe σ vs ∧ tt σ2 H2 fun b H3 => if b = true then te σ2 H3 fun y H4 => ∃ acc, H4 D = some (.lst acc) ∧ acc.length < sizeLine ∧ Same H1 (upd H4 D (.lst (acc ++ [y]))) ∧ (upd H4 D (.lst (acc ++ [y]))) D = some (.lst (R (i + 1))) else Same H1 H3 ∧ H3 D = some (.lst (R (i + 1))))
    (hd : ∀ H, Same H1 H → H D = some (.lst (R n)) → Qd H) :
    ∃ W : Nat → Nat → Hp → Prop, (∃ m, W 0 m (upd H1 D (.lst []))) ∧ ∀ i m H, W i m H →
      ((Itr lo n).stop i H ∧ Qd H) ∨ ((Itr lo n).go i H ∧ ∃ Nx : Hp → Prop, (∀ H', Nx H' → ∃ m', m' < m ∧ W (i + 1) m' H') ∧ ∀ x H', (Itr lo n).yld i H x H' → g x (wipe σ vs) H' fun σ2 H2 => wipe σ2 vs = wipe σ vs ∧ tt σ2 H2 fun b H3 =>
        if b = true then te σ2 H3 fun y H4 => ∃ acc, H4 D = some (.lst acc) ∧ acc.length < sizeLine ∧ Nx (upd H4 D (.lst (acc ++ [y]))) else Nx H3) := by
  have fin : ∀ {i : Nat} {H : Hp}, Same H1 H → H D = some (.lst (R i)) → ∀ y H4, R (i + 1) = R i ++ [y] → Same H H4 → ∃ acc, H4 D = some (.lst acc) ∧ acc.length < sizeLine ∧ Same H1 (upd H4 D (.lst (acc ++ [y]))) ∧ (upd H4 D (.lst (acc ++ [y]))) D = some (.lst (R (i + 1))) := fun s h => r_push (H4 := H1) hz hD s h
  have fin0 : ∀ {i : Nat} {H : Hp}, Same H1 H → H D = some (.lst (R i)) → ∀ H4, R (i + 1) = R i → Same H H4 → Same H1 H4 ∧ H4 D = some (.lst (R (i + 1))) := fun s h => r_keep s h
  exact lc_range (lo := lo) (n := n) (fun i H' => Same H1 H' ∧ H' D = some (.lst (R i))) ⟨same_upd hD, by rw [upd_same, h0]⟩  (fun i H hx h => hs i H hx h.1 (fin h.1 h.2) (fin0 h.1 h.2)) (fun H h => hd H h.1 h.2)
theorem lc_strR {z : Str} {g : TG} {tt : TT} {te : TE} {vs : List Nat} {σ : L2.St} {H1 : Hp} {D : Addr} {Qd : Hp → Prop} (R : Nat → List V) (h0 : R 0 = []) (hz : ∀ i, (R i).length ≤ 100000) (hD : H1 D = none) 
    (hs : ∀ i c H, z.cps[i]? = some c → Same H1 H → (∀ y H4, R (i + 1) = R i ++ [y] → Same H H4 → ∃ acc, H4 D = some (.lst acc) ∧ acc.length < sizeLine ∧ Same H1 (upd H4 D (.lst (acc ++ [y]))) ∧ (upd H4 D (.lst (acc ++ [y]))) D = some (.lst (R (i + 1)))) → (∀ H4, R (i + 1) = R i → Same H H4 → Same H1 H4 ∧ H4 D = some (.lst (R (i + 1)))) →
      g (.str ⟨#[c]⟩) (wipe σ vs) H fun σ2 H2 => wipe σ2 vs = wipe σ vs ∧ tt σ2 H2 fun b H3 => if b = true then te σ2 H3 fun y H4 => ∃ acc, H4 D = some (.lst acc) ∧ acc.length < sizeLine ∧ Same H1 (upd H4 D (.lst (acc ++ [y]))) ∧ (upd H4 D (.lst (acc ++ [y]))) D = some (.lst (R (i + 1))) else Same H1 H3 ∧ H3 D = some (.lst (R (i + 1))))
    (hd : ∀ H, Same H1 H → H D = some (.lst (R z.cps.size)) → Qd H) :
    ∃ W : Nat → Nat → Hp → Prop, (∃ m, W 0 m (upd H1 D (.lst []))) ∧ ∀ i m H, W i m H →
      ((Its z).stop i H ∧ Qd H) ∨ ((Its z).go i H ∧ ∃ Nx : Hp → Prop, (∀ H', Nx H' → ∃ m', m' < m ∧ W (i + 1) m' H') ∧ ∀ x H', (Its z).yld i H x H' → g x (wipe σ vs) H' fun σ2 H2 => wipe σ2 vs = wipe σ vs ∧ tt σ2 H2 fun b H3 =>
        if b = true then te σ2 H3 fun y H4 => ∃ acc, H4 D = some (.lst acc) ∧ acc.length < sizeLine ∧ Nx (upd H4 D (.lst (acc ++ [y]))) else Nx H3) := by
  have fin : ∀ {i : Nat} {H : Hp}, Same H1 H → H D = some (.lst (R i)) → ∀ y H4, R (i + 1) = R i ++ [y] → Same H H4 → ∃ acc, H4 D = some (.lst acc) ∧ acc.length < sizeLine ∧ Same H1 (upd H4 D (.lst (acc ++ [y]))) ∧ (upd H4 D (.lst (acc ++ [y]))) D = some (.lst (R (i + 1))) := fun s h => r_push (H4 := H1) hz hD s h
  have fin0 : ∀ {i : Nat} {H : Hp}, Same H1 H → H D = some (.lst (R i)) → ∀ H4, R (i + 1) = R i → Same H H4 → Same H1 H4 ∧ H4 D = some (.lst (R (i + 1))) := fun s h => r_keep s h
  exact lc_str (z := z) (fun i H' => Same H1 H' ∧ H' D = some (.lst (R i))) ⟨same_upd hD, by rw [upd_same, h0]⟩  (fun i c H hx h => hs i c H hx h.1 (fin h.1 h.2) (fin0 h.1 h.2)) (fun H h => hd H h.1 h.2)
theorem cut_whole {xs : List V} {lo hi : Option Int} (h : HT.sIx xs.length 0 lo = 0 ∧ HT.sIx xs.length xs.length hi = xs.length) : cutV xs lo hi = xs := by
  unfold cutV
  rw [h.1, h.2, List.drop_zero, Nat.sub_zero, List.take_length]
theorem slA_of {K : PySem.W.Frag} {H : Hp} {a : Addr} {xs : List V} {lo hi : Option Int} {Q : VK} (h : H a = some (.tup xs)) (k : ∀ p H', Same H H' → H' p = some (.tup (cutV xs lo hi)) → Q (.ref p) H') : rSlA K (.ref a) lo hi H Q := by
  refine ⟨a, xs, rfl, SqT.of h, fun e => ?_, fun _ p hp => k p _ (same_upd hp) upd_same⟩
  exact k a H (Same.refl _) (by rw [cut_whole e]; exact h)
theorem slA_lo {K : PySem.W.Frag} {H : Hp} {a : Addr} {xs : List V} {lo : Option Int} {σ : L2.St} {Q : VK} (h : H a = some (.tup xs)) (k : ∀ p H', Same H H' → H' p = some (.tup (cutV xs lo none)) → Q (.ref p) H') : tNoPart σ H (fun u H3 => rSlA K (.ref a) lo u H3 Q) := slA_of (hi := none) h k
theorem catA_of {K : PySem.W.Frag} {H : Hp} {a b : Addr} {xs ys : List V} {Q : VK} (ha : H a = some (.tup xs)) (hb : H b = some (.tup ys)) (hz : xs.length + ys.length ≤ sizeLine) (k : ∀ p H', Same H H' → H' p = some (.tup (xs ++ ys)) → Q (.ref p) H') : rCatA K (.ref a) (.ref b) H Q := by
  refine ⟨a, b, xs, ys, rfl, rfl, SqT.of ha, SqT.of hb, hz, fun e => ?_, fun _ e => ?_, fun _ _ p hp => k p _ (same_upd hp) upd_same⟩
  · exact k b H (Same.refl _) (by rw [e]; exact hb)
  · exact k a H (Same.refl _) (by rw [e, List.append_nil]; exact ha)
/-! ### plain data that draws leave -/
theorem RepJ.up {H : Hp} {v : V} {j : J} {n : Nat} (h : RepJ H v j n) : RepJ H v j (n + 1) := by
  induction h with
  | non => exact .non
  | bl b => exact .bl b
  | int i => exact .int i
  | str z => exact .str z
  | tup h z l _ ih => exact .tup h z l ih
  | lst h z l _ ih => exact .lst h z l ih
def Kp (a : Addr) (H : Hp) (v : V) (j : J) (n : Nat) : Prop := ∀ H', Keep a H H' → RepJ H' v j n
theorem Kp.rep {a : Addr} {H : Hp} {v : V} {j : J} {n : Nat} (h : Kp a H v j n) : RepJ H v j n := h H (Keep.refl a H)
theorem Kp.keep {a : Addr} {H H' : Hp} {v : V} {j : J} {n : Nat} (k : Keep a H H') (h : Kp a H v j n) : Kp a H' v j n := fun H2 k2 => h H2 (k.trans k2)
theorem Kp.same {a : Addr} {H H' : Hp} {v : V} {j : J} {n : Nat} (k : Same H H') (h : Kp a H v j n) : Kp a H' v j n := h.keep (Keep.same k)
theorem Kp.up {a : Addr} {H : Hp} {v : V} {j : J} {n : Nat} (h : Kp a H v j n) : Kp a H v j (n + 1) := fun H2 k2 => (h H2 k2).up
theorem Kp.tup {a p : Addr} {H : Hp} {xs : List V} {js : List J} {n : Nat} (hp : H p = some (.tup xs)) (ne : p ≠ a) (hz : xs.length ≤ 100000) (two : Two (fun x j => Kp a H x j n) xs js) : Kp a H (.ref p) (.tup js) (n + 1) := fun H2 k2 => .tup (k2 _ _ hp ne) hz two.len fun i x j hx hj => two.get2 hx hj H2 k2
theorem Kp.lst {a p : Addr} {H : Hp} {xs : List V} {js : List J} {n : Nat} (hp : H p = some (.lst xs)) (ne : p ≠ a) (hz : xs.length ≤ 100000) (two : Two (fun x j => Kp a H x j n) xs js) : Kp a H (.ref p) (.lst js) (n + 1) := fun H2 k2 => .lst (k2 _ _ hp ne) hz two.len fun i x j hx hj => two.get2 hx hj H2 k2
def Leaf (v : V) : Prop := v = .non ∨ (∃ b, v = .bl b) ∨ (∃ i, v = .int i) ∨ ∃ z, v = .str z
theorem Leaf.kp {a : Addr} {H : Hp} {v : V} (h : Leaf v) (n : Nat) : ∃ j, Kp a H v j n := by
  rcases h with rfl | ⟨b, rfl⟩ | ⟨i, rfl⟩ | ⟨z, rfl⟩
  · exact ⟨.non, fun _ _ => .non⟩
  · exact ⟨.bl b, fun _ _ => .bl b⟩
  · exact ⟨.int i, fun _ _ => .int i⟩
  · exact ⟨.str z, fun _ _ => .str z⟩
theorem kp_all {a : Addr} {H : Hp} {n : Nat} : ∀ {xs : List V}, (∀ x ∈ xs, ∃ j, Kp a H x j n) → ∃ js, Two (fun x j => Kp a H x j n) xs js
  | [], _ => ⟨[], .nil⟩
  | x :: xs, h => by
    obtain ⟨j, hj⟩ := h x (List.mem_cons_self ..)
    obtain ⟨js, hs⟩ := kp_all fun y hy => h y (List.mem_cons_of_mem _ hy)
    exact ⟨j :: js, .cons hj hs⟩
theorem kp_tup {a p : Addr} {H : Hp} {xs : List V} {n : Nat} (hs : Strm H a) (hp : H p = some (.tup xs)) (hz : xs.length ≤ 100000) (h : ∀ x ∈ xs, ∃ j, Kp a H x j n) : ∃ j, Kp a H (.ref p) j (n + 1) := by
  obtain ⟨js, two⟩ := kp_all h
  exact ⟨_, Kp.tup hp (hs.neT hp) hz two⟩
theorem kp_lst {a p : Addr} {H : Hp} {xs : List V} {n : Nat} (ne : p ≠ a) (hp : H p = some (.lst xs)) (hz : xs.length ≤ 100000) (h : ∀ x ∈ xs, ∃ j, Kp a H x j n) : ∃ j, Kp a H (.ref p) j (n + 1) := by
  obtain ⟨js, two⟩ := kp_all h
  exact ⟨_, Kp.lst hp ne hz two⟩
theorem mem_cut {xs : List V} {lo hi : Option Int} {x : V} (h : x ∈ cutV xs lo hi) : x ∈ xs := by
  unfold cutV at h
  exact List.mem_of_mem_drop (List.mem_of_mem_take h)
/-- an item that is drawn -/
theorem at_draw {xs : List V} {d : Int} {n : Nat} (hl : xs.length = n) (h0 : 0 ≤ d) (h1 : d < n) : ∃ v, atI xs d = some v ∧ v ∈ xs := by
  obtain ⟨v, hv⟩ : ∃ v, xs[d.toNat]? = some v := ⟨_, List.getElem?_eq_getElem (by omega)⟩
  exact ⟨v, at_of (j := d.toNat) (by omega) hv, List.mem_of_getElem? hv⟩
end My
namespace My
open PySem PySem.Spec PyProof.Rows L2
/-! ### a dict that is made where it is walked: it is locked from then on -/
def tFrz (t : TE) : TE := fun σ H Q => t σ H fun x H1 => ∃ d u, x = .ref d ∧ H1 d = some u ∧ Mut (some u) ∧ ∀ od, Q (.ref d) (upd H1 d (.frz od u))
theorem pe_frz {X : Cx} {e : Expr} {t : TE} (h : PE X e t) : PE X e (tFrz t) := by
  refine ⟨fun pins s σ H Q I hw => ?_⟩
  refine thn (h.run pins s σ H _ I hw) fun v s1 ⟨x, H1, I1, r, d, u, e1, hd, mu, q⟩ => ?_
  subst e1
  obtain ⟨od, I2⟩ := I1.lock hd mu
  exact ⟨.ref d, _, I2, r, q od⟩
end My
set_option maxHeartbeats 1000000
namespace My
open PySem PySem.Spec PyProof.Rows L2
/-! ### reversed(text) -/
theorem vs_norev : typeLookup (.type "str") "__reversed__" = pure none := by rw [typeLookup_type, builtinLookup_eq_fast]; kernel_rfl
theorem vs_get : typeLookup (.type "str") "__getitem__" = pure (some (.builtin "str.__getitem__")) := by rw [typeLookup_type, builtinLookup_eq_fast]; kernel_rfl
theorem vs_sub : isSubtype (.type "str") (.type "dict") = pure false := by rw [isSubtype_type]; kernel_rfl
def vsObj (x : Str) (t : Tok) (i : Int) : Obj := { cls := .type "reversed", data := .fields #[.str x t, rawInt i] }
/-- reversed(x), the next place i -/
def IsVs (h : Heap) (a : Addr) (x : Str) (t : Tok) (i : Int) : Prop := ∃ o, h.get? a = some o ∧ o.cls = .type "reversed" ∧ o.data = .fields #[.str x t, rawInt i]
theorem IsVs.at {h h' : Heap} {a : Addr} {x : Str} {t : Tok} {i : Int} (y : IsVs h a x t i) (e : ∀ o, h.get? a = some o → h'.get? a = some o) : IsVs h' a x t i := let ⟨o, ho, r⟩ := y; ⟨o, e _ ho, r⟩
section
variable {prog : Program} {w : World} {A : Around} {E : Value → Shared → Prop} {s : Shared}
theorem IsVs.typeIs {a : Addr} {x : Str} {t : Tok} {i : Int} (y : IsVs s.heap a x t i) : s.TypeIs (.ref a) "reversed" := let ⟨o, ho, hc, _⟩ := y; ⟨o, ho, hc⟩
theorem vs_code {x : Str} {t : Tok} {Q₁ : Value → Shared → Prop} (hz : x.length ≤ sizeLine)
    (h : Q₁ (.ref s.heap.objs.size) { s with heap := s.heap.push (vsObj x t ((x.length : Int) - 1)), toks := s.toks + 1 + 1 }) :
    codeAny (model prog w) A (.call (.builtin "reversed.__new__") ⟨[.type "reversed", .str x t], []⟩) (wants Q₁ E) s := by
  have hT : s.TypeIs (.str x t) "str" := typeIs_str s x t
  have hn := line63
  refine codeAny_of_tree ?_
  show wpAny _ A.in1 (do checkBuiltinCall "reversed.__new__" ⟨[.type "reversed", .str x t], []⟩; again (.builtin "reversed.__new__" ⟨[.type "reversed", .str x t], []⟩)) _ _ s
  refine wpAny_bind (wpAny_of_eq (F.newCall_reversed_1 _) (wpAny_pure ⟨plainId_quiet F.plain_reversed_new _, codeAny_builtin F.entry_reversed_new ?_⟩))
  rw [Around.under_plainId F.plain_reversed_new _]
  unfold Builtin.«reversed.__new__»
  refine wpAny_bind (wpAny_of_eq (newClass_reversed _) ?_)
  try dsimp only
  refine wpAny_bind (wpAny_of_eq (a := ()) (by first | rfl | kernel_rfl) ?_)
  try dsimp only
  refine wpAny_bind (wpAny_of_eq (a := ()) (by first | rfl | kernel_rfl) ?_)
  try dsimp only
  refine wpAny_bind (wpAny_specialOf hT vs_norev ?_)
  try dsimp only
  refine wpAny_bind ?_
  wp_delta
  refine wpAny_bind (wpAny_isInstance (T := "str") (U := "dict") (b := false) hT vs_sub ?_)
  try dsimp only
  try rw [if_neg Bool.false_ne_true]
  try dsimp only
  refine wpAny_bind (wpAny_specialOf hT vs_get ?_)
  try dsimp only
  try rw [if_pos (by decide +kernel)]
  refine wpAny_pure ?_
  try dsimp only
  try rw [if_neg (by decide)]
  try dsimp only
  refine wpAny_bind (P.len_str (by omega) ?_)
  refine wpAny_bind (wpAny_of_eq (a := some ((x.length : Nat) : Int)) rfl ?_)
  try dsimp only
  refine wpAny_bind ?_
  show wpAny _ _ (newObj (.type "reversed") (.fields #[.str x t, rawInt ((x.length : Int) - 1)])) _ _ _
  refine wpAny_newObj_type ?_
  exact wpAny_pure h
theorem vs_call {x : Str} {t : Tok} {Q : Value → Shared → Prop} (hz : x.length ≤ sizeLine)
    (h : Q (.ref s.heap.objs.size) { s with heap := s.heap.push (vsObj x t ((x.length : Int) - 1)), toks := s.toks + 1 + 1 }) : wpAny (model prog w) A (call (.type "reversed") [.str x t]) Q E s := by
  refine callType_codes (Q₁ := fun obj s₁ => s₁.TypeIs obj "reversed" ∧ Q obj s₁) RT.called_rt (F.typeCall_reversed_1 _) F.entry_object_init
    (vs_code (A := A.in1) hz ⟨⟨_, Heap.get?_push_size _ rfl, rfl⟩, h⟩) fun obj s₁ h₁ => ?_
  exact ⟨h₁.1, F.args_object_init_2 obj _, object_init_meets RT.called_rt.init.lookup RT.called_rt.made (by decide) prog w A.in1 _ s₁ ⟨h₁.1, rfl, h₁.2⟩⟩
theorem vs_item {it : Addr} {x : Str} {t : Tok} {i c : Nat} {Q : Option Value → Shared → Prop} (hit : IsVs s.heap it x t (i : Int)) (hx : x.cps[i]? = some c) (hsz : x.length ≤ sizeLine)
    (hQ : ∀ h' tk tk', IsVs h' it x t ((i : Int) - 1) → Heap.SameBut it s.heap h' → Q (some (.str ⟨#[c]⟩ tk)) { s with heap := h', toks := tk' }) : wpAny (model prog w) A (pyNext (.ref it)) Q E s := by
  obtain ⟨o, ho, hc, hd⟩ := id hit
  have hi : i < x.length := (Array.getElem?_eq_some_iff.mp hx).1
  have hT : s.TypeIs (.str x t) "str" := typeIs_str s x t
  have hn := line63
  unfold pyNext
  refine wpAny_bind (wpAny_attempt (wpAny_callSpecial?_slot (name := Str.ofString "__next__") hit.typeIs RT.slot_rt_next
    (wpAny_call_entry RT.slot_rt_next hit.typeIs RT.entry_rt_next ?_ (RT.args_rt_next _))))
  unfold Builtin.«reversed.__next__»
  refine wpAny_bind (wpAny_of_eq (a := (Value.ref it, [])) rfl ?_)
  try dsimp only
  refine wpAny_bind (wpAny_field ho hd (x := .str x t) rfl ?_)
  try dsimp only
  refine wpAny_bind (wpAny_field ho hd (x := rawInt (i : Int)) rfl ?_)
  show wpAny _ _ (if (i : Int) < 0 then _ else _) _ _ s
  rw [if_neg (by omega)]
  try dsimp only
  refine wpAny_bind (wpAny_specialOf hT vs_get ?_)
  try dsimp only
  try rw [if_neg (by decide)]
  try dsimp only
  refine wpAny_bind (wpAny_mkInt ?_)
  refine wpAny_bind (wpAny_attempt ?_)
  have fin : seqIndex? (i : Int) x.length = some i := seqIndex_of (by omega) (by omega)
  refine P.getItem_str (s := { s with toks := s.toks + 1 }) (c := c) ?_ (by rw [fin]; exact hx) ?_
  · have e1 : decide ((i : Int) < -(2 ^ 63 : Int)) = false := decide_eq_false (by omega)
    have e2 : decide ((i : Int) ≥ 2 ^ 63) = false := decide_eq_false (by omega)
    rw [e1, e2, Bool.or_false]
  try dsimp only
  refine wpAny_bind (wpAny_field (s := { s with toks := s.toks + 1 + 1 }) ho hd (x := rawInt (i : Int)) rfl ?_)
  try dsimp only
  refine wpAny_bind (wpAny_setField (s := { s with toks := s.toks + 1 + 1 }) ho hd (by simp) ?_)
  first
  | refine wpAny_pure ⟨_, rfl, wpAny_pure (hQ _ _ _ ?_ (Heap.SameBut.update ..))⟩
  | refine wpAny_bind (wpAny_pure (wpAny_pure ⟨_, rfl, wpAny_pure (hQ _ _ _ ?_ (Heap.SameBut.update ..))⟩))
  exact ⟨_, Heap.get?_update_self _ ho (Obj.isFreed_of_fields (Obj.data_mapFields hd _)), (Obj.cls_mapFields ..).trans hc, by
    rw [Obj.data_mapFields hd]; simp⟩
theorem vs_end {it : Addr} {x : Str} {t : Tok} {Q : Option Value → Shared → Prop} (hh : A.handled = none) (hit : IsVs s.heap it x t (-1))
    (hQ : ∀ h', Heap.ExtBut it s.heap h' → Q none { s with heap := h' }) : wpAny (model prog w) A (pyNext (.ref it)) Q E s := by
  obtain ⟨o, ho, hc, hd⟩ := id hit
  unfold pyNext
  refine wpAny_bind (wpAny_attempt (wpAny_callSpecial?_slot (name := Str.ofString "__next__") hit.typeIs RT.slot_rt_next
    (wpAny_call_entry RT.slot_rt_next hit.typeIs RT.entry_rt_next ?_ (RT.args_rt_next _))))
  unfold Builtin.«reversed.__next__»
  refine wpAny_bind (wpAny_of_eq (a := (Value.ref it, [])) rfl ?_)
  try dsimp only
  refine wpAny_bind (wpAny_field ho hd (x := .str x t) rfl ?_)
  try dsimp only
  refine wpAny_bind (wpAny_field ho hd (x := rawInt (-1)) rfl ?_)
  show wpAny _ _ (if (-1 : Int) < 0 then _ else _) _ _ s
  rw [if_pos (by decide)]
  try dsimp only
  refine wpAny_bind (wpAny_rule ?_)
  refine wpAny_bind ?_
  wp_delta
  refine wpAny_bind (wpAny_setField ho hd (by simp) ?_)
  have ho2 := Heap.get?_update_self (Obj.mapFields (·.setIfInBounds 1 (rawInt (-1)))) ho (Obj.isFreed_of_fields (Obj.data_mapFields hd _))
  refine wpAny_setField (s := { s with heap := s.heap.update it (Obj.mapFields (·.setIfInBounds 1 (rawInt (-1)))) }) ho2 (Obj.data_mapFields hd _) (by simp) ?_
  try dsimp only
  first
  | show wpAny _ _ (newExc (.type "StopIteration") [] >>= _) _ _ _
  | (refine wpAny_bind ?_; show wpAny _ _ (newExc (.type "StopIteration") [] >>= _) _ _ _)
  | (refine wpAny_bind ?_; wp_delta; show wpAny _ _ (newExc (.type "StopIteration") [] >>= _) _ _ _)
  refine wpAny_bind ?_
  simp only [newExc, newTuple]
  refine wpAny_bind (wpAny_newObj_type ?_ (by size_fits))
  refine wpAny_bind (m := firstArgMember _ _) (wpAny_of_eq (a := Value.none) (by first | rfl | (simp only [firstArgMember]; rfl)) ?_)
  refine wpAny_newObj_type ?_ (by size_fits)
  simp only [raiseNew]
  refine wpAny_bind (wpAny_handled ?_)
  first | rw [show A.in1.handled = none from hh] | rw [hh]
  refine wpAny_bind (wpAny_pure (wpAny_throw ?_))
  refine wpAny_bind (wpAny_isInstance (T := "StopIteration") (b := true) ⟨_, Heap.get?_push_size _ rfl, rfl⟩ isSubtype_stop ?_)
  refine wpAny_pure (hQ _ ?_)
  refine ((?_ : Heap.ExtBut it s.heap _).push _).push _
  exact fun b ob hb e => (Heap.get?_update_other _ _ (Ne.symm hb)).trans ((Heap.get?_update_other _ _ (Ne.symm hb)).trans e)
theorem vs_iter {it : Addr} {x : Str} {t : Tok} {i : Int} {Q : Value → Shared → Prop} (hit : IsVs s.heap it x t i) (h : Q (.ref it) s) : wpAny (model prog w) A (pyIter (.ref it)) Q E s := by
  refine wpAny_pyIter_slot hit.typeIs RT.slot_rt_iter (wpAny_call_entry RT.slot_rt_iter hit.typeIs RT.entry_rt_iter ?_ (RT.args_rt_iter _))
  show wpAny _ _ (ret (.ref it)) _ _ s
  exact wpAny_pure ⟨_, rfl, "reversed", _, hit.typeIs, RT.slot_rt_next.lookup, h⟩
end
/-- the letters of a text from its end -/
def Itvs (x : Str) : It := ⟨fun i _ => i < x.cps.size, fun i H v H' => H' = H ∧ ∃ c, x.cps[x.cps.size - 1 - i]? = some c ∧ v = .str ⟨#[c]⟩, fun i _ => x.cps.size ≤ i⟩
theorem vs_turn {P : Program} {w : World} {K : PySem.W.Frag} {tg : Expr} (it : Addr) (x : Str) (t : Tok) (hz : x.length ≤ sizeLine) : Turn P w K tg (Itvs x) [it] it (fun i h => i ≤ x.cps.size ∧ IsVs h it x t ((x.cps.size : Int) - 1 - (i : Nat))) where
  mem := by simp
  obj := fun i h st b hb => by
    have e : b = it := by simpa using hb
    subst e
    obtain ⟨_, o, e, c, d⟩ := st
    exact ⟨o, e, fun v z => by rw [d] at z; cases z⟩
  keep := fun i h h' st k => ⟨st.1, st.2.at fun o e => k it (by simp) o e⟩
  item := by
    intro X hP hw hK hc i pins s σ H E I hf st hg
    subst hP hw hK
    have hin : i < x.cps.size := hg
    obtain ⟨f0, f1, f2, f3, f4, f5⟩ := hf it (by simp)
    obtain ⟨_, hit⟩ := st
    have e1 : (x.cps.size : Int) - 1 - ((i : Nat) : Int) = ((x.cps.size - 1 - i : Nat) : Int) := by omega
    rw [e1] at hit
    have hx : x.cps[x.cps.size - 1 - i]? = some (x.cps[x.cps.size - 1 - i]'(by omega)) := Array.getElem?_eq_getElem _
    refine vs_item hit hx hz fun h' tk tk' st' sb => ?_
    have e2 : ((x.cps.size - 1 - i : Nat) : Int) - 1 = (x.cps.size : Int) - 1 - ((i + 1 : Nat) : Int) := by omega
    rw [e2] at st'
    have I1 : Inv X pins σ H { s with heap := h', toks := tk' } := I.turned (t' := tk') (fun b o hb e => (sb.2 b hb).trans e) f0 f1 f3 f4 f5
    obtain ⟨o, e, c, d⟩ := id st'
    exact ⟨_, rfl, go_of (s := { s with heap := h', toks := tk' }) e c d (by decide) ⟨.str ⟨#[x.cps[x.cps.size - 1 - i]'(by omega)]⟩, H, I1, ⟨tk, rfl⟩, ⟨rfl, _, hx, rfl⟩, ⟨hin, st'⟩, fun b hb => (hf b hb).1⟩⟩
  done := by
    intro X hP hw hK hc i pins s σ H E I hf st hg
    subst hP hw hK
    obtain ⟨f0, f1, f2, f3, f4, f5⟩ := hf it (by simp)
    obtain ⟨hin, hit⟩ := st
    have hge : x.cps.size ≤ i := hg
    have e1 : (x.cps.size : Int) - 1 - ((i : Nat) : Int) = -1 := by omega
    rw [e1] at hit
    exact vs_end (I.ok.hd hc) hit fun h' eb => ⟨rfl, I.turned (t' := s.toks) (fun b o hb e => eb b o hb e) f0 f1 f3 f4 f5⟩
  self := fun A i s Q E st h => vs_iter st.2 h
def iRevS (te : TE) : TI := fun σ H R => te σ H fun v H1 => ∃ x, v = .str x ∧ x.length ≤ sizeLine ∧ R (Itvs x) H1
theorem pi_revS {X : Cx} {tg e : Expr} {te : TE} {p pos : Pos} (hg : L2.Gl X "reversed") (hm : X.mg "reversed" = none) (he : PE X e te) (hs : starEach [e] X.env = (false, eval e X.env) :: starEach [] X.env := by rfl) : PI X tg (.Call (.Name "reversed" p) [e] [] pos) (iRevS te) := by
  refine ⟨fun pins s σ H R I h => ?_⟩
  refine Call_ (ld_blt I hg hm PyProof.Rows.boot_reversed (PyProof.Rows.callWith_type1 (args_cons (thn (he.run pins s σ H _ I h) fun u s1 ⟨v, H1, I1, r1, q1⟩ => args_nil ?_) hs) hs rfl))
  obtain ⟨x, ev, hz, q⟩ := q1
  subst ev
  obtain ⟨t, rfl⟩ := r1
  have e1 : ((x.length : Nat) : Int) - 1 = (x.cps.size : Int) - 1 - ((0 : Nat) : Int) := by
    show ((x.cps.size : Nat) : Int) - 1 = _
    omega
  refine vs_call hz (vs_iter (x := x) (t := t) (i := ((x.length : Nat) : Int) - 1) ⟨_, Heap.get?_push_size _ rfl, rfl, rfl⟩ ?_)
  refine pi_one (tk := s1.toks + 1 + 1) I1 _ (vs_turn _ x t hz) ⟨Nat.zero_le _, ?_⟩ q
  rw [← e1]
  exact ⟨_, Heap.get?_push_size _ rfl, rfl, rfl⟩
/-- a loop over a text from its end -/
theorem for_revS {z : Str} {g : TG} {tb : TS} {D : Ends} {σ : L2.St} {H : Hp} (Pv : Nat → L2.St → Hp → Prop) (h0 : Pv 0 σ H)
    (hs : ∀ i c σ H, i < z.cps.size → z.cps[z.cps.size - 1 - i]? = some c → Pv i σ H → g (.str ⟨#[c]⟩) σ H fun σ2 H2 => tb { D with nx := Pv (i + 1), ct := Pv (i + 1), bk := D.nx } σ2 H2) (hd : ∀ σ H, Pv z.cps.size σ H → D.nx σ H) :
    ∃ W : Nat → Nat → L2.St → Hp → Prop, (∃ m, W 0 m σ H) ∧ ∀ i m σ H, W i m σ H →
      ((Itvs z).stop i H ∧ D.nx σ H) ∨ ((Itvs z).go i H ∧ ∃ N : L2.St → Hp → Prop, (∀ σ' H', N σ' H' → ∃ m', m' < m ∧ W (i + 1) m' σ' H') ∧ ∀ x H', (Itvs z).yld i H x H' → g x σ H' fun σ2 H2 => tb { D with nx := N, ct := N, bk := D.nx } σ2 H2) := by
  refine ⟨fun i m σ H => m = z.cps.size - i ∧ i ≤ z.cps.size ∧ Pv i σ H, ⟨z.cps.size, by simp, Nat.zero_le _, h0⟩, ?_⟩
  rintro i m σ H ⟨rfl, hi, p⟩
  by_cases hlt : i < z.cps.size
  · refine .inr ⟨hlt, Pv (i + 1), fun σ' H' p' => ⟨z.cps.size - (i + 1), by omega, rfl, hlt, p'⟩, fun x H' y => ?_⟩
    obtain ⟨rfl, c, hc, rfl⟩ := y
    exact hs i c σ _ hlt hc p
  · have e : i = z.cps.size := by omega
    subst e
    exact .inl ⟨Nat.le_refl _, hd σ H p⟩
/-! ### enumerate(text) -/
theorem ve_draws {prog : Program} {w : World} {A : Around} (hh : A.handled = none) (it : Addr) (x : Str) (t : Tok) {ty : String} (hty : ty = "str_ascii_iterator" ∨ ty = "str_iterator") :
    Draws prog w A it [it] x.cps.size (fun i v => ∃ c u, x.cps[i]? = some c ∧ v = .str ⟨#[c]⟩ u) (fun i h => h.IsStrIter it ty x t i) := by
  rcases hty with e | e
  · subst e; exact Draws.strAscii hh it x t
  · subst e; exact Draws.strWide hh it x t
/-- the letters of a text, each with its place in a new pair -/
def Itve (x : Str) : It :=
  ⟨fun i _ => i < x.cps.size, fun i H v H' => ∃ T c, v = .ref T ∧ H T = none ∧ H' = upd H T (.tup [.int (i : Nat), .str ⟨#[c]⟩]) ∧ x.cps[i]? = some c, fun i _ => x.cps.size ≤ i⟩
theorem ve_turn {P : Program} {w : World} {K : PySem.W.Frag} {elts : List Expr} {kk : Nat} {tpos : Pos} (e it : Addr) (x : Str) (t : Tok) {ty : String} (hty : ty = "str_ascii_iterator" ∨ ty = "str_iterator") :
    Turn P w K (.Tuple elts kk tpos) (Itve x) [e, it] e (fun i h => i ≤ x.cps.size ∧ (∃ old, IsEnum h e it ((i : Nat) : Int) old) ∧ h.IsStrIter it ty x t i ∧ e ≠ it) where
  mem := by simp
  obj := fun i h st b hb => by
    obtain ⟨_, ⟨old, he⟩, ⟨o, ho, hc, hd⟩, _⟩ := st
    have e' : b = e ∨ b = it := by simpa using hb
    rcases e' with z | z
    · rw [z]; exact ⟨_, he, fun v q => nomatch q⟩
    · rw [z]; exact ⟨o, ho, fun v q => by rw [hd] at q; cases q⟩
  keep := fun i h h' st k => let ⟨hi, ⟨old, he⟩, ⟨o, ho, r⟩, hne⟩ := st; ⟨hi, ⟨old, k e (by simp) _ he⟩, ⟨o, k it (by simp) _ ho, r⟩, hne⟩
  item := by
    intro X hP hw hK hc i pins s σ H E I hf st hg
    subst hP hw hK
    obtain ⟨hi0, ⟨old, he⟩, hit, hne⟩ := st
    have hi : i < x.cps.size := hg
    have hel : e < s.heap.objs.size := Heap.lt_size he
    have hil : it < s.heap.objs.size := by obtain ⟨_, q, _⟩ := hit; exact Heap.lt_size q
    refine wpAny_pyNext_enum_itemD (ve_draws (A := X.A.in1) (I.ok.hd hc) it x t hty) he hit hi hne (fun h => hne (List.mem_singleton.mp h)) fun v h' tk hv ho hit' hT hsz hk => ?_
    obtain ⟨c, u, hxc, rfl⟩ := hv
    refine ⟨_, rfl, wpAny_letOwnedTupleGo_enum (s := { s with heap := h', toks := tk + 1 }) ho fun h'' he' sb => ?_⟩
    have hT2 : h''.get? s.heap.objs.size = some { cls := .type "tuple", data := .seq #[.int i tk, .str ⟨#[c]⟩ u] } := (sb.2 _ (Nat.ne_of_gt hel)).trans hT
    have new : ObjOk X.prog X.w (upd H s.heap.objs.size (.tup [.int (i : Nat), .str ⟨#[c]⟩])) h'' s.heap.objs.size (.tup [.int (i : Nat), .str ⟨#[c]⟩]) :=
      ⟨by show 2 ≤ sizeLine; decide, [.int i tk, .str ⟨#[c]⟩ u], .cons ⟨_, rfl⟩ (.cons ⟨u, rfl⟩ .nil), ⟨_, hT2, rfl, _, rfl⟩⟩
    have I1 : Inv X pins σ (upd H s.heap.objs.size (.tup [.int (i : Nat), .str ⟨#[c]⟩])) { s with heap := h'', toks := tk + 1 } :=
      I.turnedNew (ch := [e, it]) (fun b ob hb q => (sb.2 b (fun z => hb (by simp [z]))).trans (hk b ob (fun z => hb (by simp [z])) (fun z => hb (by simp [z])) q)) hf (Nat.le_refl _) new
    refine ⟨.ref s.heap.objs.size, _, I1, rfl, ⟨_, c, rfl, I.hok.fresh (Nat.le_refl _), rfl, hxc⟩, ⟨hi, ⟨.str ⟨#[c]⟩ u, ?_⟩, ?_, hne⟩, fun b hb => ?_⟩
    · have e1 : ((i + 1 : Nat) : Int) = (i : Int) + 1 := by omega
      rw [e1]; exact he'
    · obtain ⟨o, ho', r⟩ := hit'
      exact ⟨o, (sb.2 it (Ne.symm hne)).trans ho', r⟩
    · have hb' : b < s.heap.objs.size := by
        have e' : b = e ∨ b = it := by simpa using hb
        rcases e' with z | z
        · rw [z]; exact hel
        · rw [z]; exact hil
      rw [upd_ne (Nat.ne_of_lt hb')]
      exact (hf b hb).1
  done := by
    intro X hP hw hK hc i pins s σ H E I hf st hg
    subst hP hw hK
    obtain ⟨hi0, ⟨old, he⟩, hit, hne⟩ := st
    have hge : x.cps.size ≤ i := hg
    have hi : i = x.cps.size := by omega
    subst hi
    obtain ⟨f0, f1, f2, f3, f4, f5⟩ := hf it (by simp)
    exact wpAny_pyNext_enum_endD (ve_draws (A := X.A.in1) (I.ok.hd hc) it x t hty) he hit fun h' eb => ⟨rfl, I.turned (t' := s.toks) (fun b o hb q => eb b o hb q) f0 f1 f3 f4 f5⟩
  self := fun A i s Q E st h => let ⟨_, ⟨_, he⟩, _⟩ := st; wpAny_pyIter_enum he h
def iEnumS (ta : TA) : TI := fun σ H R => ta σ H fun vs H1 => ∃ x, vs = [.str x] ∧ R (Itve x) H1
theorem pi_enumS {X : Cx} {e : Expr} {ta : TA} {p pos tpos : Pos} {elts : List Expr} {kk : Nat} (hg : L2.Gl X "enumerate") (hm : X.mg "enumerate" = none) (ha : PA X [e] ta) (hs : starEach [e] X.env = [(false, eval e X.env)] := by rfl) :
    PI X (.Tuple elts kk tpos) (.Call (.Name "enumerate" p) [e] [] pos) (iEnumS ta) := by
  refine ⟨fun pins s σ H R I h => ?_⟩
  refine Call_ (ld_blt I hg hm boot_enumerate (PyProof.Rows.callWith_type1 (thn (ha.run pos pins s σ H _ I h) fun us s1 ⟨vs, H1, I1, r1, q1⟩ => ?_) hs rfl))
  obtain ⟨x, ex, q⟩ := q1
  subst ex
  cases r1 with
  | cons r rr =>
    cases rr
    obtain ⟨t, rfl⟩ := r
    have hty : strIterType x = "str_ascii_iterator" ∨ strIterType x = "str_iterator" := by
      unfold strIterType
      split
      · exact .inl rfl
      · exact .inr rfl
    refine call_enumerate_str fun h' he hit hsz hk => wpAny_pyIter_enum he ?_
    have I2 : Inv X pins σ H1 { s1 with heap := h' } := I1.kept (t' := s1.toks) hk
    refine ⟨s1.heap.objs.size + 1, [s1.heap.objs.size + 1, s1.heap.objs.size], _, _, H1, rfl, I2, ve_turn (s1.heap.objs.size + 1) s1.heap.objs.size x t hty, ⟨Nat.zero_le _, ⟨.none, he⟩, hit, Nat.succ_ne_self _⟩, fun b hb => ?_, q⟩
    have e' : b = s1.heap.objs.size + 1 ∨ b = s1.heap.objs.size := by simpa using hb
    have hle : s1.heap.objs.size ≤ b := by
      rcases e' with z | z
      · rw [z]; exact Nat.le_add_right _ _
      · rw [z]; exact Nat.le_refl _
    exact I1.fpOk hle (I1.hok.fresh hle)
theorem for_enumS {z : Str} {g : TG} {tb : TS} {D : Ends} {σ : L2.St} {H : Hp} (Pv : Nat → L2.St → Hp → Prop) (h0 : Pv 0 σ H)
    (hs : ∀ i c T σ H, z.cps[i]? = some c → Pv i σ H → H T = none → g (.ref T) σ (upd H T (.tup [.int (i : Nat), .str ⟨#[c]⟩])) fun σ2 H2 => tb { D with nx := Pv (i + 1), ct := Pv (i + 1), bk := D.nx } σ2 H2) (hd : ∀ σ H, Pv z.cps.size σ H → D.nx σ H) :
    ∃ W : Nat → Nat → L2.St → Hp → Prop, (∃ m, W 0 m σ H) ∧ ∀ i m σ H, W i m σ H →
      ((Itve z).stop i H ∧ D.nx σ H) ∨ ((Itve z).go i H ∧ ∃ N : L2.St → Hp → Prop, (∀ σ' H', N σ' H' → ∃ m', m' < m ∧ W (i + 1) m' σ' H') ∧ ∀ x H', (Itve z).yld i H x H' → g x σ H' fun σ2 H2 => tb { D with nx := N, ct := N, bk := D.nx } σ2 H2) := by
  refine ⟨fun i m σ H => m = z.cps.size - i ∧ i ≤ z.cps.size ∧ Pv i σ H, ⟨z.cps.size, by simp, Nat.zero_le _, h0⟩, ?_⟩
  rintro i m σ H ⟨rfl, hi, p⟩
  by_cases hlt : i < z.cps.size
  · refine .inr ⟨hlt, Pv (i + 1), fun σ' H' p' => ⟨z.cps.size - (i + 1), by omega, rfl, hlt, p'⟩, fun x H' y => ?_⟩
    obtain ⟨T, c, rfl, hT, rfl, hc⟩ := y
    exact hs i c T σ H hc p hT
  · have e : i = z.cps.size := by omega
    subst e
    exact .inl ⟨Nat.le_refl _, hd σ H p⟩
end My
set_option maxHeartbeats 1000000
namespace My
open PySem PySem.Spec PyProof.Rows L2
/-! ### enumerate(tuple) -/
theorem meets_enumT (l : Addr) (items : Array Value) (n : Nat) (dct : Option Addr) (sl : Array (Option Value)) :
    Meets (Builtin.«enumerate.__new__» ⟨[.type "enumerate", .ref l], []⟩) (fun _ R s => s.heap.get? l = some { cls := .type "tuple", dict := dct, data := .seq items n, slots := sl } ∧
      R (.ok (.ret (.ref (s.heap.push { cls := .type "tuple_iterator", data := .fields #[.ref l, .int 0 0] }).objs.size)))
        { s with heap := (s.heap.push { cls := .type "tuple_iterator", data := .fields #[.ref l, .int 0 0] }).push { cls := .type "enumerate", data := .fields #[.none, .bool false, .ref s.heap.objs.size, rawInt 0, .none, .none] } }) :=
  .of_wp fun prog w A R s h => by
    obtain ⟨hp, g, d, tk, os⟩ := s; obtain ⟨hl, h⟩ := h
    have hsub := sub_enumerate
    have hL : Heap.IsTuple (Shared.heap ⟨hp, g, d, tk, os⟩) l items := ⟨_, hl, rfl, n, rfl⟩
    wp_walk using AutoSeq1.wpAny_loadPart' hl
    refine wpAny_stack_any fun st => wpAny_pure ?_
    split
    · rename_i c _ _ _ _ _
      cases (c == Value.type "enumerate")
      · wp_walk using AutoSeq1.wpAny_loadPart' hl, wpAny_pyIter_tuple hL
        exact ⟨_, rfl, h⟩
      · wp_walk using AutoSeq1.wpAny_loadPart' hl, wpAny_pyIter_tuple hL
        exact ⟨_, rfl, h⟩
    · wp_walk using AutoSeq1.wpAny_loadPart' hl, wpAny_pyIter_tuple hL
      exact ⟨_, rfl, h⟩
theorem call_enumT {prog : Program} {w : World} {A : Around} {E : Value → Shared → Prop} {s : Shared} {l : Addr} {items : Array Value} {Q : Value → Shared → Prop} (hL : s.heap.IsTuple l items)
    (h : ∀ h', IsEnum h' (s.heap.objs.size + 1) s.heap.objs.size 0 .none → h'.IsTupleIter s.heap.objs.size l 0 → h'.objs.size = s.heap.objs.size + 2 →
      (∀ b o, s.heap.get? b = some o → h'.get? b = some o) → Q (.ref (s.heap.objs.size + 1)) { s with heap := h' }) :
    wpAny (model prog w) A (call (.type "enumerate") [.ref l]) Q E s := by
  obtain ⟨⟨c, dct, dt, sl⟩, hl, hc, n, hd⟩ := hL
  replace hc : c = .type "tuple" := hc
  replace hd : dt = .seq items n := hd
  subst hc hd
  refine callType_new F.called_enumerate (by decide) (F.typeCall_enumerate_1 _) (F.newCall_enumerate_1 _) (fun obj => F.args_object_init_2 obj _) F.entry_enumerate_new
    (meets_enumT l items n dct sl) ⟨hl, ?_⟩
  have hz : (s.heap.push { cls := .type "tuple_iterator", data := .fields #[.ref l, .int 0 0] }).objs.size = s.heap.objs.size + 1 := Heap.size_push ..
  show _ ∧ _
  rw [hz]
  have he : IsEnum ((s.heap.push { cls := .type "tuple_iterator", data := .fields #[.ref l, .int 0 0] }).push
      { cls := .type "enumerate", data := .fields #[.none, .bool false, .ref s.heap.objs.size, rawInt 0, .none, .none] }) (s.heap.objs.size + 1) s.heap.objs.size 0 .none := by
    have := Heap.get?_push_size (s.heap.push { cls := .type "tuple_iterator", data := .fields #[.ref l, .int 0 0] })
      (o := { cls := .type "enumerate", data := .fields #[.none, .bool false, .ref s.heap.objs.size, rawInt 0, .none, .none] }) rfl
    rw [hz] at this; exact this
  refine ⟨⟨_, he, rfl⟩, h _ he ⟨_, Heap.get?_push_of_some _ (Heap.get?_push_size _ rfl), rfl, rfl⟩ (by rw [Heap.size_push, hz]) fun b o x => Heap.get?_push_of_some _ (Heap.get?_push_of_some _ x)⟩
/-- the tuple at a, each item with its place in a new pair -/
def Itet (K : PySem.W.Frag) (a : Addr) : It :=
  ⟨fun i H => ∃ (xs : List V) (x : V), SqT K H a xs ∧ xs[i]? = some x, fun i H v H' => ∃ T x, v = .ref T ∧ H T = none ∧ H' = upd H T (.tup [.int (i : Nat), x]) ∧ ∀ xs, SqT K H a xs → xs[i]? = some x, fun i H => ∃ xs : List V, SqT K H a xs ∧ xs.length ≤ i⟩
theorem et_apart {h : Heap} {e it a : Addr} {i : Nat} {old : Value} {items : Array Value} {c : Int} (he : IsEnum h e it c old) (hit : h.IsTupleIter it a i) (ht : h.IsTuple a items) : e ≠ a ∧ a ≠ it := by
  obtain ⟨o, ho, hc, _⟩ := ht
  obtain ⟨o2, ho2, hc2, _⟩ := hit
  constructor
  · intro z
    rw [← z, (show h.get? e = _ from he)] at ho
    cases ho
    exact absurd (Value.type.inj hc) (by decide)
  · intro z
    rw [z, ho2] at ho
    cases ho
    rw [hc2] at hc
    exact absurd (Value.type.inj hc) (by decide)
theorem et_end {prog : Program} {w : World} {A : Around} {E : Value → Shared → Prop} {s : Shared} {e it a : Addr} {c : Int} {old : Value} {i : Nat} {items : Array Value} {Q : Option Value → Shared → Prop} (hh : A.in1.handled = none) (he : IsEnum s.heap e it c old) (hit : s.heap.IsTupleIter it a i) (ht : s.heap.IsTuple a items) (hx : items[i]? = none)
    (hQ : ∀ h', Heap.ExtBut it s.heap h' → Q none { s with heap := h' }) : wpAny (model prog w) A (pyNext (.ref e)) Q E s := by
  have hT : s.TypeIs (.ref e) "enumerate" := ⟨_, he, rfl⟩
  unfold pyNext
  refine wpAny_bind (wpAny_attempt (wpAny_callSpecial?_slot (name := Str.ofString "__next__") hT F.slot_enumerate_next
    (wpAny_call_entry F.slot_enumerate_next hT F.entry_enumerate_next ?_ (F.args_enumerate_next_1 _))))
  show wpAny _ _ (field (.ref e) 2 >>= _) _ _ _
  refine wpAny_bind (wpAny_field he rfl (x := .ref it) rfl ?_)
  refine wpAny_bind (wpAny_nextOf_tuple_end hh hit ht hx fun h' x he' hx' => ?_)
  obtain ⟨o, ho, hc⟩ := hx'
  refine wpAny_bind (wpAny_isInstance (T := "StopIteration") (b := true) ⟨o, ho, hc⟩ isSubtype_stop ?_)
  exact wpAny_pure (hQ _ he')
theorem et_turn {P : Program} {w : World} {K : PySem.W.Frag} {elts : List Expr} {kk : Nat} {tpos : Pos} (a e it : Addr) :
    Turn P w K (.Tuple elts kk tpos) (Itet K a) [e, it] e (fun i h => (∃ old, IsEnum h e it ((i : Nat) : Int) old) ∧ h.IsTupleIter it a i ∧ e ≠ it) where
  mem := by simp
  obj := fun i h st b hb => by
    obtain ⟨⟨old, he⟩, ⟨o, ho, hc, hd⟩, _⟩ := st
    have e' : b = e ∨ b = it := by simpa using hb
    rcases e' with z | z
    · rw [z]; exact ⟨_, he, fun v q => nomatch q⟩
    · rw [z]; exact ⟨o, ho, fun v q => by rw [hd] at q; cases q⟩
  keep := fun i h h' st k => let ⟨⟨old, he⟩, hi, hne⟩ := st; ⟨⟨old, k e (by simp) _ he⟩, hi.at fun o q => k it (by simp) o q, hne⟩
  item := by
    intro X hP hw hK hc i pins s σ H E I hf st hg
    subst hP hw hK
    obtain ⟨⟨old, he⟩, hit, hne⟩ := st
    obtain ⟨xs, x, hq, hx⟩ := hg
    obtain ⟨its, rv, p, hz⟩ := I.tuple hq
    have ht : s.heap.IsTuple a its.toArray := p
    obtain ⟨u, hu, ru⟩ := rv.get hx
    obtain ⟨ne1, ne2⟩ := et_apart he hit ht
    have hel : e < s.heap.objs.size := Heap.lt_size he
    have hil : it < s.heap.objs.size := by obtain ⟨_, q, _⟩ := hit; exact Heap.lt_size q
    refine wpAny_pyNext_enum_itemD (Draws.tuple (A := X.A.in1) (I.ok.hd hc) it a ne2 its.toArray) he ⟨hit, ht⟩ (by have := (List.getElem?_eq_some_iff.mp hu).1; simpa using this) hne (fun h => by
      rcases List.mem_cons.mp h with h | h
      · exact hne h
      · exact ne1 (List.mem_singleton.mp h)) fun v h' tk hv ho hit' hT hsz hk => ?_
    have hvu : v = u := by
      have : its.toArray[i]? = some u := by simpa using hu
      rw [this] at hv
      exact (Option.some.inj hv).symm
    subst hvu
    refine ⟨_, rfl, wpAny_letOwnedTupleGo_enum (s := { s with heap := h', toks := tk + 1 }) ho fun h'' he' sb => ?_⟩
    have hT2 : h''.get? s.heap.objs.size = some { cls := .type "tuple", data := .seq #[.int i tk, v] } := (sb.2 _ (Nat.ne_of_gt hel)).trans hT
    have new : ObjOk X.prog X.w (upd H s.heap.objs.size (.tup [.int (i : Nat), x])) h'' s.heap.objs.size (.tup [.int (i : Nat), x]) :=
      ⟨by show 2 ≤ sizeLine; decide, [.int i tk, v], .cons ⟨_, rfl⟩ (.cons ru .nil), ⟨_, hT2, rfl, _, rfl⟩⟩
    have I1 : Inv X pins σ (upd H s.heap.objs.size (.tup [.int (i : Nat), x])) { s with heap := h'', toks := tk + 1 } :=
      I.turnedNew (ch := [e, it]) (fun b ob hb q => (sb.2 b (fun z => hb (by simp [z]))).trans (hk b ob (fun z => hb (by simp [z])) (fun z => hb (by simp [z])) q)) hf (Nat.le_refl _) new
    refine ⟨.ref s.heap.objs.size, _, I1, rfl, ⟨_, x, rfl, I.hok.fresh (Nat.le_refl _), rfl, fun ys hy => by rw [I.tuple_inj hy hq]; exact hx⟩, ⟨⟨v, ?_⟩, hit'.1.at fun o q => (sb.2 it (Ne.symm hne)).trans q, hne⟩, fun b hb => ?_⟩
    · have e1 : ((i + 1 : Nat) : Int) = (i : Int) + 1 := by omega
      rw [e1]; exact he'
    · have hb' : b < s.heap.objs.size := by
        have e' : b = e ∨ b = it := by simpa using hb
        rcases e' with z | z
        · rw [z]; exact hel
        · rw [z]; exact hil
      rw [upd_ne (Nat.ne_of_lt hb')]
      exact (hf b hb).1
  done := by
    intro X hP hw hK hc i pins s σ H E I hf st hg
    subst hP hw hK
    obtain ⟨⟨old, he⟩, hit, hne⟩ := st
    obtain ⟨xs, hq, hx⟩ := hg
    obtain ⟨its, rv, p, hz⟩ := I.tuple hq
    have ht : s.heap.IsTuple a its.toArray := p
    obtain ⟨ne1, ne2⟩ := et_apart he hit ht
    obtain ⟨f0, f1, f2, f3, f4, f5⟩ := hf it (by simp)
    have hl := rv.length
    exact et_end (I.ok.hd hc) he hit ht (by simp; omega) fun h' eb => ⟨rfl, I.turned (t' := s.toks) (fun b o hb q => eb b o hb q) f0 f1 f3 f4 f5⟩
  self := fun A i s Q E st h => let ⟨⟨_, he⟩, _⟩ := st; wpAny_pyIter_enum he h
def iEnumT (K : PySem.W.Frag) (ta : TA) : TI := fun σ H R => ta σ H fun vs H1 => ∃ a xs, vs = [.ref a] ∧ SqT K H1 a xs ∧ R (Itet K a) H1
theorem pi_enumT {X : Cx} {e : Expr} {ta : TA} {p pos tpos : Pos} {elts : List Expr} {kk : Nat} (hg : L2.Gl X "enumerate") (hm : X.mg "enumerate" = none) (ha : PA X [e] ta) (hs : starEach [e] X.env = [(false, eval e X.env)] := by rfl) :
    PI X (.Tuple elts kk tpos) (.Call (.Name "enumerate" p) [e] [] pos) (iEnumT X.K ta) := by
  refine ⟨fun pins s σ H R I h => ?_⟩
  refine Call_ (ld_blt I hg hm boot_enumerate (PyProof.Rows.callWith_type1 (thn (ha.run pos pins s σ H _ I h) fun us s1 ⟨vs, H1, I1, r1, q1⟩ => ?_) hs rfl))
  obtain ⟨a, xs, ex, hq, q⟩ := q1
  subst ex
  cases r1 with
  | cons r rr =>
    cases rr
    cases r
    obtain ⟨its, rv, p', hz⟩ := I1.tuple hq
    refine call_enumT (show s1.heap.IsTuple a its.toArray from p') fun h' he hit hsz hk => wpAny_pyIter_enum he ?_
    have I2 : Inv X pins σ H1 { s1 with heap := h' } := I1.kept (t' := s1.toks) hk
    refine ⟨s1.heap.objs.size + 1, [s1.heap.objs.size + 1, s1.heap.objs.size], _, _, H1, rfl, I2, et_turn a (s1.heap.objs.size + 1) s1.heap.objs.size, ⟨⟨.none, he⟩, hit, Nat.succ_ne_self _⟩, fun b hb => ?_, q⟩
    have e' : b = s1.heap.objs.size + 1 ∨ b = s1.heap.objs.size := by simpa using hb
    have hle : s1.heap.objs.size ≤ b := by
      rcases e' with z | z
      · rw [z]; exact Nat.le_add_right _ _
      · rw [z]; exact Nat.le_refl _
    exact I1.fpOk hle (I1.hok.fresh hle)
theorem for_enumT {K : PySem.W.Frag} {a : Addr} {xs : List V} {g : TG} {tb : TS} {D : Ends} {σ : L2.St} {H : Hp} (Pv : Nat → L2.St → Hp → Prop) (h0 : Pv 0 σ H) (hl : ∀ i σ H, i ≤ xs.length → Pv i σ H → SqT K H a xs)
    (hs : ∀ i x T σ H, xs[i]? = some x → Pv i σ H → H T = none → g (.ref T) σ (upd H T (.tup [.int (i : Nat), x])) fun σ2 H2 => tb { D with nx := Pv (i + 1), ct := Pv (i + 1), bk := D.nx } σ2 H2) (hd : ∀ σ H, Pv xs.length σ H → D.nx σ H) :
    ∃ W : Nat → Nat → L2.St → Hp → Prop, (∃ m, W 0 m σ H) ∧ ∀ i m σ H, W i m σ H →
      ((Itet K a).stop i H ∧ D.nx σ H) ∨ ((Itet K a).go i H ∧ ∃ N : L2.St → Hp → Prop, (∀ σ' H', N σ' H' → ∃ m', m' < m ∧ W (i + 1) m' σ' H') ∧ ∀ x H', (Itet K a).yld i H x H' → g x σ H' fun σ2 H2 => tb { D with nx := N, ct := N, bk := D.nx } σ2 H2) := by
  refine ⟨fun i m σ H => m = xs.length - i ∧ i ≤ xs.length ∧ Pv i σ H, ⟨xs.length, by simp, Nat.zero_le _, h0⟩, ?_⟩
  rintro i m σ H ⟨rfl, hi, p⟩
  have hq := hl i σ H hi p
  by_cases hlt : i < xs.length
  · refine .inr ⟨⟨xs, _, hq, List.getElem?_eq_getElem hlt⟩, Pv (i + 1), fun σ' H' p' => ⟨xs.length - (i + 1), by omega, rfl, hlt, p'⟩, fun v H' y => ?_⟩
    obtain ⟨T, x, rfl, hT, rfl, hx⟩ := y
    exact hs i x T σ _ (hx xs hq) p hT
  · have e : i = xs.length := by omega
    subst e
    exact .inl ⟨⟨xs, hq, Nat.le_refl _⟩, hd σ H p⟩
end My
set_option maxHeartbeats 1000000
namespace My
open PySem PySem.Spec PyProof.Rows L2
/-! ### sorted(dict), int keys -/
theorem dk_len : typeLookup (.type "dict") "__len__" = pure (some (.builtin "dict.__len__")) := by rw [typeLookup_type, builtinLookup_eq_fast]; kernel_rfl
section
variable {prog : Program} {w : World} {A : Around} {E : Value → Shared → Prop} {s : Shared} {d : Addr} {es : Array DictEntry} {ep : Nat}
theorem dk_hint (hT : s.TypeIs (.ref d) "dict") {Q : Bool → Shared → Prop} (h : Q false s) : wpAny (model prog w) A (Builtin.List.listLengthHint (.ref d)) Q E s := by
  unfold Builtin.List.listLengthHint
  refine wpAny_bind (wpAny_specialOf hT dk_len ?_)
  generalize hid : ("dict.__len__" : String) = id0
  wp_delta
  rw [show splitId id0 = some ("dict", "__len__") from by subst hid; decide +kernel]
  subst hid
  refine wpAny_bind (wpAny_isInstance (T := "dict") (b := true) hT (by rw [isSubtype_type]; kernel_rfl) ?_)
  refine wpAny_ite_split (fun hab => absurd hab (by decide)) (fun _ => ?_)
  refine wpAny_ite_split (fun _ => ?_) (fun hab => absurd (by decide +kernel) hab)
  refine wpAny_bind (wpAny_typeOf hT ?_)
  exact wpAny_pure h
theorem raw_at {h h' : Heap} (x : h.DictRaw d es ep) (e : ∀ o, h.get? d = some o → h'.get? d = some o) : h'.DictRaw d es ep := let ⟨o, ho, r⟩ := x; ⟨o, e _ ho, r⟩
theorem raw_lt {h : Heap} (x : h.DictRaw d es ep) : d < h.objs.size := let ⟨_, ho, _⟩ := x; Heap.lt_size ho
theorem loopK {R : Result → Shared → Prop} {S I : Addr} (hh : A.handled = none) (hSI : S < I) (hSd : d ≠ S) (hId : d ≠ I) (hn : es.size ≤ sizeLine) (res : Value) {h₁ : Heap}
    (hR : ∀ h' acc c, (∀ b o, b ≠ S → b ≠ I → h₁.get? b = some o → h'.get? b = some o) → h'.get? S = some { cls := .type "list", dict := none, data := .seq acc c, slots := #[] } →
      acc.toList = es.toList.map (·.key) → R (.ok (.ret res)) { s with heap := h' }) :
    ∀ (k i : Nat) (h : Heap) (c : Nat) (acc : Array Value), es.size - i = k → i ≤ es.size → h.IsKeyIter I d i es.size ep → h.DictRaw d es ep → (∀ b o, b ≠ S → b ≠ I → h₁.get? b = some o → h.get? b = some o) →
      h.get? S = some { cls := .type "list", dict := none, data := .seq acc c, slots := #[] } → acc.toList = (es.toList.map (·.key)).take i →
      codeAny (model prog w) A (.builtin "list.extend.loop" ⟨[.ref S, .ref I, res], []⟩) R { s with heap := h } := by
  have hne : S ≠ I := Nat.ne_of_lt hSI
  intro k
  induction k with
  | zero =>
    intro i h c acc hk hi hst hD hkeep hS hacc
    refine codeAny_builtin PySem.F.entry_extend_loop ?_
    rw [Around.under_plainId PySem.F.plain_extend_loop _]
    show wpAny _ A.in1 (pyNext (.ref I) >>= _) _ _ _
    refine wpAny_bind (wpAny_pyNext_keys_end_raw (s := { s with heap := h }) (A := A.in1) hh hst hD (by omega) fun h' he => ?_)
    refine wpAny_pure (hR h' acc c (fun b o h1 h2 e => he b o h2 (hkeep b o h1 h2 e)) (he S _ hne hS) ?_)
    rw [hacc, List.take_of_length_le]
    rw [List.length_map, Array.length_toList]
    omega
  | succ k ih =>
    intro i h c acc hk hi hst hD hkeep hS hacc
    have hlt : i < es.size := by omega
    have hsz : acc.size = i := by rw [← Array.length_toList, hacc, List.length_take, List.length_map, Array.length_toList]; omega
    refine codeAny_builtin PySem.F.entry_extend_loop ?_
    rw [Around.under_plainId PySem.F.plain_extend_loop _]
    show wpAny _ A.in1 (pyNext (.ref I) >>= _) _ _ _
    refine wpAny_bind (wpAny_pyNext_keys_item_raw (s := { s with heap := h }) hst hD hlt fun h' hst' sb => ?_)
    have hkp : ∀ b o, b ≠ I → h.get? b = some o → h'.get? b = some o := fun b o hb e => (sb.2 b hb).trans e
    have hS' := hkp S _ hne hS
    have up : ∀ b o, b ≠ S → h'.get? b = some o → (h'.update S (Obj.mapSeq (·.push es[i].key))).get? b = some o := fun b o hb e => (Heap.get?_update_other _ _ (Ne.symm hb)).trans e
    show wpAny _ A.in1 (updateSeq S (·.push es[i].key) >>= _) _ _ _
    refine wpAny_bind ?_
    refine wpAny_updateSeq hS' rfl (wpAny_pure ⟨plainId_quiet PySem.F.plain_extend_loop _, ih (i + 1) _ _ (acc.push es[i].key) (by omega) hlt (hst'.at fun o e => up I o (Ne.symm hne) e) (raw_at hD fun o e => up d o hSd (hkp d o hId e))
      (fun b o h1 h2 e => up b o h1 (hkp b o h2 (hkeep b o h1 h2 e))) (Heap.get?_update_self _ hS' rfl) ?_⟩) (by rw [hsz]; omega) (by show (acc.push es[i].key).size ≤ sizeLine + 1; rw [Array.size_push]; omega)
    rw [Array.toList_push, hacc, List.take_add_one]
    congr 1
    rw [List.getElem?_map, Array.getElem?_toList, Array.getElem?_eq_getElem hlt]
    rfl
theorem extK {R : Result → Shared → Prop} (hh : A.handled = none) (hds : (d == sysModules) = false) (hm : s.heap.DictRaw d es ep) (S : Addr) (hSd : d ≠ S) (res : Value) (c₀ : Nat) (hS : s.heap.get? S = some { cls := .type "list", data := .seq #[] c₀ })
    (hR : ∀ h' acc c, (∀ b o, b ≠ S → s.heap.get? b = some o → h'.get? b = some o) → h'.get? S = some { cls := .type "list", dict := none, data := .seq acc c, slots := #[] } →
      acc.toList = es.toList.map (·.key) → R (.ok (.ret res)) { s with heap := h' }) (hn : es.size ≤ sizeLine) :
    wpAny (model prog w) A.in1 (Builtin.List.listExtendWith (.ref S) (.ref d) res)
      (fun fin s' => match fin with | .done f => R (.ok f) s' | .again c' => c'.quiet = true ∧ codeAny (model prog w) A c' R s') (fun e s' => R (.error e) s') s := by
  have hSI : S < s.heap.objs.size := Heap.lt_size hS
  have hdI : d < s.heap.objs.size := raw_lt hm
  have key : ∀ (h : Heap) (c₁ : Nat), (∀ b o, b ≠ S → (s.heap.push { cls := .type "dict_keyiterator", data := .fields #[.ref d, .int 0 0, .int es.size 0, .int ep 0] }).get? b = some o → h.get? b = some o) →
      h.get? S = some { cls := .type "list", data := .seq #[] c₁ } → codeAny (model prog w) A (.builtin "list.extend.loop" ⟨[.ref S, .ref s.heap.objs.size, res], []⟩) R { s with heap := h } := by
    intro h c₁ hk hS₁
    have hI := hk s.heap.objs.size _ (Nat.ne_of_gt hSI) (Heap.get?_push_size _ rfl)
    refine loopK (es := es) (ep := ep) (s := s) (h₁ := s.heap) hh hSI hSd (Nat.ne_of_lt hdI) hn res (fun h' acc c hk' hS' hacc => hR h' acc c (fun b o hb e => hk' b o hb (Nat.ne_of_lt (Heap.lt_size e)) e) hS' hacc)
      es.size 0 h c₁ #[] (Nat.sub_zero _) (Nat.zero_le _) ⟨_, hI, rfl, rfl⟩ (raw_at hm fun o e => hk d o hSd (Heap.get?_push_of_some _ e)) (fun b o hb _ e => hk b o hb (Heap.get?_push_of_some _ e)) hS₁ rfl
  unfold Builtin.List.listExtendWith
  refine wpAny_bind (wpAny_typeOf (T := "dict") hm.typeIs ?_)
  have h1 : Builtin.List.listSameRef (.ref S) (.ref d) = false := by simp [Builtin.List.listSameRef, Ne.symm hSd]
  have h2 : (Value.type "dict" == Value.type "list") = false := by decide
  have h3 : (Value.type "dict" == Value.type "tuple") = false := by decide
  simp only [h1, h2, h3, Bool.or_false, Bool.false_eq_true, if_false]
  refine wpAny_bind (wpAny_pyIter_dict_raw hds hm ?_)
  have hS₁ := Heap.get?_push_of_some { cls := .type "dict_keyiterator", data := .fields #[.ref d, .int 0 0, .int es.size 0, .int ep 0] } hS
  refine wpAny_bind (wpAny_holding (dk_hint (raw_at hm fun o e => Heap.get?_push_of_some _ e).typeIs ?_))
  refine wpAny_ite_split (fun _ => ?_) (fun _ => wpAny_pure ⟨plainId_quiet PySem.F.plain_extend_loop _, key _ c₀ (fun b o _ e => e) hS₁⟩)
  refine wpAny_bind (wpAny_rule ?_)
  refine wpAny_bind ?_
  show wpAny _ _ (updateSeq S (·.push .none) >>= fun _ => updateSeq S (·.pop)) _ _ _
  refine wpAny_bind (wpAny_updateSeq hS₁ rfl ?_)
  have hS₂ := Heap.get?_update_self (Obj.mapSeq (·.push Value.none)) hS₁ rfl
  refine wpAny_updateSeq (hz := by seq_fits) hS₂ rfl ?_
  have hS₃ := Heap.get?_update_self (Obj.mapSeq (·.pop)) hS₂ rfl
  refine wpAny_pure ⟨plainId_quiet PySem.F.plain_extend_loop _, key _ _ (fun b o hb e => ?_) hS₃⟩
  exact (Heap.get?_update_other _ _ (Ne.symm hb)).trans ((Heap.get?_update_other _ _ (Ne.symm hb)).trans e)
theorem collectK {R : List Value → Shared → Prop} (hh : A.handled = none) (hds : (d == sysModules) = false) (hm : s.heap.DictRaw d es ep) (hn : es.size ≤ sizeLine)
    (h : ∀ h' : Heap, (∀ b o, s.heap.get? b = some o → h'.get? b = some o) → s.heap.objs.size < h'.objs.size → R (es.toList.map (·.key)) { s with heap := h' }) :
    wpAny (model prog w) A (collect (.ref d)) R E s := by
  have hd : d < s.heap.objs.size := raw_lt hm
  unfold collect
  refine wpAny_bind (wpAny_runValue (codeAny_builtin entry_proto_collect' ?_))
  rw [Around.under_plainId PySem.F.plain_proto_collect _]
  show wpAny _ A.in1 (newList [] >>= fun l => again (.builtin "list.__iadd__" ⟨[l, .ref d], []⟩)) _ _ s
  refine wpAny_bind (wpAny_newObj_type ?_)
  refine wpAny_pure ⟨plainId_quiet PySem.F.plain_list_iadd _, codeAny_builtin entry_list_iadd' ?_⟩
  rw [Around.under_plainId PySem.F.plain_list_iadd _]
  have hS₁ : (s.heap.push { cls := .type "list", data := .seq ([] : List Value).toArray }).get? s.heap.objs.size = some { cls := .type "list", data := .seq #[] } := Heap.get?_push_size _ rfl
  show wpAny _ A.in1 (Builtin.List.listExtendWith (.ref s.heap.objs.size) (.ref d) (.ref s.heap.objs.size)) _ _ _
  have key := extK (prog := prog) (w := w) (A := A) (s := { s with heap := s.heap.push { cls := .type "list", data := .seq ([] : List Value).toArray } }) (es := es) (ep := ep)
    (R := fun (q : Result) (s' : Shared) => ∃ (h' : Heap) (acc' : Array Value) (c' : Nat), q = .ok (.ret (.ref s.heap.objs.size)) ∧ s' = { s with heap := h' } ∧
      (∀ b o, s.heap.get? b = some o → h'.get? b = some o) ∧ h'.get? s.heap.objs.size = some { cls := .type "list", dict := none, data := .seq acc' c', slots := #[] } ∧ acc'.toList = es.toList.map (·.key))
    hh hds (raw_at hm fun o e => Heap.get?_push_of_some _ e) s.heap.objs.size (Nat.ne_of_lt hd) (.ref s.heap.objs.size) 0 hS₁
    (fun h' acc' c' hk hS' hacc => ⟨h', acc', c', rfl, rfl, fun b o e => hk b o (Nat.ne_of_lt (Heap.lt_size e)) (Heap.get?_push_of_some _ e), hS', hacc⟩) hn
  refine wpAny_mono key (fun fin s' x => ?_) fun e s' x => ?_
  · cases fin with
    | done f =>
      obtain ⟨h', acc', c', e, rfl, hk, hS', hacc⟩ := x
      cases e
      show wpAny _ A (load s.heap.objs.size >>= _) _ _ _
      refine wpAny_bind (wpAny_load hS' ?_)
      refine wpAny_pure ?_
      show R acc'.toList _
      rw [hacc]
      exact h h' hk (Heap.lt_size hS')
    | again c₁ =>
      refine ⟨x.1, codeAny_mono x.2 fun q s₂ y => ?_⟩
      obtain ⟨h', acc', c', rfl, rfl, hk, hS', hacc⟩ := y
      show wpAny _ A (load s.heap.objs.size >>= _) _ _ _
      refine wpAny_bind (wpAny_load hS' ?_)
      refine wpAny_pure ?_
      show R acc'.toList _
      rw [hacc]
      exact h h' hk (Heap.lt_size hS')
  · obtain ⟨_, _, _, e', _⟩ := x
    cases e'
end
end My
namespace My
open PySem PySem.Spec PyProof.Rows L2
theorem ints_keys {P : Program} {w : World} : ∀ {es : List DictEntry} {xs : List (Key × Value)} {kvs : List (Key × V)} {ns : List Int}, Pairs (mixKind P w) es xs → KV kvs xs → kvs.map (·.1) = ns.map Sum.inl → IntsAre (es.map (·.key)) ns := by
  intro es xs kvs ns hp
  induction hp generalizing kvs ns with
  | nil =>
    intro kv hk
    cases kv
    cases ns with
    | nil => exact .nil
    | cons n ns => cases hk
  | @cons e x es xs h1 h2 _ ih =>
    intro kv hk
    cases kv with
    | @cons a _ l _ hh ht =>
      cases ns with
      | nil => cases hk
      | cons n ns =>
        rw [List.map_cons, List.map_cons] at hk
        have hk1 := (List.cons.inj hk).1
        have hk2 := (List.cons.inj hk).2
        rw [List.map_cons]
        have h1' : keyIs x.1 e.key = true := h1
        rw [← hh.1, hk1] at h1'
        rcases keyIs_shape h1' with ⟨i, t, e1, e2⟩ | ⟨y, t, e1, _⟩
        · rw [e2, Sum.inl.inj e1]
          exact .cons i t (ih ht hk2)
        · cases e1
section
variable {prog : Program} {w : World} {A : Around} {E : Value → Shared → Prop} {s : Shared} {d : Addr} {es : Array DictEntry} {ep : Nat}
theorem sortedK {Q : Value → Shared → Prop} {ns : List Int} (hh : A.handled = none) (hds : (d == sysModules) = false) (hm : s.heap.DictRaw d es ep) (hn : es.size ≤ sizeLine) (hI : IntsAre (es.toList.map (·.key)) ns)
    (h : ∀ (h' : Heap) (p : Addr) (out : List Value) (n : Nat), s.heap.objs.size ≤ p → (∀ b o, s.heap.get? b = some o → h'.get? b = some o) → h'.get? p = some (seqObj "list" out.toArray n) → SrtO.Srtd SrtO.ltIv out → SrtO.Stb SrtO.ltIv out (es.toList.map (·.key)) → Q (.ref p) { s with heap := h' }) :
    wpAny (model prog w) A (call (.builtin "sorted") [.ref d]) Q E s := by
  refine Calls.call_function_entry kind_sorted plain_sorted entry_sorted (args_sorted1 _) ?_
  unfold Builtin.«sorted»
  refine wpAny_bind (m := checkCount "sorted" 1 1 _) (wpAny_pure ?_)
  refine wpAny_bind (collectK (A := A.in1) (es := es) (ep := ep) hh hds hm hn fun h1 hk hlt => ?_)
  have hz : (es.toList.map (·.key)).length ≤ sizeLine := by rw [List.length_map, Array.length_toList]; exact hn
  refine wpAny_bind (wpAny_newList ?_ hz)
  have hoL : (h1.push { cls := .type "list", data := .seq (es.toList.map (·.key)).toArray }).get? h1.objs.size = some (seqObj "list" (es.toList.map (·.key)).toArray 0) := Heap.get?_push_size _ rfl
  have hle : s.heap.objs.size ≤ h1.objs.size := Nat.le_of_lt hlt
  refine wpAny_bind (wpAny_holding (wpAny_call_entry PyProof.Rows.slot_list_sort ⟨_, hoL, rfl⟩ PyProof.Rows.entry_list_sort (SrtO.list_sort_ord SrtO.swo_int hoL hz (fun h2 => SrtO.ints_sortable hI h2) fun out hs hb => ⟨_, rfl, ?_⟩) (PyProof.Rows.args_list_sort _)))
  obtain ⟨n, he⟩ := PyProof.Rows.sortedHeap_at (vs := es.toList.map (·.key)) (out := out.toArray) hoL
  refine wpAny_pure ⟨_, rfl, h _ h1.objs.size out n hle (fun b o hb => ?_) he hs hb⟩
  have hb1 := hk b o hb
  rw [PyProof.Rows.sortedHeap_old (Nat.ne_of_lt (Heap.lt_size hb1)) (by rw [Heap.size_push]; exact Nat.lt_succ_of_lt (Heap.lt_size hb1))]
  exact Heap.get?_push_of_some _ hb1
end
/-- sorted(d), a dict with int keys -/
def rSortedDI : List V → Hp → VK → Prop := fun vs H Q => ∃ (a : Addr) (kvs : List (Key × V)) (ns : List Int), vs = [V.ref a] ∧ H a = some (.dK kvs) ∧ kvs.map (·.1) = ns.map Sum.inl ∧
  ∀ (ns' : List Int) (p : Addr), ns'.Perm ns → ns'.Pairwise (· ≤ ·) → H p = none → Q (.ref p) (upd H p (.lst (ns'.map V.int)))
theorem cr_sortedDI {X : Cx} (hc : X.calm = true) : CallR X (.builtin "sorted") rSortedDI := by
  intro pins s σ H vs us Q I r h
  obtain ⟨a, kvs, ns, rfl, ha, hk, q⟩ := h
  obtain ⟨hz, hds, xs, kv, o, es, ep, ho, hx, hdat, _, hp, _⟩ := dk_of I.hok ha
  rw [Vals.ref1 r]
  have hI := ints_keys hp kv hk
  have l1 : kvs.length = ns.length := by
    have := congrArg List.length hk
    rw [List.length_map, List.length_map] at this
    exact this
  have hln : ∀ {vs : List Value} {ns : List Int}, IntsAre vs ns → vs.length = ns.length := fun h => by
    induction h with
    | nil => rfl
    | cons _ _ _ ih => rw [List.length_cons, List.length_cons, ih]
  have l2 := hln hI
  rw [List.length_map, Array.length_toList] at l2
  refine sortedK (ns := ns) (I.ok.hd hc) hds ⟨o, ho, hx, hdat⟩ (by omega) hI fun h' p out n hle hkp he h1 h2 => ?_
  obtain ⟨k1, k2, k3⟩ := SrtO.ints_out hI h1 h2
  have hlen : ((out.map SrtO.iv).map V.int).length ≤ sizeLine := by
    rw [List.length_map, k2.length_eq]
    omega
  exact ⟨.ref _, upd H p (.lst ((out.map SrtO.iv).map V.int)), I.laid (t' := s.toks) hkp hle ⟨hlen, out, n, vals_of_ints k1, he⟩, rfl, q _ _ k2 k3 (I.hok.fresh hle)⟩
end My
namespace My
open PySem PySem.Spec PyProof.Rows L2
/-! ### sorted() of a list of tuples of ints, any number of them -/
def TI (h : Heap) (v : Value) (ns : List Int) : Prop := ∃ (t : Addr) (items : Array Value), v = .ref t ∧ IsTup h t items ∧ IntsAre items.toList ns
theorem TI.keeps {h h' : Heap} {v : Value} {ns : List Int} (x : TI h v ns) (kp : ∀ b o, h.get? b = some o → o.cls = .type "tuple" → h'.get? b = some o) : TI h' v ns := by
  obtain ⟨t, items, e, ⟨o, ho, hc, hd⟩, hi⟩ := x
  exact ⟨t, items, e, ⟨o, kp t o ho hc, hc, hd⟩, hi⟩
section
variable {prog : Program} {w : World} {A : Around} {E : Value → Shared → Prop} {s : Shared}
theorem kt_ints {b : Bool} {Q : Bool → Shared → Prop} : ∀ {xs ys : List Value} {ns ms : List Int} {i : Nat} {fin : Bool}, IntsAre xs ns → IntsAre ys ms → fin = decide (ns.length < ms.length) → Q (HT.lexLt ns ms) s → PySem.W.KatLex prog w A b fin Q (xs.zip ys) i s
  | [], [], _, _, _, _, .nil, .nil, hf, h => by
    refine PySem.W.kat_nil ?_
    rw [hf]
    exact h
  | [], _ :: _, _, _, _, _, .nil, .cons _ _ _, hf, h => by
    refine PySem.W.kat_nil ?_
    rw [hf]
    exact h
  | _ :: _, [], _, _, _, _, .cons _ _ _, .nil, hf, h => by
    refine PySem.W.kat_nil ?_
    rw [hf]
    exact h
  | _ :: xs, _ :: ys, _, _, i, fin, .cons x t r, .cons y u r2, hf, h => by
    rw [List.zip_cons_cons]
    refine PySem.W.kat_cons (SeqAt.EqAt.int_int x t y u prog w _ _ ?_)
    rw [HT.lexLt_cons] at h
    refine PySem.W.kat_go (fun e1 => ?_) (fun e1 => ?_)
    · have ex : x = y := by simpa using e1
      rw [if_pos ex] at h
      refine PySem.W.kat_yes (kt_ints r r2 ?_ h)
      rw [hf]
      exact decide_eq_decide.mpr (by rw [List.length_cons, List.length_cons]; omega)
    · have ex : ¬ x = y := by simpa using e1
      rw [if_neg ex] at h
      exact PySem.W.kat_no (TS.oneLt_ints _ h)
theorem ti_cmp {vs : List Value} {k : Value → List Int} (hp : ∀ v ∈ vs, TI s.heap v (k v)) : SrtO.Cmp prog w A s (tuples' true) (fun p => p.1 ∈ vs) (SrtO.lt2 fun v u => HT.lexLt (k v) (k u)) := by
  intro p q m1 m2
  obtain ⟨t1, i1, e1, ⟨o1, g1, _, n1, d1⟩, j1⟩ := hp _ m1
  obtain ⟨t2, i2, e2, ⟨o2, g2, _, n2, d2⟩, j2⟩ := hp _ m2
  show wpAny (model prog w) A (keyLt' (tuples' true) p.1 q.1) (fun r s' => s' = s ∧ r = HT.lexLt (k p.1) (k q.1)) (fun _ _ => False) s
  generalize k p.1 = ns at j1 ⊢
  generalize k q.1 = ms at j2 ⊢
  rw [e1, e2]
  refine PySem.W.kat_lt g1 d1 g2 d2 (kt_ints j1 j2 ?_ ⟨rfl, rfl⟩)
  rw [← j1.length, ← j2.length, Array.length_toList, Array.length_toList]
theorem ti_lt {v u : Value} {ns ms : List Int} {Q : Bool → Shared → Prop} (hu : A.units < cLine) (h1 : TI s.heap v ns) (h2 : TI s.heap u ms) (q : Q (HT.lexLt ns ms) s) : wpAny (model prog w) A (keyLt' oneType' v u) Q E s := by
  obtain ⟨t1, i1, rfl, p1, j1⟩ := h1
  obtain ⟨t2, i2, rfl, p2, j2⟩ := h2
  obtain ⟨⟨cls, dd, data, sl⟩, ho, hc, n, hd⟩ := id p1
  obtain ⟨⟨cls2, dd2, data2, sl2⟩, ho2, hc2, n2, hd2⟩ := id p2
  simp only at hc hd hc2 hd2
  subst hc hd hc2 hd2
  rw [keyLt'_oneType, oneLt'_eq]
  simp only [if_true]
  have tt : s.TypeIs (.ref t1) "tuple" := ⟨_, ho, rfl⟩
  refine wpAny_bind (wpAny_cRoomFor hu (wpAny_bind (wpAny_callSpecialIfBound?_slot tt PySem.F.slot_tuple_lt ?_)))
  exact call_meets PySem.F.slot_tuple_lt tt PySem.F.entry_tuple_lt (PySem.F.args_tuple_lt_2 _ _) (HT.tuple_lt_ints t1 t2 i1 i2 n n2 dd dd2 sl sl2 ns ms j1 j2) ⟨ho, ho2, wpAny_truthy_bool q⟩
theorem ti_cmp1 {vs : List Value} {k : Value → List Int} (hu : A.units < cLine) (hp : ∀ v ∈ vs, TI s.heap v (k v)) : SrtO.Cmp prog w A s oneType' (fun p => p.1 ∈ vs) (SrtO.lt2 fun v u => HT.lexLt (k v) (k u)) :=
  fun p q m1 m2 => ti_lt (Q := fun r s' => s' = s ∧ r = HT.lexLt (k p.1) (k q.1)) (E := fun _ _ => False) hu (hp p.1 m1) (hp q.1 m2) ⟨rfl, rfl⟩
theorem ti_type {M : Model} {v : Value} {ns : List Int} (h : TI s.heap v ns) : PySem.W.Looks M s.heap (typeOf v) (.type "tuple") := by
  obtain ⟨t, i, rfl, ⟨o, ho, hc, _⟩, _⟩ := h
  have : PySem.W.Looks M s.heap (typeOf (.ref t)) o.cls := (PySem.W.Looks.ld ho).andThen .now
  rw [hc] at this
  exact this
theorem ti_firsts {h : Heap} : ∀ (vs : List Value), (∀ v ∈ vs, ∃ n ns, TI h v (n :: ns)) → ∃ fs, PySem.W.KatTups h vs fs ∧ fs.length = vs.length ∧ ∀ f ∈ fs, ∃ n t, f = Value.int n t
  | [], _ => ⟨[], .nil, rfl, fun f z => by cases z⟩
  | v :: vs, H => by
    obtain ⟨fs, a1, a2, a3⟩ := ti_firsts vs fun u hu => H u (List.mem_cons_of_mem _ hu)
    obtain ⟨n, ns, t, items, rfl, ⟨o, ho, hc, k, hd⟩, hi⟩ := H v (List.mem_cons_self ..)
    obtain ⟨xs⟩ := items
    cases hi with
    | cons _ tk r =>
      refine ⟨_ :: fs, PySem.W.KatTups.cons ho hc hd rfl a1, by rw [List.length_cons, List.length_cons, a2], fun f hf => ?_⟩
      rcases List.mem_cons.mp hf with rfl | hf
      · exact ⟨n, tk, rfl⟩
      · exact a3 f hf
theorem ti_mapM {M : Model} : ∀ (vs : List Value) {Q : List (Option Value) → Shared → Prop}, (∀ v ∈ vs, ∃ ns, TI s.heap v ns) → (∀ fs, Q fs s) → wpAny M A (vs.mapM firstOfTuple') Q E s
  | [], Q, _, q => by
    rw [List.mapM_nil]
    exact wpAny_pure (q [])
  | v :: vs, Q, H, q => by
    obtain ⟨ns, hv⟩ := H v (List.mem_cons_self ..)
    have ty := ti_type (M := M) hv
    obtain ⟨t, items, rfl, ⟨o, ho, hc, k, hd⟩, hi⟩ := hv
    rw [List.mapM_cons, PySem.W.kas_first_eq]
    refine wpAny_bind (wpAny_bind (ty.here ?_))
    rw [if_neg (by decide)]
    exact wpAny_bind (PyProof.Rows.listItems_at ho hd (wpAny_pure (wpAny_bind (ti_mapM vs (Q := fun bs s' => wpAny M A (pure (_ :: bs)) Q E s') (fun u hu => H u (List.mem_cons_of_mem _ hu)) fun fs => wpAny_pure (q _)))))
theorem ti_kind1 {M : Model} {v : Value} {vs : List Value} {Q : SortKind → Shared → Prop} (h0 : TI s.heap v []) (H : ∀ u ∈ vs, ∃ ns, TI s.heap u ns) (q : Q oneType' s) : wpAny M A (keyKind' (v :: vs).toArray) Q E s := by
  have ty : ∀ u ∈ v :: vs, PySem.W.Looks M s.heap (typeOf u) (.type "tuple") := fun u hu => by
    rcases List.mem_cons.mp hu with rfl | hu
    · exact ti_type h0
    · obtain ⟨ns, h⟩ := H u hu
      exact ti_type h
  have tv := ty v (List.mem_cons_self ..)
  obtain ⟨t, items, rfl, ⟨o, ho, hc, k, hd⟩, hi⟩ := h0
  obtain ⟨xs⟩ := items
  cases hi
  rw [keyKind'_eq, List.mapM_toArray, map_eq_pure_bind, List.mapM_cons, PySem.W.kas_first_eq]
  refine wpAny_bind (wpAny_bind (wpAny_bind (wpAny_bind (tv.here ?_))))
  rw [if_neg (by decide)]
  refine wpAny_bind (PyProof.Rows.listItems_at ho hd (wpAny_pure ?_))
  refine wpAny_bind (ti_mapM vs H fun fs => wpAny_pure (wpAny_pure ?_))
  rw [if_neg (by simp), if_neg (by simp)]
  rw [oneTypeOnly'_eq, List.mapM_toArray, map_eq_pure_bind]
  refine wpAny_bind (wpAny_bind (wpAny_bind (PySem.W.kas_mapM (r := Value.type "tuple") _ (fun u hu Q' hq => (ty u hu).here hq) (wpAny_pure ?_))))
  have z0 : (List.map (fun _ => Value.type "tuple") (Value.ref t :: vs)).toArray[0]? = some (Value.type "tuple") := by simp
  rw [z0]
  have z1 : ((List.map (fun _ => Value.type "tuple") (Value.ref t :: vs)).toArray.all fun x => x == Value.type "tuple") = true := by
    simp only [List.all_toArray, List.all_map, List.all_eq_true]
    intro _ _
    exact beq_self_eq_true _
  simp only [z1, if_true]
  exact wpAny_pure (wpAny_pure q)
theorem ti_sortable {a : Addr} {vs : List Value} {k : Value → List Int} (hu : A.units < cLine) (h0 : 0 < vs.length) (hp : ∀ v ∈ vs, TI s.heap v (k v)) (hk : (∀ v ∈ vs, k v ≠ []) ∨ ∃ v r, vs = v :: r ∧ k v = []) (ha : ∀ o, s.heap.get? a = some o → o.cls ≠ .type "tuple") : SrtO.SortableO prog w A s a vs fun v u => HT.lexLt (k v) (k u) := by
  intro h' keep
  have hp' : ∀ v ∈ vs, TI h' v (k v) := fun v hm => (hp v hm).keeps fun b o e c => keep b o (fun z => ha o (by rw [← z]; exact e) c) e
  rcases hk with hk | ⟨v, r, rfl, hv⟩
  · obtain ⟨fs, a1, a2, a3⟩ := ti_firsts (h := h') vs fun v hv => by
      have h1 := hp' v hv
      have h2 := hk v hv
      cases hh : k v with
      | nil => exact absurd hh h2
      | cons n ns =>
        rw [hh] at h1
        exact ⟨n, ns, h1⟩
    refine ⟨tuples' true, fun Q E hq => ?_, ti_cmp (s := { s with heap := h' }) hp'⟩
    refine PySem.W.kat_kind (T := .type "int") a1 (by omega) (fun f hm => ?_) (by rfl) ?_
    · obtain ⟨n, t, rfl⟩ := a3 f hm
      exact PySem.W.Looks.now
    · rw [show (Value.type "int" != Value.type "tuple") = true by decide]
      exact hq
  · refine ⟨oneType', fun Q E hq => ?_, ti_cmp1 (s := { s with heap := h' }) hu hp'⟩
    refine ti_kind1 (s := { s with heap := h' }) ?_ (fun u hu => ⟨_, hp' u (List.mem_cons_of_mem _ hu)⟩) hq
    have := hp' v (List.mem_cons_self ..)
    rw [hv] at this
    exact this
end
def bkW : Value → V
  | .ref a => .ref a
  | _ => .non
theorem bkW_refs : ∀ {xs : List V} {us : List Value}, Vals xs us → (∀ x ∈ xs, ∃ a, x = V.ref a) → xs = us.map bkW ∧ ∀ u ∈ us, ∃ a, u = Value.ref a
  | _, _, .nil, _ => ⟨rfl, fun u hu => by cases hu⟩
  | x :: xs, _ :: us, .cons r t, h => by
    obtain ⟨a, rfl⟩ := h x (List.mem_cons_self ..)
    cases r
    obtain ⟨h1, h2⟩ := bkW_refs t fun y hy => h y (List.mem_cons_of_mem _ hy)
    refine ⟨by rw [List.map_cons, ← h1]; rfl, fun u hu => ?_⟩
    rcases List.mem_cons.mp hu with rfl | hu
    · exact ⟨a, rfl⟩
    · exact h2 u hu
theorem bkW_vals : ∀ {us : List Value}, (∀ u ∈ us, ∃ a, u = Value.ref a) → Vals (us.map bkW) us
  | [], _ => .nil
  | u :: us, h => by
    obtain ⟨a, rfl⟩ := h u (List.mem_cons_self ..)
    exact .cons (show RelV (.ref a) (.ref a) from rfl) (bkW_vals fun y hy => h y (List.mem_cons_of_mem _ hy))
/-- sorted(xs), xs a list of tuples of ints of any number and lengths (none of them empty, or the first one) -/
def rSortedTs (K : PySem.W.Frag) : List V → Hp → VK → Prop := fun vs H Q => ∃ (a : Addr) (xs : List V) (k : V → List Int), vs = [V.ref a] ∧ SqL K H a xs ∧ (∀ x ∈ xs, ∃ t, x = V.ref t ∧ SqT K H t ((k x).map V.int)) ∧ ((∀ x ∈ xs, k x ≠ []) ∨ ∃ x r, xs = x :: r ∧ k x = []) ∧
  ∀ ys p, ys.Perm xs → ys.Pairwise (fun x y => HT.lexLt (k y) (k x) = false) → H p = none → Q (.ref p) (upd H p (.lst ys))
theorem cr_sortedTs {X : Cx} (hu : X.A.units + 64 < cLine) : CallR X (.builtin "sorted") (rSortedTs X.K) := by
  intro pins s σ H vs us Q I r h
  obtain ⟨a, xs, k, rfl, hs, hx, hk, q⟩ := h
  obtain ⟨its, rv, hl, hz⟩ := I.list hs
  obtain ⟨u, rfl, ru⟩ := vals1 r
  obtain rfl : u = Value.ref a := ru
  obtain ⟨e1, e2⟩ := bkW_refs rv fun x m => by
    obtain ⟨t, e, _⟩ := hx x m
    exact ⟨t, e⟩
  have ht : ∀ v ∈ its, TI s.heap v (k (bkW v)) := fun v hv => by
    obtain ⟨t, rfl⟩ := e2 v hv
    have hm : V.ref t ∈ xs := by
      rw [e1]
      exact List.mem_map.mpr ⟨_, hv, rfl⟩
    obtain ⟨t', e, h1⟩ := hx _ hm
    cases e
    obtain ⟨is, r2, hT, _⟩ := I.tuple h1
    exact ⟨t, is.toArray, rfl, hT, show IntsAre is.toArray.toList (k (V.ref t)) by simpa using r2.ints⟩
  have hk' : (∀ v ∈ its, k (bkW v) ≠ []) ∨ ∃ v r, its = v :: r ∧ k (bkW v) = [] := by
    rcases hk with hk | ⟨x, r, e, hx⟩
    · exact .inl fun v hv => hk _ (by rw [e1]; exact List.mem_map_of_mem hv)
    · cases its with
      | nil =>
        rw [e] at e1
        cases e1
      | cons v vs =>
        rw [e1, List.map_cons] at e
        refine .inr ⟨v, vs, rfl, ?_⟩
        rw [(List.cons.inj e).1]
        exact hx
  refine SrtO.sorted_ord (NtL.swo_lexL fun u => k (bkW u)) hl.isList (by rw [← rv.length]; exact hz) (fun h2 h₁ a ha kk => ?_) fun out hs hb => ?_
  · refine ti_sortable (s := { s with heap := h₁ }) (by show X.A.units + 1 + 1 < cLine; omega) (by omega) (fun v hm => (ht v hm).keeps fun b o e _ => (kk b o e).2) hk' fun o e => ?_
    have e' : some o = some (seqObj "list" its.toArray 0) := e.symm.trans ha
    cases e'
    intro c
    exact absurd (Value.type.inj c) (by decide)
  · have h3 : ∀ u ∈ out, ∃ a, u = Value.ref a := fun u hu => e2 u (hb.perm.mem_iff.mp hu)
    have hp : (out.map bkW).Perm xs := by
      rw [e1]
      exact hb.perm.map bkW
    obtain ⟨n, hn⟩ := PyProof.Rows.sortedAll_at s.heap its out.toArray
    refine ⟨.ref _, upd H (s.heap.objs.size + 1) (.lst (out.map bkW)), I.laid (t' := s.toks) (fun _ _ => PyProof.Rows.sortedAll_old) (Nat.le_succ _) ⟨?_, out, n, bkW_vals h3, hn⟩, rfl, q _ _ hp ?_ (I.hok.fresh (Nat.le_succ _))⟩
    · rw [hp.length_eq]
      exact hz
    · rw [List.pairwise_map]
      exact hs
end My
set_option maxHeartbeats 1000000
namespace My
open PySem PySem.Spec PyProof.Rows L2
/-! ### sorted(dict), the keys tuples of ints -/
def vI : V → Int
  | .int i => i
  | _ => 0
def kOf (H : Hp) : Value → List Int
  | .ref b => match H b with
    | some (.tup xs) => xs.map vI
    | _ => []
  | _ => []
theorem vI_map (k : List Int) : (k.map V.int).map vI = k := by
  rw [List.map_map]
  exact List.map_id'' (fun _ => rfl) k
section
variable {prog : Program} {w : World} {A : Around} {E : Value → Shared → Prop} {s : Shared} {d : Addr} {es : Array DictEntry} {ep : Nat}
theorem sortedKT {Q : Value → Shared → Prop} {κ : Value → List Int} (hh : A.handled = none) (hds : (d == sysModules) = false) (hm : s.heap.DictRaw d es ep) (hn : es.size ≤ sizeLine) (hu : A.units + 64 < cLine) (hI : ∀ v ∈ es.toList.map (·.key), TI s.heap v (κ v)) (hne : ∀ v ∈ es.toList.map (·.key), κ v ≠ [])
    (h : ∀ (h' : Heap) (p : Addr) (out : List Value) (n : Nat), s.heap.objs.size ≤ p → (∀ b o, s.heap.get? b = some o → h'.get? b = some o) → h'.get? p = some (seqObj "list" out.toArray n) → SrtO.Srtd (fun v u => HT.lexLt (κ v) (κ u)) out → SrtO.Stb (fun v u => HT.lexLt (κ v) (κ u)) out (es.toList.map (·.key)) → Q (.ref p) { s with heap := h' }) :
    wpAny (model prog w) A (call (.builtin "sorted") [.ref d]) Q E s := by
  refine Calls.call_function_entry kind_sorted plain_sorted entry_sorted (args_sorted1 _) ?_
  unfold Builtin.«sorted»
  refine wpAny_bind (m := checkCount "sorted" 1 1 _) (wpAny_pure ?_)
  refine wpAny_bind (collectK (A := A.in1) (es := es) (ep := ep) hh hds hm hn fun h1 hk hlt => ?_)
  have hz : (es.toList.map (·.key)).length ≤ sizeLine := by rw [List.length_map, Array.length_toList]; exact hn
  refine wpAny_bind (wpAny_newList ?_ hz)
  have hoL : (h1.push { cls := .type "list", data := .seq (es.toList.map (·.key)).toArray }).get? h1.objs.size = some (seqObj "list" (es.toList.map (·.key)).toArray 0) := Heap.get?_push_size _ rfl
  have hle : s.heap.objs.size ≤ h1.objs.size := Nat.le_of_lt hlt
  refine wpAny_bind (wpAny_holding (wpAny_call_entry PyProof.Rows.slot_list_sort ⟨_, hoL, rfl⟩ PyProof.Rows.entry_list_sort (SrtO.list_sort_ord (NtL.swo_lexL κ) hoL hz (fun h2 => ?_) fun out hs hb => ⟨_, rfl, ?_⟩) (PyProof.Rows.args_list_sort _)))
  · refine ti_sortable (by show A.units + 1 + 1 < cLine; omega) (by omega) (fun v hm => (hI v hm).keeps fun b o e _ => Heap.get?_push_of_some _ (hk b o e)) (.inl hne) fun o e => ?_
    have e' : some o = some (seqObj "list" (es.toList.map (·.key)).toArray 0) := e.symm.trans hoL
    cases e'
    intro c
    exact absurd (Value.type.inj c) (by decide)
  obtain ⟨n, he⟩ := PyProof.Rows.sortedHeap_at (vs := es.toList.map (·.key)) (out := out.toArray) hoL
  refine wpAny_pure ⟨_, rfl, h _ h1.objs.size out n hle (fun b o hb => ?_) he hs hb⟩
  have hb1 := hk b o hb
  rw [PyProof.Rows.sortedHeap_old (Nat.ne_of_lt (Heap.lt_size hb1)) (by rw [Heap.size_push]; exact Nat.lt_succ_of_lt (Heap.lt_size hb1))]
  exact Heap.get?_push_of_some _ hb1
end
theorem kOf_at {H : Hp} {b : Addr} {k : List Int} (h : H b = some (.tup (k.map V.int))) : kOf H (.ref b) = k := by
  show (match H b with
    | some (.tup xs) => xs.map vI
    | _ => []) = k
  rw [h]
  exact vI_map k
def rSortedDT (K : PySem.W.Frag) : List V → Hp → VK → Prop := fun vs H Q => ∃ (a : Addr) (kvs : List (List Key × V)) (kss : List (List Int)), vs = [V.ref a] ∧ H a = some (.dT kvs) ∧ kvs.map (·.1) = kss.map (fun k => k.map Sum.inl) ∧ (∀ k ∈ kss, k ≠ []) ∧
  ∀ (ks : List (List Int)) (ys : List V) (p : Addr), ks.Perm kss → ks.Pairwise (fun x y => HT.lexLt y x = false) → Two (fun y k => ∃ t, y = V.ref t ∧ H t = some (.tup (k.map V.int))) ys ks → H p = none → Q (.ref p) (upd H p (.lst ys))
theorem two_map {α β γ : Type} {R : α → β → Prop} (f : γ → α) (g : γ → β) : ∀ (xs : List γ), (∀ x ∈ xs, R (f x) (g x)) → Two R (xs.map f) (xs.map g)
  | [], _ => .nil
  | x :: xs, h => .cons (h x (List.mem_cons_self ..)) (two_map f g xs fun y hy => h y (List.mem_cons_of_mem _ hy))
theorem dt_keys {H : Hp} : ∀ {kvs : List (List Key × V)} {xs : List (List Key × Addr × Value)} {kss : List (List Int)}, Paired (fun (p : List Key × V) (q : List Key × Addr × Value) => p.1 = q.1 ∧ H q.2.1 = some (.tup (p.1.map kV)) ∧ RelV p.2 q.2.2) kvs xs → kvs.map (·.1) = kss.map (fun k => k.map Sum.inl) →
    Two (fun (q : List Key × Addr × Value) k => H q.2.1 = some (.tup (k.map V.int))) xs kss := by
  intro kvs xs kss pr
  induction pr generalizing kss with
  | nil =>
    intro e
    cases kss with
    | nil => exact .nil
    | cons _ _ => cases e
  | cons h _ ih =>
    intro e
    cases kss with
    | nil => cases e
    | cons k kss =>
      rw [List.map_cons, List.map_cons] at e
      have e1 := (List.cons.inj e).1
      refine .cons ?_ (ih (List.cons.inj e).2)
      rw [h.2.1, e1, List.map_map]
      rfl
theorem cr_sortedDT {X : Cx} (hc : X.calm = true) (hu : X.A.units + 64 < cLine) : CallR X (.builtin "sorted") (rSortedDT X.K) := by
  intro pins s σ H vs us Q I r h
  obtain ⟨a, kvs, kss, rfl, ha, hk, hne, q⟩ := h
  obtain ⟨hz, hds, xs, pr, o, es, ep, ho, hx, hdat, hes, _⟩ := I.hok a _ ha
  rw [Vals.ref1 r]
  have two := dt_keys pr hk
  have ek : es.toList.map (·.key) = xs.map fun q => Value.ref q.2.1 := by
    rw [hes, List.map_map]
    rfl
  have kx : ∀ x ∈ xs, ∃ k ∈ kss, H x.2.1 = some (.tup (k.map V.int)) := fun x hx => by
    obtain ⟨i, hi, rfl⟩ := List.getElem_of_mem hx
    obtain ⟨k, hk, e⟩ := two.get (List.getElem?_eq_getElem hi)
    exact ⟨k, List.mem_of_getElem? hk, e⟩
  have hI : ∀ v ∈ es.toList.map (·.key), TI s.heap v (kOf H v) := fun v hv => by
    rw [ek] at hv
    obtain ⟨x, hx, rfl⟩ := List.mem_map.mp hv
    obtain ⟨k, _, e⟩ := kx x hx
    rw [kOf_at e]
    obtain ⟨is, r2, hT, _⟩ := I.tuple (SqT.of (K := X.K) e)
    exact ⟨x.2.1, is.toArray, rfl, hT, show IntsAre is.toArray.toList k by simpa using r2.ints⟩
  have hne2 : ∀ v ∈ es.toList.map (·.key), kOf H v ≠ [] := fun v hv => by
    rw [ek] at hv
    obtain ⟨x, hx, rfl⟩ := List.mem_map.mp hv
    obtain ⟨k, hk, e⟩ := kx x hx
    rw [kOf_at e]
    exact hne k hk
  have ksx : (xs.map fun q => Value.ref q.2.1).map (kOf H) = kss := by
    have : ∀ {xs : List (List Key × Addr × Value)} {kss : List (List Int)}, Two (fun (q : List Key × Addr × Value) k => H q.2.1 = some (.tup (k.map V.int))) xs kss → (xs.map fun q => Value.ref q.2.1).map (kOf H) = kss := fun h => by
      induction h with
      | nil => rfl
      | cons e _ ih => rw [List.map_cons, List.map_cons, ih, kOf_at e]
    exact this two
  have lx : es.size = xs.length := by rw [← Array.length_toList, hes, List.length_map]
  have lk : kvs.length = xs.length := by
    have h1 := two.len
    have h2 := congrArg List.length hk
    rw [List.length_map, List.length_map] at h2
    omega
  refine sortedKT (κ := kOf H) (I.ok.hd hc) hds ⟨o, ho, hx, hdat⟩ (by omega) hu hI hne2 fun h' p out n hle hkp he h1 h2 => ?_
  have pm := h2.perm
  rw [ek] at pm
  have oref : ∀ v ∈ out, ∃ x ∈ xs, v = Value.ref x.2.1 := fun v hv => by
    obtain ⟨x, hx, e⟩ := List.mem_map.mp (pm.mem_iff.mp hv)
    exact ⟨x, hx, e.symm⟩
  have hlen : (out.map bkW).length ≤ sizeLine := by
    rw [List.length_map, pm.length_eq, List.length_map]
    omega
  refine ⟨.ref _, upd H p (.lst (out.map bkW)), I.laid (t' := s.toks) hkp hle ⟨hlen, out, n, bkW_vals fun u hu => ?_, he⟩, rfl, q (out.map (kOf H)) _ _ ?_ ?_ ?_ (I.hok.fresh hle)⟩
  · obtain ⟨x, _, e⟩ := oref u hu
    exact ⟨_, e⟩
  · rw [← ksx]
    exact pm.map _
  · rw [List.pairwise_map]
    exact h1
  · refine two_map bkW (kOf H) out fun v hv => ?_
    obtain ⟨x, hx, rfl⟩ := oref v hv
    obtain ⟨k, _, e⟩ := kx x hx
    exact ⟨x.2.1, rfl, by rw [kOf_at e]; exact e⟩
end My
namespace My
open PySem PySem.Spec PyProof.Rows L2
/-! ### turned and renamed -/
def turnE : E → E
  | .eps => .eps
  | .sym c => .sym c
  | .maybe e => .maybe (turnE e)
  | .many e => .many (turnE e)
  | .join es => .join (turns es)
  | .alt es => .alt (turns es)
where turns : List E → List E
  | [] => []
  | e :: es => turns es ++ [turnE e]
theorem turns_eq (es : List E) : turnE.turns es = (es.map turnE).reverse := by
  induction es with
  | nil => rfl
  | cons e es ih => rw [turnE.turns, ih, List.map_cons, List.reverse_cons]
def renE (f : Nat → Nat) : E → E
  | .eps => .eps
  | .sym c => .sym (f c)
  | .maybe e => .maybe (renE f e)
  | .many e => .many (renE f e)
  | .join es => .join (rens es)
  | .alt es => .alt (rens es)
where rens : List E → List E
  | [] => []
  | e :: es => renE f e :: rens es
theorem rens_eq (f : Nat → Nat) (es : List E) : renE.rens f es = es.map (renE f) := by
  induction es with
  | nil => rfl
  | cons e es ih => rw [renE.rens, ih, List.map_cons]
theorem turn_kids (e : E) : (turnE e).kids = (e.kids.map turnE).reverse := by
  cases e <;> simp [turnE, E.kids, turns_eq]
theorem ren_kids (f : Nat → Nat) (e : E) : (renE f e).kids = e.kids.map (renE f) := by
  cases e <;> simp [renE, E.kids, rens_eq]
/-- induction over an expression and those directly in it -/
theorem E.ind {Pr : E → Prop} (h : ∀ e, (∀ k ∈ e.kids, Pr k) → Pr e) : ∀ e, Pr e := by
  have A : ∀ n (e : E), e.parts ≤ n → Pr e := by
    intro n
    induction n with
    | zero =>
      intro e hn
      have := parts_pos e
      omega
    | succ n ih =>
      intro e hn
      refine h e fun k hk => ih k ?_
      have hp := parts_kids e
      have : k.parts ≤ (e.kids.map E.parts).sum := by
        generalize e.kids = l at hk
        induction l with
        | nil => cases hk
        | cons a l ih =>
          rw [List.map_cons, List.sum_cons]
          rcases List.mem_cons.mp hk with rfl | hk
          · omega
          · have := ih hk
            omega
      omega
  exact fun e => A e.parts e (Nat.le_refl _)
theorem sum_map_eq {α : Type} (f g : α → Nat) (l : List α) (h : ∀ x ∈ l, f x = g x) : (l.map f).sum = (l.map g).sum := by
  rw [List.map_congr_left h]
theorem depths_ge {es : List E} {k : E} (h : k ∈ es) : k.depth ≤ E.depth.depths es := by
  induction es with
  | nil => cases h
  | cons e es ih =>
    rw [E.depth.depths]
    rcases List.mem_cons.mp h with rfl | h
    · exact Nat.le_max_left _ _
    · exact Nat.le_trans (ih h) (Nat.le_max_right _ _)
theorem turn_sizes : ∀ e : E, (turnE e).places = e.places ∧ (turnE e).parts = e.parts ∧ (turnE e).depth = e.depth := by
  refine E.ind fun e ih => ?_
  have h1 := places_kids (turnE e)
  have h2 := parts_kids (turnE e)
  rw [turn_kids, List.map_reverse, List.sum_reverse, List.map_map] at h1 h2
  have p : (e.kids.map (E.places ∘ turnE)).sum = (e.kids.map E.places).sum := sum_map_eq _ _ _ fun k hk => (ih k hk).1
  have q : (e.kids.map (E.parts ∘ turnE)).sum = (e.kids.map E.parts).sum := sum_map_eq _ _ _ fun k hk => (ih k hk).2.1
  rw [p] at h1
  rw [q] at h2
  have o : (turnE e).own = e.own := by cases e <;> rfl
  refine ⟨by rw [h1, o, ← places_kids], by rw [h2, ← parts_kids], ?_⟩
  have d : ∀ es : List E, (∀ k ∈ es, (turnE k).depth = k.depth) → E.depth.depths ((es.map turnE).reverse) = E.depth.depths es := by
    intro es hes
    refine Nat.le_antisymm (depths_le fun k hk => ?_) (depths_le fun k hk => ?_)
    · rw [List.mem_reverse, List.mem_map] at hk
      obtain ⟨x, hx, rfl⟩ := hk
      rw [hes x hx]
      exact depths_ge hx
    · have : turnE k ∈ (es.map turnE).reverse := List.mem_reverse.mpr (List.mem_map.mpr ⟨k, hk, rfl⟩)
      have := depths_ge this
      rw [hes k hk] at this
      exact this
  cases e with
  | eps => rfl
  | sym c => rfl
  | maybe k =>
    have := (ih k (List.mem_singleton.mpr rfl)).2.2
    rw [turnE, E.depth, E.depth, this]
  | many k =>
    have := (ih k (List.mem_singleton.mpr rfl)).2.2
    rw [turnE, E.depth, E.depth, this]
  | join es => rw [turnE, turns_eq, E.depth, E.depth, d es fun k hk => (ih k hk).2.2]
  | alt es => rw [turnE, turns_eq, E.depth, E.depth, d es fun k hk => (ih k hk).2.2]
theorem isJoin_turn (e : E) : isJoin (turnE e) = isJoin e := by cases e <;> rfl
theorem isAlt_turn (e : E) : isAlt (turnE e) = isAlt e := by cases e <;> rfl
theorem any_congr {α : Type} {p q : α → Bool} (l : List α) (h : ∀ x ∈ l, p x = q x) : l.any p = l.any q := by
  induction l with
  | nil => rfl
  | cons a l ih => rw [List.any_cons, List.any_cons, h a (List.mem_cons_self ..), ih fun x hx => h x (List.mem_cons_of_mem _ hx)]
theorem turn_ok : ∀ e : E, e.ok = true → (turnE e).ok = true := by
  refine E.ind fun e ih ho => ?_
  have hk := ok_kids ho
  have row : ∀ (p : E → Bool) (es : List E), (∀ e, p (turnE e) = p e) → (∀ k ∈ es, (turnE k).ok = true) → (decide (2 ≤ es.length) && E.ok.oks es && !(es.any p)) = true → (decide (2 ≤ ((es.map turnE).reverse).length) && E.ok.oks ((es.map turnE).reverse) && !(((es.map turnE).reverse).any p)) = true := by
    intro p es hp hes h
    rw [oks_eq] at h ⊢
    simp only [Bool.and_eq_true, decide_eq_true_eq, List.all_eq_true] at h ⊢
    refine ⟨⟨by rw [List.length_reverse, List.length_map]; exact h.1.1, fun x hx => ?_⟩, ?_⟩
    · rw [List.mem_reverse, List.mem_map] at hx
      obtain ⟨k, hk, rfl⟩ := hx
      exact hes k hk
    · rw [List.any_reverse, List.any_map]
      have : es.any (p ∘ turnE) = es.any p := any_congr es fun x _ => hp x
      rw [this]
      exact h.2
  cases e with
  | eps => rfl
  | sym c => exact ho
  | maybe k =>
    rw [turnE, E.ok]
    exact ih k (List.mem_singleton.mpr rfl) (hk k (List.mem_singleton.mpr rfl))
  | many k =>
    rw [turnE, E.ok]
    exact ih k (List.mem_singleton.mpr rfl) (hk k (List.mem_singleton.mpr rfl))
  | join es =>
    rw [E.ok] at ho
    rw [turnE, turns_eq, E.ok]
    exact row isJoin es isJoin_turn (fun k h => ih k h (hk k h)) ho
  | alt es =>
    rw [E.ok] at ho
    rw [turnE, turns_eq, E.ok]
    exact row isAlt es isAlt_turn (fun k h => ih k h (hk k h)) ho
theorem turn_turn : ∀ e : E, turnE (turnE e) = e := by
  refine E.ind fun e ih => ?_
  have row : ∀ es : List E, (∀ k ∈ es, turnE (turnE k) = k) → (((es.map turnE).reverse).map turnE).reverse = es := by
    intro es h
    rw [List.map_reverse, List.reverse_reverse, List.map_map]
    have : es.map (turnE ∘ turnE) = es.map id := List.map_congr_left h
    rw [this, List.map_id]
  cases e with
  | eps => rfl
  | sym c => rfl
  | maybe k => rw [turnE, turnE, ih k (List.mem_singleton.mpr rfl)]
  | many k => rw [turnE, turnE, ih k (List.mem_singleton.mpr rfl)]
  | join es => rw [turnE, turnE, turns_eq, turns_eq, row es ih]
  | alt es => rw [turnE, turnE, turns_eq, turns_eq, row es ih]
/-- the turned one matches the words read from the end -/
theorem star_rev {L M : List Nat → Prop} (h : ∀ w, L w ↔ M w.reverse) {w : List Nat} (s : Star L w) : Star M w.reverse := by
  induction s with
  | nil => exact .nil
  | cons hu n _ ih =>
    rw [List.reverse_append]
    exact star_snoc ih ((h _).mp hu)
theorem mw_turn : ∀ (e : E) (w : List Nat), MW (turnE e) w ↔ MW e w.reverse := by
  refine E.ind fun e ih => ?_
  cases e with
  | eps =>
    intro w
    show w = [] ↔ w.reverse = []
    rw [List.reverse_eq_nil_iff]
  | sym c =>
    intro w
    rw [turnE, MW]
    constructor
    · rintro rfl
      rfl
    · intro h
      have := congrArg List.reverse h
      rw [List.reverse_reverse] at this
      exact this
  | maybe k =>
    intro w
    rw [turnE, MW, MW, List.reverse_eq_nil_iff, ih k (List.mem_singleton.mpr rfl)]
  | many k =>
    intro w
    have hk := ih k (List.mem_singleton.mpr rfl)
    rw [turnE, MW, MW]
    constructor
    · exact fun s => star_rev hk s
    · intro s
      have := star_rev (L := MW k) (M := MW (turnE k)) (fun u => by rw [hk, List.reverse_reverse]) s
      rw [List.reverse_reverse] at this
      exact this
  | join es =>
    have row : ∀ es : List E, (∀ k ∈ es, ∀ w, MW (turnE k) w ↔ MW k w.reverse) → ∀ w, MW.mwJ ((es.map turnE).reverse) w ↔ MW.mwJ es w.reverse := by
      intro es
      induction es with
      | nil =>
        intro _ w
        show w = [] ↔ w.reverse = []
        rw [List.reverse_eq_nil_iff]
      | cons a es ih2 =>
        intro h w
        rw [List.map_cons, List.reverse_cons, mwJ_snoc]
        have hr := ih2 fun k hk => h k (List.mem_cons_of_mem _ hk)
        have ha := h a (List.mem_cons_self ..)
        constructor
        · rintro ⟨u, v, rfl, h1, h2⟩
          exact ⟨v.reverse, u.reverse, List.reverse_append, (ha v).mp h2, (hr u).mp h1⟩
        · rintro ⟨u, v, e, h1, h2⟩
          refine ⟨v.reverse, u.reverse, ?_, (hr _).mpr (by rw [List.reverse_reverse]; exact h2), (ha _).mpr (by rw [List.reverse_reverse]; exact h1)⟩
          have := congrArg List.reverse e
          rw [List.reverse_reverse, List.reverse_append] at this
          exact this
    intro w
    rw [turnE, turns_eq, MW, MW]
    exact row es ih w
  | alt es =>
    intro w
    rw [turnE, turns_eq, MW, MW, mwA_iff, mwA_iff]
    constructor
    · rintro ⟨x, hx, h⟩
      rw [List.mem_reverse, List.mem_map] at hx
      obtain ⟨k, hk, rfl⟩ := hx
      exact ⟨k, hk, (ih k hk w).mp h⟩
    · rintro ⟨k, hk, h⟩
      exact ⟨turnE k, List.mem_reverse.mpr (List.mem_map.mpr ⟨k, hk, rfl⟩), (ih k hk w).mpr h⟩
/-! #### renamed -/
theorem ren_sizes (f : Nat → Nat) : ∀ e : E, (renE f e).places = e.places ∧ (renE f e).parts = e.parts ∧ (renE f e).depth = e.depth := by
  refine E.ind fun e ih => ?_
  have h1 := places_kids (renE f e)
  have h2 := parts_kids (renE f e)
  rw [ren_kids, List.map_map] at h1 h2
  have p : (e.kids.map (E.places ∘ renE f)).sum = (e.kids.map E.places).sum := sum_map_eq _ _ _ fun k hk => (ih k hk).1
  have q : (e.kids.map (E.parts ∘ renE f)).sum = (e.kids.map E.parts).sum := sum_map_eq _ _ _ fun k hk => (ih k hk).2.1
  rw [p] at h1
  rw [q] at h2
  have o : (renE f e).own = e.own := by cases e <;> rfl
  refine ⟨by rw [h1, o, ← places_kids], by rw [h2, ← parts_kids], ?_⟩
  have d : ∀ es : List E, (∀ k ∈ es, (renE f k).depth = k.depth) → E.depth.depths (es.map (renE f)) = E.depth.depths es := by
    intro es hes
    refine Nat.le_antisymm (depths_le fun k hk => ?_) (depths_le fun k hk => ?_)
    · rw [List.mem_map] at hk
      obtain ⟨x, hx, rfl⟩ := hk
      rw [hes x hx]
      exact depths_ge hx
    · have := depths_ge (List.mem_map.mpr ⟨k, hk, rfl⟩ : renE f k ∈ es.map (renE f))
      rw [hes k hk] at this
      exact this
  cases e with
  | eps => rfl
  | sym c => rfl
  | maybe k =>
    have := (ih k (List.mem_singleton.mpr rfl)).2.2
    rw [renE, E.depth, E.depth, this]
  | many k =>
    have := (ih k (List.mem_singleton.mpr rfl)).2.2
    rw [renE, E.depth, E.depth, this]
  | join es => rw [renE, rens_eq, E.depth, E.depth, d es fun k hk => (ih k hk).2.2]
  | alt es => rw [renE, rens_eq, E.depth, E.depth, d es fun k hk => (ih k hk).2.2]
theorem isJoin_ren (f : Nat → Nat) (e : E) : isJoin (renE f e) = isJoin e := by cases e <;> rfl
theorem isAlt_ren (f : Nat → Nat) (e : E) : isAlt (renE f e) = isAlt e := by cases e <;> rfl
theorem ren_ok (f : Nat → Nat) (hf : ∀ c, 97 ≤ c ∧ c ≤ 100 → 97 ≤ f c ∧ f c ≤ 100) : ∀ e : E, e.ok = true → (renE f e).ok = true := by
  refine E.ind fun e ih ho => ?_
  have hk := ok_kids ho
  have row : ∀ (p : E → Bool) (es : List E), (∀ e, p (renE f e) = p e) → (∀ k ∈ es, (renE f k).ok = true) → (decide (2 ≤ es.length) && E.ok.oks es && !(es.any p)) = true → (decide (2 ≤ (es.map (renE f)).length) && E.ok.oks (es.map (renE f)) && !((es.map (renE f)).any p)) = true := by
    intro p es hp hes h
    rw [oks_eq] at h ⊢
    simp only [Bool.and_eq_true, decide_eq_true_eq, List.all_eq_true] at h ⊢
    refine ⟨⟨by rw [List.length_map]; exact h.1.1, fun x hx => ?_⟩, ?_⟩
    · rw [List.mem_map] at hx
      obtain ⟨k, hk, rfl⟩ := hx
      exact hes k hk
    · rw [List.any_map]
      have : es.any (p ∘ renE f) = es.any p := any_congr es fun x _ => hp x
      rw [this]
      exact h.2
  cases e with
  | eps => rfl
  | sym c =>
    rw [E.ok] at ho
    simp only [Bool.and_eq_true, decide_eq_true_eq] at ho
    rw [renE, E.ok]
    simp only [Bool.and_eq_true, decide_eq_true_eq]
    exact hf c ho
  | maybe k =>
    rw [renE, E.ok]
    exact ih k (List.mem_singleton.mpr rfl) (hk k (List.mem_singleton.mpr rfl))
  | many k =>
    rw [renE, E.ok]
    exact ih k (List.mem_singleton.mpr rfl) (hk k (List.mem_singleton.mpr rfl))
  | join es =>
    rw [E.ok] at ho
    rw [renE, rens_eq, E.ok]
    exact row isJoin es (isJoin_ren f) (fun k h => ih k h (hk k h)) ho
  | alt es =>
    rw [E.ok] at ho
    rw [renE, rens_eq, E.ok]
    exact row isAlt es (isAlt_ren f) (fun k h => ih k h (hk k h)) ho
theorem mw_ren (f : Nat → Nat) : ∀ (e : E) (w : List Nat), MW e w → MW (renE f e) (w.map f) := by
  refine E.ind fun e ih => ?_
  cases e with
  | eps =>
    intro w h
    rw [MW] at h
    subst h
    rfl
  | sym c =>
    intro w h
    rw [MW] at h
    subst h
    rfl
  | maybe k =>
    intro w h
    rw [renE, MW]
    rw [MW] at h
    rcases h with rfl | h
    · exact .inl rfl
    · exact .inr (ih k (List.mem_singleton.mpr rfl) w h)
  | many k =>
    intro w h
    rw [renE, MW]
    rw [MW] at h
    induction h with
    | nil => exact .nil
    | cons hu n _ ih2 =>
      rw [List.map_append]
      refine .cons (ih k (List.mem_singleton.mpr rfl) _ hu) (fun c => n ?_) ih2
      exact List.map_eq_nil_iff.mp c
  | join es =>
    have row : ∀ es : List E, (∀ k ∈ es, ∀ w, MW k w → MW (renE f k) (w.map f)) → ∀ w, MW.mwJ es w → MW.mwJ (es.map (renE f)) (w.map f) := by
      intro es
      induction es with
      | nil =>
        intro _ w h
        have h' : w = [] := h
        subst h'
        rfl
      | cons a es ih2 =>
        rintro h w ⟨u, v, rfl, h1, h2⟩
        exact ⟨u.map f, v.map f, List.map_append, h a (List.mem_cons_self ..) u h1, ih2 (fun k hk => h k (List.mem_cons_of_mem _ hk)) v h2⟩
    intro w h
    rw [renE, rens_eq, MW]
    rw [MW] at h
    exact row es ih w h
  | alt es =>
    intro w h
    rw [renE, rens_eq, MW, mwA_iff]
    rw [MW, mwA_iff] at h
    obtain ⟨k, hk, h⟩ := h
    exact ⟨renE f k, List.mem_map.mpr ⟨k, hk, rfl⟩, ih k hk w h⟩
theorem ren_ren (f g : Nat → Nat) (hg : ∀ c, 97 ≤ c ∧ c ≤ 100 → g (f c) = c) : ∀ e : E, e.ok = true → renE g (renE f e) = e := by
  refine E.ind fun e ih ho => ?_
  have hk := ok_kids ho
  have row : ∀ es : List E, (∀ k ∈ es, renE g (renE f k) = k) → (es.map (renE f)).map (renE g) = es := by
    intro es h
    rw [List.map_map]
    have : es.map (renE g ∘ renE f) = es.map id := List.map_congr_left h
    rw [this, List.map_id]
  cases e with
  | eps => rfl
  | sym c =>
    rw [E.ok] at ho
    simp only [Bool.and_eq_true, decide_eq_true_eq] at ho
    rw [renE, renE, hg c ho]
  | maybe k => rw [renE, renE, ih k (List.mem_singleton.mpr rfl) (hk k (List.mem_singleton.mpr rfl))]
  | many k => rw [renE, renE, ih k (List.mem_singleton.mpr rfl) (hk k (List.mem_singleton.mpr rfl))]
  | join es => rw [renE, renE, rens_eq, rens_eq, row es fun k h => ih k h (hk k h)]
  | alt es => rw [renE, renE, rens_eq, rens_eq, row es fun k h => ih k h (hk k h)]
theorem mw_ren_iff (f g : Nat → Nat) (hg : ∀ c, 97 ≤ c ∧ c ≤ 100 → g (f c) = c) {e : E} (ho : e.ok = true) {w : List Nat} (hw : ∀ c ∈ w, 97 ≤ c ∧ c ≤ 100) : MW (renE f e) (w.map f) ↔ MW e w := by
  refine ⟨fun h => ?_, mw_ren f e w⟩
  have := mw_ren g _ _ h
  rw [ren_ren f g hg e ho, List.map_map] at this
  have e1 : w.map (g ∘ f) = w.map id := List.map_congr_left fun c hc => hg c (hw c hc)
  rw [e1, List.map_id] at this
  exact this
end My
namespace My
open PySem PySem.Spec PyProof.Rows L2
/-! ### the places of a turned expression -/
structure Mir (g g' : Gl) (s : Nat) : Prop where
  nul : g'.nul = g.nul
  fst : ∀ p, p ∈ g'.fst ↔ ∃ q ∈ g.lst, p + q + 1 = s
  lst : ∀ p, p ∈ g'.lst ↔ ∃ q ∈ g.fst, p + q + 1 = s
  fol : ∀ p q, (p, q) ∈ g'.fol ↔ ∃ p' q', (q', p') ∈ g.fol ∧ p + p' + 1 = s ∧ q + q' + 1 = s
theorem Mir.eqv {g g' h : Gl} {s : Nat} (m : Mir g g' s) (e : Eqv h g') : Mir g h s where
  nul := e.nul.trans m.nul
  fst p := by rw [e.fst]; exact m.fst p
  lst p := by rw [e.lst]; exact m.lst p
  fol p q := by rw [e.fol]; exact m.fol p q
theorem Mir.seq {a a' b b' : Gl} {s : Nat} (x : Mir a a' s) (y : Mir b b' s) : Mir (a.seq b) (b'.seq a') s where
  nul := by
    show (b'.nul && a'.nul) = (a.nul && b.nul)
    rw [x.nul, y.nul, Bool.and_comm]
  fst p := by
    show p ∈ b'.fst ++ (if b'.nul = true then a'.fst else []) ↔ ∃ q ∈ (if b.nul = true then a.lst else []) ++ b.lst, p + q + 1 = s
    rw [List.mem_append, y.fst, y.nul]
    constructor
    · rintro (⟨q, h, e⟩ | h)
      · exact ⟨q, List.mem_append_right _ h, e⟩
      · split at h
        · rename_i c
          obtain ⟨q, h, e⟩ := (x.fst p).mp h
          exact ⟨q, List.mem_append_left _ (by rw [if_pos c]; exact h), e⟩
        · cases h
    · rintro ⟨q, h, e⟩
      rcases List.mem_append.mp h with h | h
      · split at h
        · rename_i c
          refine .inr ?_
          rw [if_pos c]
          exact (x.fst p).mpr ⟨q, h, e⟩
        · cases h
      · exact .inl ⟨q, h, e⟩
  lst p := by
    show p ∈ (if a'.nul = true then b'.lst else []) ++ a'.lst ↔ ∃ q ∈ a.fst ++ (if a.nul = true then b.fst else []), p + q + 1 = s
    rw [List.mem_append, x.lst, x.nul]
    constructor
    · rintro (h | ⟨q, h, e⟩)
      · split at h
        · rename_i c
          obtain ⟨q, h, e⟩ := (y.lst p).mp h
          exact ⟨q, List.mem_append_right _ (by rw [if_pos c]; exact h), e⟩
        · cases h
      · exact ⟨q, List.mem_append_left _ h, e⟩
    · rintro ⟨q, h, e⟩
      rcases List.mem_append.mp h with h | h
      · exact .inr ⟨q, h, e⟩
      · split at h
        · rename_i c
          refine .inl ?_
          rw [if_pos c]
          exact (y.lst p).mpr ⟨q, h, e⟩
        · cases h
  fol p q := by
    show (p, q) ∈ b'.fol ++ (prodL b'.lst a'.fst ++ a'.fol) ↔ ∃ p' q', (q', p') ∈ a.fol ++ (prodL a.lst b.fst ++ b.fol) ∧ p + p' + 1 = s ∧ q + q' + 1 = s
    rw [List.mem_append, List.mem_append, mem_prodL, y.fol, x.fol, y.lst, x.fst]
    constructor
    · rintro (⟨p', q', h, e1, e2⟩ | ⟨⟨p', h1, e1⟩, q', h2, e2⟩ | ⟨p', q', h, e1, e2⟩)
      · exact ⟨p', q', List.mem_append_right _ (List.mem_append_right _ h), e1, e2⟩
      · exact ⟨p', q', List.mem_append_right _ (List.mem_append_left _ (mem_prodL.mpr ⟨h2, h1⟩)), e1, e2⟩
      · exact ⟨p', q', List.mem_append_left _ h, e1, e2⟩
    · rintro ⟨p', q', h, e1, e2⟩
      rcases List.mem_append.mp h with h | h
      · exact .inr (.inr ⟨p', q', h, e1, e2⟩)
      · rcases List.mem_append.mp h with h | h
        · obtain ⟨h1, h2⟩ := mem_prodL.mp h
          exact .inr (.inl ⟨⟨p', h2, e1⟩, q', h1, e2⟩)
        · exact .inl ⟨p', q', h, e1, e2⟩
theorem Mir.par {a a' b b' : Gl} {s : Nat} (x : Mir a a' s) (y : Mir b b' s) : Mir (a.par b) (b'.par a') s where
  nul := by
    show (b'.nul || a'.nul) = (a.nul || b.nul)
    rw [x.nul, y.nul, Bool.or_comm]
  fst p := by
    show p ∈ b'.fst ++ a'.fst ↔ ∃ q ∈ a.lst ++ b.lst, p + q + 1 = s
    rw [List.mem_append, y.fst, x.fst]
    constructor
    · rintro (⟨q, h, e⟩ | ⟨q, h, e⟩)
      · exact ⟨q, List.mem_append_right _ h, e⟩
      · exact ⟨q, List.mem_append_left _ h, e⟩
    · rintro ⟨q, h, e⟩
      rcases List.mem_append.mp h with h | h
      · exact .inr ⟨q, h, e⟩
      · exact .inl ⟨q, h, e⟩
  lst p := by
    show p ∈ b'.lst ++ a'.lst ↔ ∃ q ∈ a.fst ++ b.fst, p + q + 1 = s
    rw [List.mem_append, y.lst, x.lst]
    constructor
    · rintro (⟨q, h, e⟩ | ⟨q, h, e⟩)
      · exact ⟨q, List.mem_append_right _ h, e⟩
      · exact ⟨q, List.mem_append_left _ h, e⟩
    · rintro ⟨q, h, e⟩
      rcases List.mem_append.mp h with h | h
      · exact .inr ⟨q, h, e⟩
      · exact .inl ⟨q, h, e⟩
  fol p q := by
    show (p, q) ∈ b'.fol ++ a'.fol ↔ ∃ p' q', (q', p') ∈ a.fol ++ b.fol ∧ p + p' + 1 = s ∧ q + q' + 1 = s
    rw [List.mem_append, y.fol, x.fol]
    constructor
    · rintro (⟨p', q', h, e1, e2⟩ | ⟨p', q', h, e1, e2⟩)
      · exact ⟨p', q', List.mem_append_right _ h, e1, e2⟩
      · exact ⟨p', q', List.mem_append_left _ h, e1, e2⟩
    · rintro ⟨p', q', h, e1, e2⟩
      rcases List.mem_append.mp h with h | h
      · exact .inr ⟨p', q', h, e1, e2⟩
      · exact .inl ⟨p', q', h, e1, e2⟩
theorem turns_places (es : List E) : E.places.placess (turnE.turns es) = E.places.placess es := by
  have h := (turn_sizes (.join es)).1
  rw [turnE, E.places, E.places] at h
  exact h
mutual
theorem gl_turn : ∀ (e : E) (o o' : Nat), Mir (gl e o) (gl (turnE e) o') (o + o' + e.places)
  | .eps, o, o' => by
    rw [turnE]
    exact ⟨rfl, fun p => ⟨(fun h => by cases h), fun ⟨q, h, _⟩ => by cases h⟩, fun p => ⟨(fun h => by cases h), fun ⟨q, h, _⟩ => by cases h⟩, fun p q => ⟨(fun h => by cases h), fun ⟨p', q', h, _⟩ => by cases h⟩⟩
  | .sym c, o, o' => by
    rw [turnE, E.places]
    refine ⟨rfl, fun p => ?_, fun p => ?_, fun p q => ⟨(fun h => by cases h), fun ⟨p', q', h, _⟩ => by cases h⟩⟩ <;>
    · show p ∈ [o'] ↔ ∃ q ∈ [o], p + q + 1 = o + o' + 1
      rw [List.mem_singleton]
      constructor
      · rintro rfl
        exact ⟨o, List.mem_singleton.mpr rfl, by omega⟩
      · rintro ⟨q, h, e⟩
        rw [List.mem_singleton] at h
        omega
  | .maybe e, o, o' => by
    have h := gl_turn e o o'
    rw [turnE, E.places]
    exact ⟨rfl, h.fst, h.lst, h.fol⟩
  | .many e, o, o' => by
    have h := gl_turn e o o'
    rw [turnE, E.places]
    refine ⟨rfl, h.fst, h.lst, fun p q => ?_⟩
    show (p, q) ∈ (gl (turnE e) o').fol ++ prodL (gl (turnE e) o').lst (gl (turnE e) o').fst ↔ ∃ p' q', (q', p') ∈ (gl e o).fol ++ prodL (gl e o).lst (gl e o).fst ∧ p + p' + 1 = _ ∧ q + q' + 1 = _
    rw [List.mem_append, mem_prodL, h.fol, h.lst, h.fst]
    constructor
    · rintro (⟨p', q', hm, e1, e2⟩ | ⟨⟨p', h1, e1⟩, q', h2, e2⟩)
      · exact ⟨p', q', List.mem_append_left _ hm, e1, e2⟩
      · exact ⟨p', q', List.mem_append_right _ (mem_prodL.mpr ⟨h2, h1⟩), e1, e2⟩
    · rintro ⟨p', q', hm, e1, e2⟩
      rcases List.mem_append.mp hm with hm | hm
      · exact .inl ⟨p', q', hm, e1, e2⟩
      · obtain ⟨h1, h2⟩ := mem_prodL.mp hm
        exact .inr ⟨⟨p', h2, e1⟩, q', h1, e2⟩
  | .join es, o, o' => by
    rw [turnE, E.places]
    exact gl_turnJ es o o'
  | .alt es, o, o' => by
    rw [turnE, E.places]
    exact gl_turnA es o o'
theorem gl_turnJ : ∀ (es : List E) (o o' : Nat), Mir (gl.glJ es o) (gl.glJ (turnE.turns es) o') (o + o' + E.places.placess es)
  | [], o, o' => ⟨rfl, fun p => ⟨(fun h => by cases h), fun ⟨q, h, _⟩ => by cases h⟩, fun p => ⟨(fun h => by cases h), fun ⟨q, h, _⟩ => by cases h⟩, fun p q => ⟨(fun h => by cases h), fun ⟨p', q', h, _⟩ => by cases h⟩⟩
  | e :: es, o, o' => by
    have h1 := gl_turn e o (o' + ((turnE.turns es).map E.places).sum)
    have h2 := gl_turnJ es (o + e.places) o'
    have hq := turns_places es
    rw [placess_eq] at hq
    rw [turnE.turns, gl.glJ, E.places.placess]
    have e1 : o + (o' + ((turnE.turns es).map E.places).sum) + e.places = o + o' + (e.places + E.places.placess es) := by omega
    have e2 : o + e.places + o' + E.places.placess es = o + o' + (e.places + E.places.placess es) := by omega
    rw [e1] at h1
    rw [e2] at h2
    exact (h1.seq h2).eqv (glJ_snoc _ _ _)
theorem gl_turnA : ∀ (es : List E) (o o' : Nat), Mir (gl.glA es o) (gl.glA (turnE.turns es) o') (o + o' + E.places.placess es)
  | [], o, o' => ⟨rfl, fun p => ⟨(fun h => by cases h), fun ⟨q, h, _⟩ => by cases h⟩, fun p => ⟨(fun h => by cases h), fun ⟨q, h, _⟩ => by cases h⟩, fun p q => ⟨(fun h => by cases h), fun ⟨p', q', h, _⟩ => by cases h⟩⟩
  | e :: es, o, o' => by
    have h1 := gl_turn e o (o' + ((turnE.turns es).map E.places).sum)
    have h2 := gl_turnA es (o + e.places) o'
    have hq := turns_places es
    rw [placess_eq] at hq
    rw [turnE.turns, gl.glA, E.places.placess, glA_snoc]
    have e1 : o + (o' + ((turnE.turns es).map E.places).sum) + e.places = o + o' + (e.places + E.places.placess es) := by omega
    have e2 : o + e.places + o' + E.places.placess es = o + o' + (e.places + E.places.placess es) := by omega
    rw [e1] at h1
    rw [e2] at h2
    exact h1.par h2
end
/-! #### each place is reached -/
inductive RchE (F : List (Nat × Nat)) (S : List Nat) : Nat → Prop where
  | base {p : Nat} (h : p ∈ S) : RchE F S p
  | step {p q : Nat} (h : RchE F S p) (k : (p, q) ∈ F) : RchE F S q
theorem RchE.mono {F F' : List (Nat × Nat)} {S S' : List Nat} {p : Nat} (h : RchE F S p) (hF : ∀ x ∈ F, x ∈ F') (hS : ∀ q ∈ S, RchE F' S' q) : RchE F' S' p := by
  induction h with
  | base h => exact hS _ h
  | step _ k ih => exact .step ih (hF _ k)
/-- some word: none, or some first and last place -/
def Live (g : Gl) : Prop := g.nul = true ∨ (g.fst ≠ [] ∧ g.lst ≠ [])
theorem Live.seq {a b : Gl} (x : Live a) (y : Live b) : Live (a.seq b) := by
  unfold Live Gl.seq
  rcases x with x | ⟨x1, x2⟩ <;> rcases y with y | ⟨y1, y2⟩
  · exact .inl (by show (a.nul && b.nul) = true; rw [x, y]; rfl)
  · refine .inr ⟨?_, ?_⟩
    · show a.fst ++ (if a.nul = true then b.fst else []) ≠ []
      rw [if_pos x]
      simp [y1]
    · show (if b.nul = true then a.lst else []) ++ b.lst ≠ []
      simp [y2]
  · refine .inr ⟨?_, ?_⟩
    · show a.fst ++ _ ≠ []
      simp [x1]
    · show (if b.nul = true then a.lst else []) ++ b.lst ≠ []
      rw [if_pos y]
      simp [x2]
  · refine .inr ⟨?_, ?_⟩
    · show a.fst ++ _ ≠ []
      simp [x1]
    · show _ ++ b.lst ≠ []
      simp [y2]
theorem Live.par {a b : Gl} (x : Live a) : Live (a.par b) := by
  rcases x with x | ⟨x1, x2⟩
  · exact .inl (by show (a.nul || b.nul) = true; rw [x]; rfl)
  · refine .inr ⟨?_, ?_⟩
    · show a.fst ++ b.fst ≠ []
      simp [x1]
    · show a.lst ++ b.lst ≠ []
      simp [x2]
mutual
theorem gl_live : ∀ (e : E) (o : Nat), e.ok = true → Live (gl e o)
  | .eps, o, _ => .inl rfl
  | .sym c, o, _ => .inr ⟨by show [o] ≠ []; simp, by show [o] ≠ []; simp⟩
  | .maybe e, o, _ => .inl rfl
  | .many e, o, _ => .inl rfl
  | .join es, o, ho => by
    rw [E.ok, oks_eq] at ho
    simp only [Bool.and_eq_true] at ho
    rw [gl]
    exact glJ_live es o ho.1.2
  | .alt es, o, ho => by
    rw [E.ok, oks_eq] at ho
    simp only [Bool.and_eq_true, decide_eq_true_eq] at ho
    rw [gl]
    cases es with
    | nil => exact absurd ho.1.1 (by decide)
    | cons e es =>
      have h := ho.1.2
      rw [List.all_cons, Bool.and_eq_true] at h
      rw [gl.glA]
      exact (gl_live e o h.1).par
theorem glJ_live : ∀ (es : List E) (o : Nat), es.all E.ok = true → Live (gl.glJ es o)
  | [], o, _ => .inl rfl
  | e :: es, o, ho => by
    rw [List.all_cons, Bool.and_eq_true] at ho
    rw [gl.glJ]
    exact (gl_live e o ho.1).seq (glJ_live es _ ho.2)
end
theorem rch_seq {a b : Gl} (la : Live a) {p : Nat} (ra : ∀ l ∈ a.lst, RchE a.fol a.fst l) (h : RchE b.fol b.fst p) : RchE (a.seq b).fol (a.seq b).fst p := by
  refine h.mono (fun x hx => List.mem_append_right _ (List.mem_append_right _ hx)) fun q hq => ?_
  by_cases c : a.nul = true
  · refine .base ?_
    show q ∈ a.fst ++ (if a.nul = true then b.fst else [])
    rw [if_pos c]
    exact List.mem_append_right _ hq
  · rcases la with la | ⟨_, l2⟩
    · exact absurd la c
    · obtain ⟨l, hl⟩ := List.exists_mem_of_ne_nil _ l2
      refine .step (p := l) ((ra l hl).mono (fun x hx => List.mem_append_left _ hx) fun r hr => .base (List.mem_append_left _ hr)) ?_
      exact List.mem_append_right _ (List.mem_append_left _ (mem_prodL.mpr ⟨hl, hq⟩))
mutual
theorem gl_rch : ∀ (e : E) (o : Nat), e.ok = true → ∀ p, o ≤ p → p < o + e.places → RchE (gl e o).fol (gl e o).fst p
  | .eps, o, _, p, h1, h2 => by
    rw [E.places] at h2
    omega
  | .sym c, o, _, p, h1, h2 => by
    rw [E.places] at h2
    have : p = o := by omega
    subst this
    exact .base (List.mem_singleton.mpr rfl)
  | .maybe e, o, ho, p, h1, h2 => by
    rw [E.ok] at ho
    rw [E.places] at h2
    exact gl_rch e o ho p h1 h2
  | .many e, o, ho, p, h1, h2 => by
    rw [E.ok] at ho
    rw [E.places] at h2
    exact (gl_rch e o ho p h1 h2).mono (fun x hx => List.mem_append_left _ hx) fun q hq => .base hq
  | .join es, o, ho, p, h1, h2 => by
    rw [E.ok, oks_eq] at ho
    simp only [Bool.and_eq_true] at ho
    rw [E.places] at h2
    rw [gl]
    exact glJ_rch es o ho.1.2 p h1 h2
  | .alt es, o, ho, p, h1, h2 => by
    rw [E.ok, oks_eq] at ho
    simp only [Bool.and_eq_true] at ho
    rw [E.places] at h2
    rw [gl]
    exact glA_rch es o ho.1.2 p h1 h2
theorem glJ_rch : ∀ (es : List E) (o : Nat), es.all E.ok = true → ∀ p, o ≤ p → p < o + E.places.placess es → RchE (gl.glJ es o).fol (gl.glJ es o).fst p
  | [], o, _, p, h1, h2 => by
    rw [E.places.placess] at h2
    omega
  | e :: es, o, ho, p, h1, h2 => by
    rw [List.all_cons, Bool.and_eq_true] at ho
    rw [E.places.placess] at h2
    rw [gl.glJ]
    by_cases c : p < o + e.places
    · exact (gl_rch e o ho.1 p h1 c).mono (fun x hx => List.mem_append_left _ hx) fun q hq => .base (List.mem_append_left _ hq)
    · refine rch_seq (gl_live e o ho.1) (fun l hl => ?_) (glJ_rch es (o + e.places) ho.2 p (by omega) (by omega))
      have := (gl_within e o).lst l hl
      exact gl_rch e o ho.1 l this.1 this.2
theorem glA_rch : ∀ (es : List E) (o : Nat), es.all E.ok = true → ∀ p, o ≤ p → p < o + E.places.placess es → RchE (gl.glA es o).fol (gl.glA es o).fst p
  | [], o, _, p, h1, h2 => by
    rw [E.places.placess] at h2
    omega
  | e :: es, o, ho, p, h1, h2 => by
    rw [List.all_cons, Bool.and_eq_true] at ho
    rw [E.places.placess] at h2
    rw [gl.glA]
    by_cases c : p < o + e.places
    · exact (gl_rch e o ho.1 p h1 c).mono (fun x hx => List.mem_append_left _ hx) fun q hq => .base (List.mem_append_left _ hq)
    · exact (glA_rch es (o + e.places) ho.2 p (by omega) (by omega)).mono (fun x hx => List.mem_append_right _ hx) fun q hq => .base (List.mem_append_right _ hq)
end
/-- each place leads to a last one -/
theorem gl_lead {e : E} (ho : e.ok = true) {p : Nat} (hp : p < e.places) : RchE ((gl e 0).fol.map fun x => (x.2, x.1)) (gl e 0).lst p := by
  have m := gl_turn e 0 0
  rw [Nat.zero_add] at m
  have hs := (turn_sizes e).1
  have h := gl_rch (turnE e) 0 (turn_ok e ho) (e.places - 1 - p) (Nat.zero_le _) (by omega)
  have key : ∀ q, RchE (gl (turnE e) 0).fol (gl (turnE e) 0).fst q → ∀ p, q + p + 1 = e.places → RchE ((gl e 0).fol.map fun x => (x.2, x.1)) (gl e 0).lst p := by
    intro q hq
    induction hq with
    | base hb =>
      intro p e1
      obtain ⟨r, hr, e2⟩ := (m.fst _).mp hb
      have : r = p := by omega
      subst this
      exact .base hr
    | @step a b _ k ih =>
      intro p e1
      obtain ⟨a', b', hm, e2, e3⟩ := (m.fol _ _).mp k
      have : b' = p := by omega
      subst this
      exact .step (ih a' e2) (List.mem_map.mpr ⟨(b', a'), hm, rfl⟩)
  exact key _ h p (by omega)
end My
namespace My
open PySem L2
/-! ### values that may be rows: plain data -/
def nV (xs : List Nat) : List V := xs.map fun (i : Nat) => V.int (i : Int)
def intJ : J → Option Int
  | .int i => some i
  | _ => none
def tupJ : J → Option (List J)
  | .tup js => some js
  | _ => none
def isIntJ : J → Bool
  | .int _ => true
  | .bl _ => true
  | _ => false
def isBlJ : J → Bool
  | .bl _ => true
  | _ => false
def isTupJ : J → Bool
  | .tup _ => true
  | _ => false
theorem RepJ.ty {K : PySem.W.Frag} {H : Hp} {v : V} {j : J} {n : Nat} (h : RepJ H v j n) : ∃ t : String, TyX K H v (.type t) ∧ PySem.W.kitOne K (.type t) (.type "int") = some (isIntJ j) ∧ PySem.W.kitOne K (.type t) (.type "bool") = some (isBlJ j) ∧ PySem.W.kitOne K (.type t) (.type "tuple") = some (isTupJ j) := by
  cases h with
  | non => exact ⟨"NoneType", .base .non, kit_ty (r := false) (by decide +kernel), kit_ty (r := false) (by decide +kernel), kit_ty (r := false) (by decide +kernel)⟩
  | bl b => exact ⟨"bool", .base (.bl _), kit_ty (r := true) (by decide +kernel), kit_ty (r := true) (by decide +kernel), kit_ty (r := false) (by decide +kernel)⟩
  | int i => exact ⟨"int", .base (.int _), kit_ty (r := true) (by decide +kernel), kit_ty (r := false) (by decide +kernel), kit_ty (r := false) (by decide +kernel)⟩
  | str z => exact ⟨"str", .base (.str _), kit_ty (r := false) (by decide +kernel), kit_ty (r := false) (by decide +kernel), kit_ty (r := false) (by decide +kernel)⟩
  | tup h _ _ _ => exact ⟨"tuple", .base (.tup h), kit_ty (r := false) (by decide +kernel), kit_ty (r := false) (by decide +kernel), kit_ty (r := true) (by decide +kernel)⟩
  | lst h _ _ _ => exact ⟨"list", .base (.lst h), kit_ty (r := false) (by decide +kernel), kit_ty (r := false) (by decide +kernel), kit_ty (r := false) (by decide +kernel)⟩
theorem RepJ.untup {H : Hp} {v : V} {js : List J} {n : Nat} (h : RepJ H v (.tup js) n) : ∃ (p : Addr) (xs : List V) (m : Nat), v = .ref p ∧ H p = some (.tup xs) ∧ xs.length ≤ 100000 ∧ Two (fun x j => RepJ H x j m) xs js := by
  cases h with
  | tup h z l k => exact ⟨_, _, _, rfl, h, z, Two.of_get l k⟩
/-! ### evidence that a word is wrong -/
/-- the places of a row, if it is one: ascending places -/
def rowFrom (m : Nat) : Int → List J → Option (List Nat)
  | _, [] => some []
  | b, j :: js => match intJ j with
    | some i => if 0 ≤ i ∧ i < m ∧ b < i then (rowFrom m i js).map (i.toNat :: ·) else none
    | none => none
def rowN (m : Nat) (j : J) : Option (List Nat) := match tupJ j with
  | some js => rowFrom m (-1) js
  | none => none
def plJ (m : Nat) (j : J) : Bool := match intJ j with
  | some i => decide (0 ≤ i ∧ i < m)
  | none => false
theorem rowFrom_cons (m : Nat) (b : Int) (j : J) (js : List J) : rowFrom m b (j :: js) = match intJ j with
    | some i => if 0 ≤ i ∧ i < m ∧ b < i then (rowFrom m i js).map (i.toNat :: ·) else none
    | none => none := rfl
theorem intJ_rep {H : Hp} {v : V} {j : J} {n : Nat} {i : Int} (h : RepJ H v j n) (e : intJ j = some i) : v = .int i := by
  cases h with
  | int i' => cases e; rfl
  | non => cases e
  | bl b => cases e
  | str z => cases e
  | tup _ _ _ _ => cases e
  | lst _ _ _ _ => cases e
theorem rowFrom_vals {H : Hp} {m n : Nat} : ∀ {js : List J} {vs : List V} {b : Int} {xs : List Nat}, Two (fun x j => RepJ H x j n) vs js → rowFrom m b js = some xs → vs = nV xs ∧ (∀ x ∈ xs, x < m) ∧ xs.Pairwise (· < ·) ∧ (∀ x ∈ xs, b < (x : Int))
  | [], _, b, xs, .nil, h => by
    cases h
    exact ⟨rfl, fun x h => (nomatch h), .nil, fun x h => (nomatch h)⟩
  | j :: js, _, b, xs, .cons (a := v) (as := vs) h t, e => by
    rw [rowFrom_cons] at e
    cases hi : intJ j with
    | none => rw [hi] at e; cases e
    | some i =>
      rw [hi] at e
      have e : (if 0 ≤ i ∧ i < m ∧ b < i then (rowFrom m i js).map (i.toNat :: ·) else none) = some xs := e
      by_cases c : 0 ≤ i ∧ i < m ∧ b < i
      · rw [if_pos c] at e
        obtain ⟨ys, hy, rfl⟩ := Option.map_eq_some_iff.mp e
        obtain ⟨r1, r2, r3, r4⟩ := rowFrom_vals t hy
        have hv := intJ_rep h hi
        have hc : ((i.toNat : Nat) : Int) = i := by omega
        refine ⟨?_, fun x hx => ?_, List.pairwise_cons.mpr ⟨fun x hx => ?_, r3⟩, fun x hx => ?_⟩
        · rw [hv, r1]
          show _ = V.int ((i.toNat : Nat) : Int) :: nV ys
          rw [hc]
        · rcases List.mem_cons.mp hx with rfl | hx
          · omega
          · exact r2 x hx
        · have := r4 x hx
          omega
        · rcases List.mem_cons.mp hx with rfl | hx
          · omega
          · have := r4 x hx
            omega
      · rw [if_neg c] at e
        cases e
/-- whole numbers within, in any sequence -/
def allIn (m : Nat) (js : List J) : Bool := js.all (plJ m)
theorem allIn_vals {H : Hp} {m n : Nat} : ∀ {js : List J} {vs : List V}, Two (fun x j => RepJ H x j n) vs js → allIn m js = true → ∃ ns : List Nat, vs = nV ns ∧ (∀ x ∈ ns, x < m) ∧ js = ns.map fun (x : Nat) => J.int (x : Int)
  | [], _, .nil, _ => ⟨[], rfl, fun x h => (nomatch h), rfl⟩
  | j :: js, _, .cons (a := v) (as := vs) h t, e => by
    unfold allIn at e
    rw [List.all_cons, Bool.and_eq_true] at e
    obtain ⟨ns, r1, r2, r3⟩ := allIn_vals t e.2
    have e1 := e.1
    unfold plJ at e1
    cases hi : intJ j with
    | none => rw [hi] at e1; cases e1
    | some i =>
      rw [hi] at e1
      have e2 : 0 ≤ i ∧ i < m := of_decide_eq_true e1
      have hc : ((i.toNat : Nat) : Int) = i := by omega
      have hv := intJ_rep h hi
      refine ⟨i.toNat :: ns, ?_, fun x hx => ?_, ?_⟩
      · rw [hv, r1]
        show _ = V.int ((i.toNat : Nat) : Int) :: nV ns
        rw [hc]
      · rcases List.mem_cons.mp hx with rfl | hx
        · omega
        · exact r2 x hx
      · rw [List.map_cons, ← r3, hc]
        have : j = J.int i := by cases j <;> first | (cases hi; rfl) | cases hi
        rw [this]
theorem rowFrom_none {m : Nat} : ∀ {js : List J} {b : Int}, allIn m js = false → rowFrom m b js = none
  | [], b, h => by cases h
  | j :: js, b, h => by
    rw [rowFrom_cons]
    unfold allIn at h
    rw [List.all_cons] at h
    cases hi : intJ j with
    | none => rfl
    | some i =>
      show (if 0 ≤ i ∧ i < m ∧ b < i then (rowFrom m i js).map (i.toNat :: ·) else none) = none
      by_cases c : 0 ≤ i ∧ i < m ∧ b < i
      · rw [if_pos c]
        have : plJ m j = true := by
          unfold plJ
          rw [hi]
          exact decide_eq_true ⟨c.1, c.2.1⟩
        rw [this, Bool.true_and] at h
        rw [rowFrom_none h]
        rfl
      · rw [if_neg c]
theorem rowFrom_nats {m : Nat} : ∀ (ns : List Nat) (b : Int), (∀ x ∈ ns, x < m) → rowFrom m b (ns.map fun (x : Nat) => J.int (x : Int)) = if ns.Pairwise (· < ·) ∧ ∀ x ∈ ns, b < (x : Int) then some ns else none
  | [], b, _ => by
    rw [if_pos ⟨.nil, fun x h => (nomatch h)⟩]
    rfl
  | x :: ns, b, h => by
    have ih := rowFrom_nats ns (x : Int) fun y hy => h y (List.mem_cons_of_mem _ hy)
    rw [List.map_cons, rowFrom_cons]
    show (if 0 ≤ (x : Int) ∧ (x : Int) < m ∧ b < (x : Int) then (rowFrom m (x : Int) (ns.map fun (x : Nat) => J.int (x : Int))).map ((x : Int).toNat :: ·) else none) = _
    have hx := h x (List.mem_cons_self ..)
    rw [ih]
    by_cases c : b < (x : Int)
    · rw [if_pos ⟨by omega, by omega, c⟩]
      by_cases d : ns.Pairwise (· < ·) ∧ ∀ y ∈ ns, (x : Int) < (y : Int)
      · rw [if_pos d, if_pos ⟨List.pairwise_cons.mpr ⟨fun y hy => by have := d.2 y hy; omega, d.1⟩, fun y hy => by
          rcases List.mem_cons.mp hy with rfl | hy
          · exact c
          · have := d.2 y hy
            omega⟩]
        rfl
      · rw [if_neg d, if_neg fun e => d ⟨(List.pairwise_cons.mp e.1).2, fun y hy => by have := (List.pairwise_cons.mp e.1).1 y hy; omega⟩]
        rfl
    · rw [if_neg fun e => c e.2.2, if_neg fun e => c (e.2 x (List.mem_cons_self ..))]
theorem rowN_nats {m : Nat} (ns : List Nat) (h : ∀ x ∈ ns, x < m) : rowN m (.tup (ns.map fun (x : Nat) => J.int (x : Int))) = if ns.Pairwise (· < ·) then some ns else none := by
  show rowFrom m (-1) _ = _
  rw [rowFrom_nats ns (-1) h]
  by_cases c : ns.Pairwise (· < ·)
  · rw [if_pos c, if_pos ⟨c, fun x _ => by omega⟩]
  · rw [if_neg c, if_neg fun e => c e.1]
/-- adjacent numbers tell -/
theorem rise_adj : ∀ (ns : List Nat), ns.Pairwise (· < ·) ↔ ∀ i x y, ns[i]? = some x → ns[i + 1]? = some y → x < y
  | [] => ⟨fun _ i x y h => (by cases h), fun _ => .nil⟩
  | [a] => ⟨fun _ i x y _ h => (by cases h), fun _ => List.pairwise_singleton _ _⟩
  | a :: b :: ns => by
    have ih := rise_adj (b :: ns)
    constructor
    · intro h i x y hx hy
      rw [List.pairwise_cons] at h
      cases i with
      | zero => cases hx; cases hy; exact h.1 b (List.mem_cons_self ..)
      | succ i => exact ih.mp h.2 i x y hx hy
    · intro h
      have h2 := ih.mpr fun i x y hx hy => h (i + 1) x y hx hy
      have hab := h 0 a b rfl rfl
      refine List.pairwise_cons.mpr ⟨fun z hz => ?_, h2⟩
      rcases List.mem_cons.mp hz with rfl | hz
      · exact hab
      · have := (List.pairwise_cons.mp h2).1 z hz
        omega
end My
set_option maxHeartbeats 4000000
namespace My
open PySem PySem.Spec PyProof.Rows L2
/-! ### min of tuples of ints, with and without a default -/
theorem lex_irr : ∀ xs : List Int, HT.lexLt xs xs = false
  | [] => rfl
  | x :: xs => by rw [HT.lexLt_cons, if_pos rfl]; exact lex_irr xs
theorem lex_tr : ∀ xs ys zs : List Int, HT.lexLt xs ys = true → HT.lexLt ys zs = true → HT.lexLt xs zs = true
  | [], [], _, h, _ => by cases h
  | [], _ :: _, [], _, h => by cases h
  | [], _ :: _, _ :: _, _, _ => rfl
  | _ :: _, [], _, h, _ => by cases h
  | _ :: _, _ :: _, [], _, h => by cases h
  | x :: xs, y :: ys, z :: zs, h1, h2 => by
    rw [HT.lexLt_cons] at h1 h2 ⊢
    by_cases a : x = y
    · rw [if_pos a] at h1
      by_cases b : y = z
      · rw [if_pos b] at h2
        rw [if_pos (a.trans b)]
        exact lex_tr xs ys zs h1 h2
      · rw [if_neg b] at h2
        rw [if_neg (fun c => b (a.symm.trans c)), a]
        exact h2
    · rw [if_neg a] at h1
      have h1' := of_decide_eq_true h1
      by_cases b : y = z
      · rw [← b, if_neg a]
        exact h1
      · rw [if_neg b] at h2
        have h2' := of_decide_eq_true h2
        rw [if_neg (by omega)]
        exact decide_eq_true (by omega)
def TupsAt (h : Heap) (items : Array Value) (key : Nat → List Int) : Prop := ∀ i v, items[i]? = some v → ∃ a its, v = .ref a ∧ IsTup h a its ∧ IntsAre its.toList (key i)
theorem TupsAt.keep {h h' : Heap} {items : Array Value} {key : Nat → List Int} {it S l : Addr} {j c : Nat} {xs : Array Value} (T : TupsAt h items key) (hit : h.IsListIter it l j) (hS : h.get? S = some { cls := .type "list", dict := none, data := .seq xs c, slots := #[] })
    (k : ∀ b o, b ≠ it → b ≠ S → h.get? b = some o → h'.get? b = some o) : TupsAt h' items key := fun i v hv => by
  obtain ⟨a, its, e, ⟨o, ho, hc, r⟩, hi⟩ := T i v hv
  obtain ⟨oi, hoi, hci, _⟩ := hit
  refine ⟨a, its, e, ⟨o, k a o (fun c => ?_) (fun c => ?_) ho, hc, r⟩, hi⟩
  · rw [c, hoi] at ho
    have e1 := Option.some.inj ho
    rw [e1, hc] at hci
    exact absurd hci (by decide)
  · rw [c, hS] at ho
    have e1 := Option.some.inj ho
    rw [← e1] at hc
    have hc2 : (Value.type "list") = Value.type "tuple" := hc
    exact absurd hc2 (by decide)
section
variable {prog : Program} {w : World} {A : Around} {R : Result → Shared → Prop} {it l S : Addr} {items : Array Value} {key : Nat → List Int} {kw : List (Str × Value)}
theorem mn_cmp {s : Shared} {i j : Nat} {u v : Value} {Q E : Value → Shared → Prop} (T : TupsAt s.heap items key) (hu : A.units < cLine) (hi : items[i]? = some u) (hj : items[j]? = some v) (h : Q (.bool (HT.lexLt (key i) (key j))) s) : wpAny (model prog w) A (richCompare .Lt u v) Q E s := by
  obtain ⟨a, its, rfl, ta, ia⟩ := T i u hi
  obtain ⟨b, its2, rfl, tb, ib⟩ := T j v hj
  exact (HT.lt_tupInts ta tb ia ib hu h : wpAny (model prog w) A (compareOp .Lt (.ref a) (.ref b)) Q E s)
theorem mn_loop (hh : A.in1.handled = none) (hu : A.in1.units < cLine) (hli : l ≠ it) (hSi : S ≠ it) (hSl : S ≠ l) :
    ∀ (k j : Nat) (s : Shared) (vb : Value) (c b : Nat), items.size - j = k → j ≤ items.size → b < j → items[b]? = some vb → (∀ i, i < j → HT.lexLt (key i) (key b) = false) → s.heap.IsListIter it l j → s.heap.IsList l items → TupsAt s.heap items key →
    s.heap.get? S = some { cls := .type "list", dict := none, data := .seq #[vb, vb] c, slots := #[] } →
    (∀ v b h' tk, items[b]? = some v → (∀ i, i < items.size → HT.lexLt (key i) (key b) = false) → (∀ b o, b ≠ it → b ≠ S → s.heap.get? b = some o → h'.get? b = some o) → R (.ok (.ret v)) { s with heap := h', toks := tk }) →
    codeAny (model prog w) A (.builtin "min.loop" ⟨[.ref it, .none, .ref S], kw⟩) R s := by
  have W := Walks.list (prog := prog) (w := w) (A := A.in1) hh it l hli items
  have hname : (toString "min" ++ toString ".loop" : String) = "min.loop" := by decide
  have hSw : S ∉ [it] := fun h => hSi (List.mem_singleton.mp h)
  intro k
  induction k with
  | zero =>
    intro j s vb c b hk hj hbj hvb hbest hit hl T hS hR
    have e : j = items.size := by omega
    subst e
    refine codeAny_builtin PySem.F.entry_min_loop ?_
    rw [Around.under_plainId PySem.F.plain_min_loop _]
    show wpAny _ A.in1 (seqItems? (.ref S) >>= _) _ _ s
    refine wpAny_bind (wpAny_seqItems hS rfl ?_)
    show wpAny _ A.in1 (tryCatch (pyNext (.ref it)) _ >>= _) _ _ s
    refine wpAny_bind (wpAny_tryCatch (W.done s _ _ ⟨hit, hl⟩ fun h' tk hk' => ?_))
    have hS' := hk' S _ hSw hS
    show wpAny _ A.in1 (updateSeq S (fun _ => #[]) >>= _) _ _ _
    refine wpAny_bind ?_
    refine wpAny_updateSeq hS' rfl (wpAny_bind (wpAny_letGo (wpAny_pure ?_)))
    exact hR vb b _ tk hvb hbest fun b o hbi hbS e => (Heap.get?_update_other _ _ (Ne.symm hbS)).trans (hk' b o (fun h => hbi (List.mem_singleton.mp h)) e)
  | succ k ih =>
    intro j s vb c b hk hj hbj hvb hbest hit hl T hS hR
    have hlt : j < items.size := by omega
    refine codeAny_builtin PySem.F.entry_min_loop ?_
    rw [Around.under_plainId PySem.F.plain_min_loop _]
    show wpAny _ A.in1 (seqItems? (.ref S) >>= _) _ _ s
    refine wpAny_bind (wpAny_seqItems hS rfl ?_)
    show wpAny _ A.in1 (tryCatch (pyNext (.ref it)) _ >>= _) _ _ s
    refine wpAny_bind (wpAny_tryCatch (W.item j s _ _ hlt ⟨hit, hl⟩ fun v h' tk hv st hk' => ?_))
    have hS' := hk' S _ hSw hS
    have T' : TupsAt h' items key := T.keep hit hS fun b o h1 h2 e => hk' b o (fun h => h1 (List.mem_singleton.mp h)) e
    show wpAny _ A.in1 (tryCatch (holding [v, v] (richCompare .Lt v vb >>= _)) _ >>= _) _ _ _
    refine wpAny_bind (wpAny_tryCatch (wpAny_holding (wpAny_bind (mn_cmp (s := { s with heap := h', toks := tk }) T' hu hv hvb ?_))))
    refine wpAny_bind (wpAny_holding (wpAny_truthy_bool ?_))
    refine wpAny_bind (wpAny_letGo (wpAny_pure ?_))
    cases hb : HT.lexLt (key j) (key b) with
    | true =>
      simp only [if_true]
      refine wpAny_bind ?_
      refine wpAny_updateSeq hS' rfl (wpAny_bind (wpAny_letGo ?_))
      rw [hname]
      have up : ∀ b o, b ≠ S → h'.get? b = some o → (h'.update S fun o => { o with data := (fun d => d) o.data }).get? b = h'.get? b := fun b o hb _ => Heap.get?_update_other _ _ (Ne.symm hb)
      refine wpAny_pure ⟨plainId_quiet PySem.F.plain_min_loop _, ih (j + 1) _ v _ j (by omega) hlt (Nat.lt_succ_self _) hv (fun i hi => ?_) (st.1.at fun o e => (Heap.get?_update_other _ _ hSi).trans e) (st.2.at fun o e => (Heap.get?_update_other _ _ hSl).trans e)
        (T'.keep st.1 hS' fun b o _ h2 e => (Heap.get?_update_other _ _ (Ne.symm h2)).trans e) (Heap.get?_update_self _ hS' rfl) fun v' b' h'' tk'' hv' hb' hk'' => ?_⟩
      · rcases Nat.lt_succ_iff_lt_or_eq.mp hi with h | h
        · cases q : HT.lexLt (key i) (key j) with
          | false => rfl
          | true => exact absurd (hbest i h) (by rw [lex_tr _ _ _ q hb]; exact fun c => nomatch c)
        · rw [h]; exact lex_irr _
      · exact hR v' b' h'' tk'' hv' hb' fun b o hbi hbS e => hk'' b o hbi hbS ((Heap.get?_update_other _ _ (Ne.symm hbS)).trans (hk' b o (fun h => hbi (List.mem_singleton.mp h)) e))
    | false =>
      simp only [Bool.false_eq_true, if_false]
      refine wpAny_bind (wpAny_letGo ?_)
      rw [hname]
      refine wpAny_pure ⟨plainId_quiet PySem.F.plain_min_loop _, ih (j + 1) _ vb c b (by omega) hlt (by omega) hvb (fun i hi => ?_) st.1 st.2 T' hS' fun v' b' h'' tk'' hv' hb' hk'' => ?_⟩
      · rcases Nat.lt_succ_iff_lt_or_eq.mp hi with h | h
        · exact hbest i h
        · rw [h]; exact hb
      · exact hR v' b' h'' tk'' hv' hb' fun b o hbi hbS e => hk'' b o hbi hbS (hk' b o (fun h => hbi (List.mem_singleton.mp h)) e)
theorem mn_first (hh : A.in1.handled = none) (hu : A.in1.units < cLine) (hli : l ≠ it) (hSi : S ≠ it) (hSl : S ≠ l) (hne : 0 < items.size) {s : Shared} {c : Nat} (hit : s.heap.IsListIter it l 0) (hl : s.heap.IsList l items) (T : TupsAt s.heap items key)
    (hS : s.heap.get? S = some { cls := .type "list", dict := none, data := .seq #[] c, slots := #[] })
    (hR : ∀ v b h' tk, items[b]? = some v → (∀ i, i < items.size → HT.lexLt (key i) (key b) = false) → (∀ b o, b ≠ it → b ≠ S → s.heap.get? b = some o → h'.get? b = some o) → R (.ok (.ret v)) { s with heap := h', toks := tk }) :
    codeAny (model prog w) A (.builtin "min.loop" ⟨[.ref it, .none, .ref S], kw⟩) R s := by
  have W := Walks.list (prog := prog) (w := w) (A := A.in1) hh it l hli items
  have hname : (toString "min" ++ toString ".loop" : String) = "min.loop" := by decide
  have hSw : S ∉ [it] := fun h => hSi (List.mem_singleton.mp h)
  refine codeAny_builtin PySem.F.entry_min_loop ?_
  rw [Around.under_plainId PySem.F.plain_min_loop _]
  show wpAny _ A.in1 (seqItems? (.ref S) >>= _) _ _ s
  refine wpAny_bind (wpAny_seqItems hS rfl ?_)
  show wpAny _ A.in1 (tryCatch (pyNext (.ref it)) _ >>= _) _ _ s
  refine wpAny_bind (wpAny_tryCatch (W.item 0 s _ _ hne ⟨hit, hl⟩ fun v h' tk hv st hk' => ?_))
  have hS' := hk' S _ hSw hS
  have T' : TupsAt h' items key := T.keep hit hS fun b o h1 h2 e => hk' b o (fun h => h1 (List.mem_singleton.mp h)) e
  show wpAny _ A.in1 (updateSeq S (fun _ => #[v, v]) >>= _) _ _ _
  refine wpAny_bind ?_
  refine wpAny_updateSeq hS' rfl ?_
  rw [hname]
  refine wpAny_pure ⟨plainId_quiet PySem.F.plain_min_loop _, mn_loop hh hu hli hSi hSl _ 1 _ v _ 0 rfl hne (Nat.lt_succ_self _) hv (fun i hi => ?_) (st.1.at fun o e => (Heap.get?_update_other _ _ hSi).trans e) (st.2.at fun o e => (Heap.get?_update_other _ _ hSl).trans e)
    (T'.keep st.1 hS' fun b o _ h2 e => (Heap.get?_update_other _ _ (Ne.symm h2)).trans e) (Heap.get?_update_self _ hS' rfl) fun v' b' h'' tk'' hv' hb' hk'' => ?_⟩
  · have e : i = 0 := by omega
    rw [e]; exact lex_irr _
  · exact hR v' b' h'' tk'' hv' hb' fun b o hbi hbS e => hk'' b o hbi hbS ((Heap.get?_update_other _ _ (Ne.symm hbS)).trans (hk' b o (fun h => hbi (List.mem_singleton.mp h)) e))
theorem mn_none (hh : A.in1.handled = none) (hli : l ≠ it) (hSi : S ≠ it) {d : Value} (hz : items.size = 0) {s : Shared} {c : Nat} (hit : s.heap.IsListIter it l 0) (hl : s.heap.IsList l items)
    (hS : s.heap.get? S = some { cls := .type "list", dict := none, data := .seq #[] c, slots := #[] })
    (hR : ∀ h' tk, (∀ b o, b ≠ it → b ≠ S → s.heap.get? b = some o → h'.get? b = some o) → R (.ok (.ret d)) { s with heap := h', toks := tk }) :
    codeAny (model prog w) A (.builtin "min.loop" ⟨[.ref it, .none, .ref S], [(Str.ofString "default", d)]⟩) R s := by
  have W := Walks.list (prog := prog) (w := w) (A := A.in1) hh it l hli items
  have hSw : S ∉ [it] := fun h => hSi (List.mem_singleton.mp h)
  refine codeAny_builtin PySem.F.entry_min_loop ?_
  rw [Around.under_plainId PySem.F.plain_min_loop _]
  show wpAny _ A.in1 (seqItems? (.ref S) >>= _) _ _ s
  refine wpAny_bind (wpAny_seqItems hS rfl ?_)
  show wpAny _ A.in1 (tryCatch (pyNext (.ref it)) _ >>= _) _ _ s
  refine wpAny_bind (wpAny_tryCatch (W.done s _ _ ⟨by rw [hz]; exact hit, hl⟩ fun h' tk hk' => ?_))
  refine wpAny_bind (wpAny_rule ?_)
  exact wpAny_pure (hR h' tk fun b o hbi _ e => hk' b o (fun h => hbi (List.mem_singleton.mp h)) e)
theorem mn_call {s : Shared} {Q E : Value → Shared → Prop} (hh : A.handled = none) (hu : A.units + 65 < cLine) (hk : kw = [] ∨ ∃ d, kw = [(Str.ofString "default", d)]) (hl : s.heap.IsList l items) (T : TupsAt s.heap items key) (hne : 0 < items.size)
    (hQ : ∀ v b h' tk, items[b]? = some v → (∀ i, i < items.size → HT.lexLt (key i) (key b) = false) → (∀ b o, s.heap.get? b = some o → h'.get? b = some o) → Q v { s with heap := h', toks := tk }) : wpAny (model prog w) A (call (.builtin "min") [.ref l] kw) Q E s := by
  have hname : (toString "min" ++ toString ".loop" : String) = "min.loop" := by decide
  obtain ⟨ol, hol, _⟩ := id hl
  have hll : l < s.heap.objs.size := Heap.lt_size hol
  have ha : argsOk "min" ⟨[.ref l], kw⟩ := by
    rcases hk with rfl | ⟨d, rfl⟩
    · exact PySem.F.args_min1 _
    · unfold argsOk; kernel_rfl
  refine PyProof.Rows.kmb_tree PySem.F.kind_min PySem.F.plain_min PySem.F.entry_min ha ?_
  show wpAny _ A.in1 (Builtin.Builtins.bindParams "min" ["key", "default"] 0 ⟨[], kw⟩ >>= _) _ _ s
  obtain ⟨dd, e1, e2⟩ : ∃ dd : Option Value, Builtin.Builtins.bindParams "min" ["key", "default"] 0 ⟨[], kw⟩ = pure [none, dd] ∧ (dd.toList.map fun d => (Str.ofString "default", d)) = kw := by
    rcases hk with rfl | ⟨d, rfl⟩
    · exact ⟨none, rfl, rfl⟩
    · exact ⟨some d, rfl, rfl⟩
  refine wpAny_bind (wpAny_of_eq e1 ?_)
  refine wpAny_bind (wpAny_pure ?_)
  refine wpAny_bind (wpAny_pyIter_list hl ?_)
  refine wpAny_bind (wpAny_newList ?_ (Nat.zero_le _))
  rw [hname]
  rw [e2]
  have hlI : l ≠ s.heap.objs.size := Nat.ne_of_lt hll
  have hSz : (s.heap.push { cls := .type "list_iterator", data := .fields #[.ref l, .int 0 0] }).objs.size = s.heap.objs.size + 1 := Heap.size_push ..
  have hSI : (s.heap.push { cls := .type "list_iterator", data := .fields #[.ref l, .int 0 0] }).objs.size ≠ s.heap.objs.size := by rw [hSz]; exact Nat.ne_of_gt (Nat.lt_succ_self _)
  have hSl : (s.heap.push { cls := .type "list_iterator", data := .fields #[.ref l, .int 0 0] }).objs.size ≠ l := by rw [hSz]; exact Nat.ne_of_gt (Nat.lt_succ_of_lt hll)
  refine wpAny_pure ⟨plainId_quiet PySem.F.plain_min_loop _, mn_first (it := s.heap.objs.size) (l := l) (S := (s.heap.push { cls := .type "list_iterator", data := .fields #[.ref l, .int 0 0] }).objs.size) (items := items) (key := key) hh (by show A.units + 1 < cLine; omega) hlI hSI hSl hne ⟨_, Heap.get?_push_of_some _ (Heap.get?_push_size _ rfl), rfl, rfl⟩ (hl.at fun o e => Heap.get?_push_of_some _ (Heap.get?_push_of_some _ e)) (fun i v hv => ?_) (Heap.get?_push_size _ rfl) fun v b h' tk hv hb hk' => ?_⟩
  · obtain ⟨a, its, e, ⟨o, ho, r⟩, hi⟩ := T i v hv
    exact ⟨a, its, e, ⟨o, Heap.get?_push_of_some _ (Heap.get?_push_of_some _ ho), r⟩, hi⟩
  · exact hQ v b h' tk hv hb fun b o e => hk' b o (Nat.ne_of_lt (Heap.lt_size e)) (by rw [hSz]; exact Nat.ne_of_lt (Nat.lt_succ_of_lt (Heap.lt_size e))) (Heap.get?_push_of_some _ (Heap.get?_push_of_some _ e))
theorem mn_callN {s : Shared} {Q E : Value → Shared → Prop} {d : Value} (hh : A.handled = none) (hl : s.heap.IsList l items) (hz : items.size = 0)
    (hQ : ∀ h' tk, (∀ b o, s.heap.get? b = some o → h'.get? b = some o) → Q d { s with heap := h', toks := tk }) : wpAny (model prog w) A (call (.builtin "min") [.ref l] [(Str.ofString "default", d)]) Q E s := by
  have hname : (toString "min" ++ toString ".loop" : String) = "min.loop" := by decide
  obtain ⟨ol, hol, _⟩ := id hl
  have hll : l < s.heap.objs.size := Heap.lt_size hol
  refine PyProof.Rows.kmb_tree PySem.F.kind_min PySem.F.plain_min PySem.F.entry_min (by unfold argsOk; kernel_rfl) ?_
  show wpAny _ A.in1 (Builtin.Builtins.bindParams "min" ["key", "default"] 0 ⟨[], [(Str.ofString "default", d)]⟩ >>= _) _ _ s
  refine wpAny_bind (wpAny_of_eq (show Builtin.Builtins.bindParams "min" ["key", "default"] 0 ⟨[], [(Str.ofString "default", d)]⟩ = pure [none, some d] from rfl) ?_)
  refine wpAny_bind (wpAny_pure ?_)
  refine wpAny_bind (wpAny_pyIter_list hl ?_)
  refine wpAny_bind (wpAny_newList ?_ (Nat.zero_le _))
  rw [hname]
  have hlI : l ≠ s.heap.objs.size := Nat.ne_of_lt hll
  have hSz : (s.heap.push { cls := .type "list_iterator", data := .fields #[.ref l, .int 0 0] }).objs.size = s.heap.objs.size + 1 := Heap.size_push ..
  have hSI : (s.heap.push { cls := .type "list_iterator", data := .fields #[.ref l, .int 0 0] }).objs.size ≠ s.heap.objs.size := by rw [hSz]; exact Nat.ne_of_gt (Nat.lt_succ_self _)
  refine wpAny_pure ⟨plainId_quiet PySem.F.plain_min_loop _, mn_none (it := s.heap.objs.size) (l := l) (S := (s.heap.push { cls := .type "list_iterator", data := .fields #[.ref l, .int 0 0] }).objs.size) (items := items) hh hlI hSI hz ⟨_, Heap.get?_push_of_some _ (Heap.get?_push_size _ rfl), rfl, rfl⟩ (hl.at fun o e => Heap.get?_push_of_some _ (Heap.get?_push_of_some _ e)) (Heap.get?_push_size _ rfl) fun h' tk hk' => ?_⟩
  exact hQ h' tk fun b o e => hk' b o (Nat.ne_of_lt (Heap.lt_size e)) (by rw [hSz]; exact Nat.ne_of_lt (Nat.lt_succ_of_lt (Heap.lt_size e))) (Heap.get?_push_of_some _ (Heap.get?_push_of_some _ e))
end
section
variable {X : Cx}
/-- min(xs) of tuples of ints; min(xs, default=d) -/
def rMinT (K : PySem.W.Frag) : List V → Hp → VK → Prop := fun vs H Q => ∃ (a : Addr) (xs : List V) (key : Nat → List Int), vs = [V.ref a] ∧ SqL K H a xs ∧ xs ≠ [] ∧ (∀ i x, xs[i]? = some x → ∃ t, x = V.ref t ∧ SqT K H t ((key i).map V.int)) ∧
  ∀ b x, xs[b]? = some x → (∀ i, i < xs.length → HT.lexLt (key i) (key b) = false) → Q x H
def rMinTD (K : PySem.W.Frag) : List V → List V → Hp → VK → Prop := fun vs zs H Q => ∃ (a : Addr) (xs : List V) (key : Nat → List Int) (d : V), vs = [V.ref a] ∧ zs = [d] ∧ SqL K H a xs ∧ (∀ i x, xs[i]? = some x → ∃ t, x = V.ref t ∧ SqT K H t ((key i).map V.int)) ∧
  (xs = [] → Q d H) ∧ ∀ b x, xs[b]? = some x → (∀ i, i < xs.length → HT.lexLt (key i) (key b) = false) → Q x H
theorem tups_of {pins : List (Addr × Obj)} {s : Shared} {σ : L2.St} {H : Hp} {xs : List V} {its : List Value} {key : Nat → List Int} (I : Inv X pins σ H s) (rv : Vals xs its) (h : ∀ i x, xs[i]? = some x → ∃ t, x = V.ref t ∧ SqT X.K H t ((key i).map V.int)) : TupsAt s.heap its.toArray key := fun i v hv => by
  have hv' : its[i]? = some v := by simpa using hv
  have hlt := (List.getElem?_eq_some_iff.mp hv').1
  have hl := rv.length
  have hx : xs[i]? = some (xs[i]'(by omega)) := List.getElem?_eq_getElem (by omega)
  obtain ⟨t, e, ht⟩ := h i _ hx
  obtain ⟨u, hu, ru⟩ := rv.get hx
  rw [hv'] at hu
  cases hu
  rw [e] at ru
  obtain rfl : v = Value.ref t := ru
  obtain ⟨its2, r2, p2, _⟩ := I.tuple ht
  exact ⟨t, _, rfl, p2, intsAre_of r2⟩
theorem cr_minT (hc : X.calm = true) (hu : X.A.units + 65 < cLine) : CallR X (.builtin "min") (rMinT X.K) := by
  intro pins s σ H vs us Q I r h
  obtain ⟨a, xs, key, rfl, hs, hne, ht, q⟩ := h
  obtain ⟨its, rv, hl, _⟩ := I.list hs
  rw [Vals.ref1 r]
  have ln := rv.length
  refine mn_call (I.ok.hd hc) hu (.inl rfl) hl.isList (tups_of I rv ht) ?_ fun v b h' tk hv hb hk => ?_
  · rw [List.size_toArray, ← ln]
    exact List.length_pos_iff.mpr hne
  · have hv' : its[b]? = some v := by simpa using hv
    have hlt := (List.getElem?_eq_some_iff.mp hv').1
    have hx : xs[b]? = some (xs[b]'(by omega)) := List.getElem?_eq_getElem (by omega)
    obtain ⟨u, hu', ru⟩ := rv.get hx
    rw [hv'] at hu'
    cases hu'
    exact ⟨_, H, I.kept hk, ru, q b _ hx fun i hi => hb i (by rw [List.size_toArray, ← ln]; exact hi)⟩
theorem cr_minTD (hc : X.calm = true) (hu : X.A.units + 65 < cLine) : CallRK X (.builtin "min") [Str.ofString "default"] (rMinTD X.K) := by
  intro pins s σ H vs zs us ws Q I r rz h
  obtain ⟨a, xs, key, d, rfl, rfl, hs, ht, q0, q⟩ := h
  obtain ⟨its, rv, hl, _⟩ := I.list hs
  obtain rfl := Vals.ref1 r
  obtain ⟨w1, rfl, e1⟩ := vals1 rz
  have ln := rv.length
  by_cases hne : xs = []
  · refine mn_callN (I.ok.hd hc) hl.isList ?_ fun h' tk hk => ?_
    · rw [List.size_toArray, ← ln, hne]
      rfl
    · exact ⟨_, H, I.kept hk, e1, q0 hne⟩
  · refine mn_call (I.ok.hd hc) hu (.inr ⟨_, rfl⟩) hl.isList (tups_of I rv ht) ?_ fun v b h' tk hv hb hk => ?_
    · rw [List.size_toArray, ← ln]
      exact List.length_pos_iff.mpr hne
    · have hv' : its[b]? = some v := by simpa using hv
      have hlt := (List.getElem?_eq_some_iff.mp hv').1
      have hx : xs[b]? = some (xs[b]'(by omega)) := List.getElem?_eq_getElem (by omega)
      obtain ⟨u, hu', ru⟩ := rv.get hx
      rw [hv'] at hu'
      cases hu'
      exact ⟨_, H, I.kept hk, ru, q b _ hx fun i hi => hb i (by rw [List.size_toArray, ← ln]; exact hi)⟩
end
end My
namespace My
open PySem PySem.Spec PyProof.Rows L2
/-! ### sorted() of pairs of a sign and an int -/
theorem sgn_lt (c d : Nat) : decide ((⟨#[c]⟩ : Str).cps.toList < (⟨#[d]⟩ : Str).cps.toList) = decide (c < d) := by
  refine decide_eq_decide.mpr ?_
  show [c] < [d] ↔ c < d
  rw [List.cons_lt_cons_iff]
  simp
def IsSI (h : Heap) (v : Value) (c : Nat) (i : Int) : Prop := ∃ a o t u n, v = .ref a ∧ h.get? a = some o ∧ o.cls = .type "tuple" ∧ o.data = .seq #[.str ⟨#[c]⟩ t, .int i u] n
theorem IsSI.keeps {h h' : Heap} {v : Value} {c : Nat} {i : Int} (x : IsSI h v c i) (kp : ∀ b o, h.get? b = some o → o.cls = .type "tuple" → h'.get? b = some o) : IsSI h' v c i := by
  obtain ⟨a, o, t, u, n, e, ho, hc, hd⟩ := x
  exact ⟨a, o, t, u, n, e, kp a o ho hc, hc, hd⟩
def ofS (k : Nat × Int) : Int × Int := ((k.1 : Int), k.2)
section
variable {prog : Program} {w : World} {A : Around} {E : Value → Shared → Prop} {s : Shared}
theorem si_cmp {vs : List Value} {k : Value → Nat × Int} (hp : ∀ v ∈ vs, IsSI s.heap v (k v).1 (k v).2) : SrtO.Cmp prog w A s (tuples' true) (fun p => p.1 ∈ vs) (SrtO.lt2 fun v u => SrtO.lexB (ofS (k v)) (ofS (k u))) := by
  intro p q hm hm'
  have h1 := hp _ hm
  have h2 := hp _ hm'
  show wpAny (model prog w) A (keyLt' (tuples' true) p.1 q.1) (fun r s' => s' = s ∧ r = SrtO.lexB (ofS (k p.1)) (ofS (k q.1))) (fun _ _ => False) s
  unfold SrtO.lexB ofS
  generalize (k p.1).1 = x at h1 ⊢
  generalize (k p.1).2 = y at h1 ⊢
  generalize (k q.1).1 = x' at h2 ⊢
  generalize (k q.1).2 = y' at h2 ⊢
  obtain ⟨a, o, t, u, n, e, ho, hc, hd⟩ := h1
  obtain ⟨a', o', t', u', n', e', ho', hc', hd'⟩ := h2
  rw [e, e']
  refine PySem.W.kat_lt ho hd ho' hd' ?_
  show PySem.W.KatLex prog w A true (decide (2 < 2)) _ [(.str ⟨#[x]⟩ t, .str ⟨#[x']⟩ t'), (.int y u, .int y' u')] 0 s
  refine PySem.W.kat_cons (SeqAt.EqAt.str_str _ t _ t' prog w _ _ ?_)
  refine PySem.W.kat_go (fun e1 => ?_) (fun e1 => ?_)
  · have ex : x = x' := by
      have e2 : (⟨#[x]⟩ : Str) = ⟨#[x']⟩ := by simpa using e1
      exact (List.cons.inj (congrArg (fun s : Str => s.cps.toList) e2)).1
    subst ex
    refine PySem.W.kat_yes (PySem.W.kat_cons (SeqAt.EqAt.int_int y u y' u' prog w _ _ ?_))
    refine PySem.W.kat_go (fun e2 => ?_) (fun e2 => ?_)
    · have ey : y = y' := by simpa using e2
      have e3 : (if (x : Int) = (x : Int) then decide (y < y') else decide ((x : Int) < (x : Int))) = false := by
        rw [if_pos rfl, ey]
        exact decide_eq_false (Int.lt_irrefl _)
      exact PySem.W.kat_yes (PySem.W.kat_nil ⟨rfl, e3.symm⟩)
    · have e3 : (if (x : Int) = (x : Int) then decide (y < y') else decide ((x : Int) < (x : Int))) = decide (y < y') := if_pos rfl
      refine PySem.W.kat_no (PySem.W.kat_one _ _ (PyProof.Rows.lt_int ?_))
      exact (show s = s ∧ decide (y < y') = (if (x : Int) = (x : Int) then decide (y < y') else decide ((x : Int) < (x : Int))) from ⟨rfl, e3.symm⟩)
  · have ex : ¬ x = x' := fun h => by
      rw [h] at e1
      simp at e1
    have e3 : (if (x : Int) = (x' : Int) then decide (y < y') else decide ((x : Int) < (x' : Int))) = decide (x < x') := by
      rw [if_neg (by omega)]
      exact decide_eq_decide.mpr (by omega)
    refine PySem.W.kat_no (PyProof.Rows.oneLt_any_str ?_)
    exact ⟨rfl, by rw [e3, sgn_lt]⟩
theorem si_firsts {h : Heap} : ∀ (vs : List Value), (∀ v ∈ vs, ∃ c i, IsSI h v c i) → ∃ fs, PySem.W.KatTups h vs fs ∧ fs.length = vs.length ∧ ∀ f ∈ fs, ∃ z t, f = Value.str z t
  | [], _ => ⟨[], .nil, rfl, fun f z => by cases z⟩
  | v :: vs, H => by
    obtain ⟨fs, a1, a2, a3⟩ := si_firsts vs fun u hu => H u (List.mem_cons_of_mem _ hu)
    obtain ⟨c, i, a, o, t, u, n, rfl, ho, hc, hd⟩ := H v List.mem_cons_self
    refine ⟨_ :: fs, PySem.W.KatTups.cons ho hc hd rfl a1, by rw [List.length_cons, List.length_cons, a2], fun f hf => ?_⟩
    rcases List.mem_cons.mp hf with rfl | hf
    · exact ⟨_, t, rfl⟩
    · exact a3 f hf
theorem si_sortable {a : Addr} {vs : List Value} {k : Value → Nat × Int} (h0 : 0 < vs.length) (hp : ∀ v ∈ vs, IsSI s.heap v (k v).1 (k v).2) (ha : ∀ o, s.heap.get? a = some o → o.cls ≠ .type "tuple") : SrtO.SortableO prog w A s a vs fun v u => SrtO.lexB (ofS (k v)) (ofS (k u)) := by
  intro h' keep
  have hp' : ∀ v ∈ vs, IsSI h' v (k v).1 (k v).2 := fun v hm => (hp v hm).keeps fun b o e c => keep b o (fun z => by subst z; exact ha o e c) e
  obtain ⟨fs, h1, h2, h3⟩ := si_firsts (h := h') vs fun v hm => ⟨_, _, hp' v hm⟩
  refine ⟨tuples' true, fun Q E hq => ?_, si_cmp (s := { s with heap := h' }) hp'⟩
  refine PySem.W.kat_kind (T := .type "str") h1 (by omega) (fun f hm => ?_) (by rfl) ?_
  · obtain ⟨x, t, rfl⟩ := h3 f hm
    exact PySem.W.Looks.now
  · rw [show (Value.type "str" != Value.type "tuple") = true by decide]
    exact hq
end
def rSortedSI (K : PySem.W.Frag) : List V → Hp → VK → Prop := fun vs H Q => ∃ (a : Addr) (xs : List V) (k : V → Nat × Int), vs = [V.ref a] ∧ SqL K H a xs ∧ (∀ x ∈ xs, ∃ t, x = V.ref t ∧ H t = some (.tup [.str ⟨#[(k x).1]⟩, .int (k x).2])) ∧
  ∀ ys p, ys.Perm xs → ys.Pairwise (fun x y => SrtO.lexB (ofS (k y)) (ofS (k x)) = false) → H p = none → Q (.ref p) (upd H p (.lst ys))
theorem cr_sortedSI {X : Cx} : CallR X (.builtin "sorted") (rSortedSI X.K) := by
  intro pins s σ H vs us Q I r h
  obtain ⟨a, xs, k, rfl, hs, hx, q⟩ := h
  obtain ⟨its, rv, hl, hz⟩ := I.list hs
  obtain ⟨u, rfl, ru⟩ := vals1 r
  obtain rfl : u = Value.ref a := ru
  obtain ⟨e1, e2⟩ := bkW_refs rv fun x m => by
    obtain ⟨t, e, _⟩ := hx x m
    exact ⟨t, e⟩
  have ht : ∀ v ∈ its, IsSI s.heap v (k (bkW v)).1 (k (bkW v)).2 := fun v hv => by
    obtain ⟨t, rfl⟩ := e2 v hv
    have hm : V.ref t ∈ xs := by
      rw [e1]
      exact List.mem_map.mpr ⟨_, hv, rfl⟩
    obtain ⟨t', e, h1⟩ := hx _ hm
    cases e
    obtain ⟨_, its2, r2, o, ho, hc, n, hd⟩ := I.hok _ _ h1
    obtain ⟨u1, u2, rfl, ri, rj⟩ := vals2 r2
    obtain ⟨t1, rfl⟩ := ri
    obtain ⟨t2, rfl⟩ := rj
    exact ⟨t, o, t1, t2, n, rfl, ho, hc, hd⟩
  refine SrtO.sorted_ord (SrtO.swo_lex fun u => ofS (k (bkW u))) hl.isList (by rw [← rv.length]; exact hz) (fun h2 h₁ a ha kk => ?_) fun out hs hb => ?_
  · refine si_sortable (s := { s with heap := h₁ }) (k := fun u => k (bkW u)) (by omega) (fun v hm => (ht v hm).keeps fun b o e _ => (kk b o e).2) fun o e => ?_
    have e' : some o = some (seqObj "list" its.toArray 0) := e.symm.trans ha
    cases e'
    intro c
    exact absurd (Value.type.inj c) (by decide)
  · have h3 : ∀ u ∈ out, ∃ a, u = Value.ref a := fun u hu => e2 u (hb.perm.mem_iff.mp hu)
    have hp : (out.map bkW).Perm xs := by
      rw [e1]
      exact hb.perm.map bkW
    obtain ⟨n, hn⟩ := PyProof.Rows.sortedAll_at s.heap its out.toArray
    refine ⟨.ref _, upd H (s.heap.objs.size + 1) (.lst (out.map bkW)), I.laid (t' := s.toks) (fun _ _ => PyProof.Rows.sortedAll_old) (Nat.le_succ _) ⟨?_, out, n, bkW_vals h3, hn⟩, rfl, q _ _ hp ?_ (I.hok.fresh (Nat.le_succ _))⟩
    · rw [hp.length_eq]
      exact hz
    · rw [List.pairwise_map]
      exact hs
end My
set_option maxHeartbeats 4000000
namespace My
open PySem PySem.Spec PyProof.Rows L2
/-! ### min of tuples of a sign and one or two ints -/
inductive MixAre : Nat → Array Value → List Int → Prop
  | two (c : Nat) (i : Int) (t u : Tok) : MixAre 2 #[.str ⟨#[c]⟩ t, .int i u] [(c : Int), i]
  | three (c : Nat) (i k : Int) (t u w : Tok) : MixAre 3 #[.str ⟨#[c]⟩ t, .int i u, .int k w] [(c : Int), i, k]
theorem sg_eq (c d : Nat) : ((⟨#[c]⟩ : Str) == ⟨#[d]⟩) = decide ((c : Int) = (d : Int)) := by
  rw [Bool.eq_iff_iff, beq_iff_eq, decide_eq_true_eq]
  constructor
  · intro h
    have := (List.cons.inj (congrArg (fun s : Str => s.cps.toList) h)).1
    omega
  · intro h
    have : c = d := by omega
    rw [this]
theorem rcl_str {A : Around} {s : Shared} (c d : Nat) (t u : Tok) : PySem.SeqAt.RcLt A s (.str ⟨#[c]⟩ t) (.str ⟨#[d]⟩ u) (decide ((c : Int) < (d : Int))) := fun prog w E Q h => by
  refine (PyProof.Rows.lt_str ?_ : wpAny (model prog w) A (compareOp .Lt (.str ⟨#[c]⟩ t) (.str ⟨#[d]⟩ u)) Q E s)
  have e : decide ((⟨#[c]⟩ : Str).cps.toList < (⟨#[d]⟩ : Str).cps.toList) = decide ((c : Int) < (d : Int)) := by
    rw [sgn_lt]
    exact decide_eq_decide.mpr (by omega)
  rw [e]
  exact h
theorem rcl_int {A : Around} {s : Shared} (i k : Int) (t u : Tok) : PySem.SeqAt.RcLt A s (.int i t) (.int k u) (decide (i < k)) := fun prog w E Q h => (PyProof.Rows.lt_int h : wpAny (model prog w) A (compareOp .Lt (.int i t) (.int k u)) Q E s)
theorem eqa_str {A : Around} {s : Shared} (c d : Nat) (t u : Tok) : PySem.SeqAt.EqAt A s (.str ⟨#[c]⟩ t) (.str ⟨#[d]⟩ u) (decide ((c : Int) = (d : Int))) := by
  rw [← sg_eq]
  exact PySem.SeqAt.EqAt.str_str _ t _ u
theorem eqa_int {A : Around} {s : Shared} (i k : Int) (t u : Tok) : PySem.SeqAt.EqAt A s (.int i t) (.int k u) (decide (i = k)) := by
  have : decide (i = k) = (i == k) := by rw [Bool.eq_iff_iff]; simp
  rw [this]
  exact PySem.SeqAt.EqAt.int_int _ t _ u
theorem mix_lt {prog : Program} {w : World} {A : Around} {s : Shared} {Q E : Value → Shared → Prop} {n : Nat} {l b : Addr} {xs ys : Array Value} {ns ms : List Int} (hl : s.heap.IsTuple l xs) (hb : s.heap.IsTuple b ys) (hi : MixAre n xs ns) (hj : MixAre n ys ms) (hu : A.units < cLine)
    (h : Q (.bool (HT.lexLt ns ms)) s) : wpAny (model prog w) A (richCompare .Lt (.ref l) (.ref b)) Q E s := by
  cases hi with
  | two c i t u =>
    cases hj with
    | two d k t' u' =>
      refine PySem.SeqAt.RcLt.tuples (e := fun j => if j = 0 then decide ((c : Int) = (d : Int)) else decide (i = k)) (r := fun j => if j = 0 then decide ((c : Int) < (d : Int)) else decide (i < k)) hl hb hu (fun j h1 h2 => ?_) (fun j h1 h2 _ => ?_) prog w E Q ?_
      · match j, h1, h2 with
        | 0, _, _ => exact eqa_str c d t t'
        | 1, _, _ => exact eqa_int i k u u'
        | j + 2, h1, _ => exact absurd h1 (by simp)
      · match j, h1, h2 with
        | 0, _, _ => exact rcl_str c d t t'
        | 1, _, _ => exact rcl_int i k u u'
        | j + 2, h1, _ => exact absurd h1 (by simp)
      · have e : PySem.SeqAt.firstLt (fun j => if j = 0 then decide ((c : Int) = (d : Int)) else decide (i = k)) (fun j => if j = 0 then decide ((c : Int) < (d : Int)) else decide (i < k)) false [0, 1] = HT.lexLt [(c : Int), i] [(d : Int), k] := by
          show (if decide ((c : Int) = (d : Int)) = true then (if decide (i = k) = true then false else decide (i < k)) else decide ((c : Int) < (d : Int))) = (if (c : Int) = (d : Int) then (if i = k then false else decide (i < k)) else decide ((c : Int) < (d : Int)))
          simp only [decide_eq_true_eq]
        rw [← e] at h
        exact h
  | three c i k t u v =>
    cases hj with
    | three d i' k' t' u' v' =>
      refine PySem.SeqAt.RcLt.tuples (e := fun j => if j = 0 then decide ((c : Int) = (d : Int)) else if j = 1 then decide (i = i') else decide (k = k')) (r := fun j => if j = 0 then decide ((c : Int) < (d : Int)) else if j = 1 then decide (i < i') else decide (k < k')) hl hb hu (fun j h1 h2 => ?_) (fun j h1 h2 _ => ?_) prog w E Q ?_
      · match j, h1, h2 with
        | 0, _, _ => exact eqa_str c d t t'
        | 1, _, _ => exact eqa_int i i' u u'
        | 2, _, _ => exact eqa_int k k' v v'
        | j + 3, h1, _ => exact absurd h1 (by simp)
      · match j, h1, h2 with
        | 0, _, _ => exact rcl_str c d t t'
        | 1, _, _ => exact rcl_int i i' u u'
        | 2, _, _ => exact rcl_int k k' v v'
        | j + 3, h1, _ => exact absurd h1 (by simp)
      · have e : PySem.SeqAt.firstLt (fun j => if j = 0 then decide ((c : Int) = (d : Int)) else if j = 1 then decide (i = i') else decide (k = k')) (fun j => if j = 0 then decide ((c : Int) < (d : Int)) else if j = 1 then decide (i < i') else decide (k < k')) false [0, 1, 2] = HT.lexLt [(c : Int), i, k] [(d : Int), i', k'] := by
          show (if decide ((c : Int) = (d : Int)) = true then (if decide (i = i') = true then (if decide (k = k') = true then false else decide (k < k')) else decide (i < i')) else decide ((c : Int) < (d : Int))) = (if (c : Int) = (d : Int) then (if i = i' then (if k = k' then false else decide (k < k')) else decide (i < i')) else decide ((c : Int) < (d : Int)))
          simp only [decide_eq_true_eq]
        rw [← e] at h
        exact h
def MixAt (nm : Nat) (h : Heap) (items : Array Value) (key : Nat → List Int) : Prop := ∀ i v, items[i]? = some v → ∃ a its, v = .ref a ∧ IsTup h a its ∧ MixAre nm its (key i)
theorem MixAt.keep {nm : Nat} {h h' : Heap} {items : Array Value} {key : Nat → List Int} {it S l : Addr} {j c : Nat} {xs : Array Value} (T : MixAt nm h items key) (hit : h.IsListIter it l j) (hS : h.get? S = some { cls := .type "list", dict := none, data := .seq xs c, slots := #[] })
    (k : ∀ b o, b ≠ it → b ≠ S → h.get? b = some o → h'.get? b = some o) : MixAt nm h' items key := fun i v hv => by
  obtain ⟨a, its, e, ⟨o, ho, hc, r⟩, hi⟩ := T i v hv
  obtain ⟨oi, hoi, hci, _⟩ := hit
  refine ⟨a, its, e, ⟨o, k a o (fun c => ?_) (fun c => ?_) ho, hc, r⟩, hi⟩
  · rw [c, hoi] at ho
    have e1 := Option.some.inj ho
    rw [e1, hc] at hci
    exact absurd hci (by decide)
  · rw [c, hS] at ho
    have e1 := Option.some.inj ho
    rw [← e1] at hc
    have hc2 : (Value.type "list") = Value.type "tuple" := hc
    exact absurd hc2 (by decide)
section
variable {nm : Nat} {prog : Program} {w : World} {A : Around} {R : Result → Shared → Prop} {it l S : Addr} {items : Array Value} {key : Nat → List Int} {kw : List (Str × Value)}
theorem mx_cmp {s : Shared} {i j : Nat} {u v : Value} {Q E : Value → Shared → Prop} (T : MixAt nm s.heap items key) (hu : A.units < cLine) (hi : items[i]? = some u) (hj : items[j]? = some v) (h : Q (.bool (HT.lexLt (key i) (key j))) s) : wpAny (model prog w) A (richCompare .Lt u v) Q E s := by
  obtain ⟨a, its, rfl, ta, ia⟩ := T i u hi
  obtain ⟨b, its2, rfl, tb, ib⟩ := T j v hj
  exact mix_lt ta tb ia ib hu h
theorem mx_loop (hh : A.in1.handled = none) (hu : A.in1.units < cLine) (hli : l ≠ it) (hSi : S ≠ it) (hSl : S ≠ l) :
    ∀ (k j : Nat) (s : Shared) (vb : Value) (c b : Nat), items.size - j = k → j ≤ items.size → b < j → items[b]? = some vb → (∀ i, i < j → HT.lexLt (key i) (key b) = false) → s.heap.IsListIter it l j → s.heap.IsList l items → MixAt nm s.heap items key →
    s.heap.get? S = some { cls := .type "list", dict := none, data := .seq #[vb, vb] c, slots := #[] } →
    (∀ v b h' tk, items[b]? = some v → (∀ i, i < items.size → HT.lexLt (key i) (key b) = false) → (∀ b o, b ≠ it → b ≠ S → s.heap.get? b = some o → h'.get? b = some o) → R (.ok (.ret v)) { s with heap := h', toks := tk }) →
    codeAny (model prog w) A (.builtin "min.loop" ⟨[.ref it, .none, .ref S], kw⟩) R s := by
  have W := Walks.list (prog := prog) (w := w) (A := A.in1) hh it l hli items
  have hname : (toString "min" ++ toString ".loop" : String) = "min.loop" := by decide
  have hSw : S ∉ [it] := fun h => hSi (List.mem_singleton.mp h)
  intro k
  induction k with
  | zero =>
    intro j s vb c b hk hj hbj hvb hbest hit hl T hS hR
    have e : j = items.size := by omega
    subst e
    refine codeAny_builtin PySem.F.entry_min_loop ?_
    rw [Around.under_plainId PySem.F.plain_min_loop _]
    show wpAny _ A.in1 (seqItems? (.ref S) >>= _) _ _ s
    refine wpAny_bind (wpAny_seqItems hS rfl ?_)
    show wpAny _ A.in1 (tryCatch (pyNext (.ref it)) _ >>= _) _ _ s
    refine wpAny_bind (wpAny_tryCatch (W.done s _ _ ⟨hit, hl⟩ fun h' tk hk' => ?_))
    have hS' := hk' S _ hSw hS
    show wpAny _ A.in1 (updateSeq S (fun _ => #[]) >>= _) _ _ _
    refine wpAny_bind ?_
    refine wpAny_updateSeq hS' rfl (wpAny_bind (wpAny_letGo (wpAny_pure ?_)))
    exact hR vb b _ tk hvb hbest fun b o hbi hbS e => (Heap.get?_update_other _ _ (Ne.symm hbS)).trans (hk' b o (fun h => hbi (List.mem_singleton.mp h)) e)
  | succ k ih =>
    intro j s vb c b hk hj hbj hvb hbest hit hl T hS hR
    have hlt : j < items.size := by omega
    refine codeAny_builtin PySem.F.entry_min_loop ?_
    rw [Around.under_plainId PySem.F.plain_min_loop _]
    show wpAny _ A.in1 (seqItems? (.ref S) >>= _) _ _ s
    refine wpAny_bind (wpAny_seqItems hS rfl ?_)
    show wpAny _ A.in1 (tryCatch (pyNext (.ref it)) _ >>= _) _ _ s
    refine wpAny_bind (wpAny_tryCatch (W.item j s _ _ hlt ⟨hit, hl⟩ fun v h' tk hv st hk' => ?_))
    have hS' := hk' S _ hSw hS
    have T' : MixAt nm h' items key := T.keep hit hS fun b o h1 h2 e => hk' b o (fun h => h1 (List.mem_singleton.mp h)) e
    show wpAny _ A.in1 (tryCatch (holding [v, v] (richCompare .Lt v vb >>= _)) _ >>= _) _ _ _
    refine wpAny_bind (wpAny_tryCatch (wpAny_holding (wpAny_bind (mx_cmp (s := { s with heap := h', toks := tk }) T' hu hv hvb ?_))))
    refine wpAny_bind (wpAny_holding (wpAny_truthy_bool ?_))
    refine wpAny_bind (wpAny_letGo (wpAny_pure ?_))
    cases hb : HT.lexLt (key j) (key b) with
    | true =>
      simp only [if_true]
      refine wpAny_bind ?_
      refine wpAny_updateSeq hS' rfl (wpAny_bind (wpAny_letGo ?_))
      rw [hname]
      have up : ∀ b o, b ≠ S → h'.get? b = some o → (h'.update S fun o => { o with data := (fun d => d) o.data }).get? b = h'.get? b := fun b o hb _ => Heap.get?_update_other _ _ (Ne.symm hb)
      refine wpAny_pure ⟨plainId_quiet PySem.F.plain_min_loop _, ih (j + 1) _ v _ j (by omega) hlt (Nat.lt_succ_self _) hv (fun i hi => ?_) (st.1.at fun o e => (Heap.get?_update_other _ _ hSi).trans e) (st.2.at fun o e => (Heap.get?_update_other _ _ hSl).trans e)
        (T'.keep st.1 hS' fun b o _ h2 e => (Heap.get?_update_other _ _ (Ne.symm h2)).trans e) (Heap.get?_update_self _ hS' rfl) fun v' b' h'' tk'' hv' hb' hk'' => ?_⟩
      · rcases Nat.lt_succ_iff_lt_or_eq.mp hi with h | h
        · cases q : HT.lexLt (key i) (key j) with
          | false => rfl
          | true => exact absurd (hbest i h) (by rw [lex_tr _ _ _ q hb]; exact fun c => nomatch c)
        · rw [h]; exact lex_irr _
      · exact hR v' b' h'' tk'' hv' hb' fun b o hbi hbS e => hk'' b o hbi hbS ((Heap.get?_update_other _ _ (Ne.symm hbS)).trans (hk' b o (fun h => hbi (List.mem_singleton.mp h)) e))
    | false =>
      simp only [Bool.false_eq_true, if_false]
      refine wpAny_bind (wpAny_letGo ?_)
      rw [hname]
      refine wpAny_pure ⟨plainId_quiet PySem.F.plain_min_loop _, ih (j + 1) _ vb c b (by omega) hlt (by omega) hvb (fun i hi => ?_) st.1 st.2 T' hS' fun v' b' h'' tk'' hv' hb' hk'' => ?_⟩
      · rcases Nat.lt_succ_iff_lt_or_eq.mp hi with h | h
        · exact hbest i h
        · rw [h]; exact hb
      · exact hR v' b' h'' tk'' hv' hb' fun b o hbi hbS e => hk'' b o hbi hbS (hk' b o (fun h => hbi (List.mem_singleton.mp h)) e)
theorem mx_first (hh : A.in1.handled = none) (hu : A.in1.units < cLine) (hli : l ≠ it) (hSi : S ≠ it) (hSl : S ≠ l) (hne : 0 < items.size) {s : Shared} {c : Nat} (hit : s.heap.IsListIter it l 0) (hl : s.heap.IsList l items) (T : MixAt nm s.heap items key)
    (hS : s.heap.get? S = some { cls := .type "list", dict := none, data := .seq #[] c, slots := #[] })
    (hR : ∀ v b h' tk, items[b]? = some v → (∀ i, i < items.size → HT.lexLt (key i) (key b) = false) → (∀ b o, b ≠ it → b ≠ S → s.heap.get? b = some o → h'.get? b = some o) → R (.ok (.ret v)) { s with heap := h', toks := tk }) :
    codeAny (model prog w) A (.builtin "min.loop" ⟨[.ref it, .none, .ref S], kw⟩) R s := by
  have W := Walks.list (prog := prog) (w := w) (A := A.in1) hh it l hli items
  have hname : (toString "min" ++ toString ".loop" : String) = "min.loop" := by decide
  have hSw : S ∉ [it] := fun h => hSi (List.mem_singleton.mp h)
  refine codeAny_builtin PySem.F.entry_min_loop ?_
  rw [Around.under_plainId PySem.F.plain_min_loop _]
  show wpAny _ A.in1 (seqItems? (.ref S) >>= _) _ _ s
  refine wpAny_bind (wpAny_seqItems hS rfl ?_)
  show wpAny _ A.in1 (tryCatch (pyNext (.ref it)) _ >>= _) _ _ s
  refine wpAny_bind (wpAny_tryCatch (W.item 0 s _ _ hne ⟨hit, hl⟩ fun v h' tk hv st hk' => ?_))
  have hS' := hk' S _ hSw hS
  have T' : MixAt nm h' items key := T.keep hit hS fun b o h1 h2 e => hk' b o (fun h => h1 (List.mem_singleton.mp h)) e
  show wpAny _ A.in1 (updateSeq S (fun _ => #[v, v]) >>= _) _ _ _
  refine wpAny_bind ?_
  refine wpAny_updateSeq hS' rfl ?_
  rw [hname]
  refine wpAny_pure ⟨plainId_quiet PySem.F.plain_min_loop _, mx_loop hh hu hli hSi hSl _ 1 _ v _ 0 rfl hne (Nat.lt_succ_self _) hv (fun i hi => ?_) (st.1.at fun o e => (Heap.get?_update_other _ _ hSi).trans e) (st.2.at fun o e => (Heap.get?_update_other _ _ hSl).trans e)
    (T'.keep st.1 hS' fun b o _ h2 e => (Heap.get?_update_other _ _ (Ne.symm h2)).trans e) (Heap.get?_update_self _ hS' rfl) fun v' b' h'' tk'' hv' hb' hk'' => ?_⟩
  · have e : i = 0 := by omega
    rw [e]; exact lex_irr _
  · exact hR v' b' h'' tk'' hv' hb' fun b o hbi hbS e => hk'' b o hbi hbS ((Heap.get?_update_other _ _ (Ne.symm hbS)).trans (hk' b o (fun h => hbi (List.mem_singleton.mp h)) e))
theorem mx_call {s : Shared} {Q E : Value → Shared → Prop} (hh : A.handled = none) (hu : A.units + 65 < cLine) (hk : kw = [] ∨ ∃ d, kw = [(Str.ofString "default", d)]) (hl : s.heap.IsList l items) (T : MixAt nm s.heap items key) (hne : 0 < items.size)
    (hQ : ∀ v b h' tk, items[b]? = some v → (∀ i, i < items.size → HT.lexLt (key i) (key b) = false) → (∀ b o, s.heap.get? b = some o → h'.get? b = some o) → Q v { s with heap := h', toks := tk }) : wpAny (model prog w) A (call (.builtin "min") [.ref l] kw) Q E s := by
  have hname : (toString "min" ++ toString ".loop" : String) = "min.loop" := by decide
  obtain ⟨ol, hol, _⟩ := id hl
  have hll : l < s.heap.objs.size := Heap.lt_size hol
  have ha : argsOk "min" ⟨[.ref l], kw⟩ := by
    rcases hk with rfl | ⟨d, rfl⟩
    · exact PySem.F.args_min1 _
    · unfold argsOk; kernel_rfl
  refine PyProof.Rows.kmb_tree PySem.F.kind_min PySem.F.plain_min PySem.F.entry_min ha ?_
  show wpAny _ A.in1 (Builtin.Builtins.bindParams "min" ["key", "default"] 0 ⟨[], kw⟩ >>= _) _ _ s
  obtain ⟨dd, e1, e2⟩ : ∃ dd : Option Value, Builtin.Builtins.bindParams "min" ["key", "default"] 0 ⟨[], kw⟩ = pure [none, dd] ∧ (dd.toList.map fun d => (Str.ofString "default", d)) = kw := by
    rcases hk with rfl | ⟨d, rfl⟩
    · exact ⟨none, rfl, rfl⟩
    · exact ⟨some d, rfl, rfl⟩
  refine wpAny_bind (wpAny_of_eq e1 ?_)
  refine wpAny_bind (wpAny_pure ?_)
  refine wpAny_bind (wpAny_pyIter_list hl ?_)
  refine wpAny_bind (wpAny_newList ?_ (Nat.zero_le _))
  rw [hname]
  rw [e2]
  have hlI : l ≠ s.heap.objs.size := Nat.ne_of_lt hll
  have hSz : (s.heap.push { cls := .type "list_iterator", data := .fields #[.ref l, .int 0 0] }).objs.size = s.heap.objs.size + 1 := Heap.size_push ..
  have hSI : (s.heap.push { cls := .type "list_iterator", data := .fields #[.ref l, .int 0 0] }).objs.size ≠ s.heap.objs.size := by rw [hSz]; exact Nat.ne_of_gt (Nat.lt_succ_self _)
  have hSl : (s.heap.push { cls := .type "list_iterator", data := .fields #[.ref l, .int 0 0] }).objs.size ≠ l := by rw [hSz]; exact Nat.ne_of_gt (Nat.lt_succ_of_lt hll)
  refine wpAny_pure ⟨plainId_quiet PySem.F.plain_min_loop _, mx_first (nm := nm) (it := s.heap.objs.size) (l := l) (S := (s.heap.push { cls := .type "list_iterator", data := .fields #[.ref l, .int 0 0] }).objs.size) (items := items) (key := key) hh (by show A.units + 1 < cLine; omega) hlI hSI hSl hne ⟨_, Heap.get?_push_of_some _ (Heap.get?_push_size _ rfl), rfl, rfl⟩ (hl.at fun o e => Heap.get?_push_of_some _ (Heap.get?_push_of_some _ e)) (fun i v hv => ?_) (Heap.get?_push_size _ rfl) fun v b h' tk hv hb hk' => ?_⟩
  · obtain ⟨a, its, e, ⟨o, ho, r⟩, hi⟩ := T i v hv
    exact ⟨a, its, e, ⟨o, Heap.get?_push_of_some _ (Heap.get?_push_of_some _ ho), r⟩, hi⟩
  · exact hQ v b h' tk hv hb fun b o e => hk' b o (Nat.ne_of_lt (Heap.lt_size e)) (by rw [hSz]; exact Nat.ne_of_lt (Nat.lt_succ_of_lt (Heap.lt_size e))) (Heap.get?_push_of_some _ (Heap.get?_push_of_some _ e))
end
section
variable {X : Cx}
/-- min(xs) of tuples of a sign and one or two ints -/
def rMinMx (K : PySem.W.Frag) : List V → Hp → VK → Prop := fun vs H Q => ∃ (a : Addr) (xs : List V) (n : Nat) (kc : Nat → Nat) (kn : Nat → List Int), vs = [V.ref a] ∧ SqL K H a xs ∧ xs ≠ [] ∧ (n = 1 ∨ n = 2) ∧ (∀ i x, xs[i]? = some x → ∃ t, x = V.ref t ∧ SqT K H t (.str ⟨#[kc i]⟩ :: (kn i).map V.int) ∧ (kn i).length = n) ∧
  ∀ b x, xs[b]? = some x → (∀ i, i < xs.length → HT.lexLt ((kc i : Int) :: kn i) ((kc b : Int) :: kn b) = false) → Q x H
theorem mix_of {n c : Nat} {ns : List Int} {us : List Value} (hn : n = 1 ∨ n = 2) (hl : ns.length = n) (r : Vals (V.str ⟨#[c]⟩ :: ns.map V.int) us) : MixAre (n + 1) us.toArray ((c : Int) :: ns) := by
  rcases hn with rfl | rfl
  · obtain ⟨i, rfl⟩ : ∃ i, ns = [i] := List.length_eq_one_iff.mp hl
    obtain ⟨u1, u2, rfl, r1, r2⟩ := vals2 r
    obtain ⟨t1, rfl⟩ := r1
    obtain ⟨t2, rfl⟩ := r2
    exact .two c i t1 t2
  · obtain ⟨i, k, rfl⟩ : ∃ i k, ns = [i, k] := by
      match ns, hl with
      | [i, k], _ => exact ⟨i, k, rfl⟩
    cases r with
    | cons r1 r =>
      obtain ⟨u2, u3, rfl, r2, r3⟩ := vals2 r
      obtain ⟨t1, rfl⟩ := r1
      obtain ⟨t2, rfl⟩ := r2
      obtain ⟨t3, rfl⟩ := r3
      exact .three c i k t1 t2 t3
theorem cr_minMx (hc : X.calm = true) (hu : X.A.units + 65 < cLine) : CallR X (.builtin "min") (rMinMx X.K) := by
  intro pins s σ H vs us Q I r h
  obtain ⟨a, xs, n, kc, kn, rfl, hs, hne, hn, ht, q⟩ := h
  obtain ⟨its, rv, hl, _⟩ := I.list hs
  rw [Vals.ref1 r]
  have ln := rv.length
  have T : MixAt (n + 1) s.heap its.toArray (fun i => (kc i : Int) :: kn i) := fun i v hv => by
    have hv' : its[i]? = some v := by simpa using hv
    have hlt := (List.getElem?_eq_some_iff.mp hv').1
    have hx : xs[i]? = some (xs[i]'(by omega)) := List.getElem?_eq_getElem (by omega)
    obtain ⟨t, e, htt, hk⟩ := ht i _ hx
    obtain ⟨u, hu, ru⟩ := rv.get hx
    rw [hv'] at hu
    cases hu
    rw [e] at ru
    obtain rfl : v = Value.ref t := ru
    obtain ⟨its2, r2, p2, _⟩ := I.tuple htt
    exact ⟨t, _, rfl, p2, mix_of hn hk r2⟩
  refine mx_call (I.ok.hd hc) hu (.inl rfl) hl.isList T ?_ fun v b h' tk hv hb hk => ?_
  · rw [List.size_toArray, ← ln]
    exact List.length_pos_iff.mpr hne
  · have hv' : its[b]? = some v := by simpa using hv
    have hlt := (List.getElem?_eq_some_iff.mp hv').1
    have hx : xs[b]? = some (xs[b]'(by omega)) := List.getElem?_eq_getElem (by omega)
    obtain ⟨u, hu', ru⟩ := rv.get hx
    rw [hv'] at hu'
    cases hu'
    exact ⟨_, H, I.kept hk, ru, q b _ hx fun i hi => hb i (by rw [List.size_toArray, ← ln]; exact hi)⟩
end
end My
namespace My
open PySem PySem.Spec PyProof.Rows L2
/-! ### a tuple or a text, from its end: x[::-1] -/
section
variable {prog : Program} {w : World} {A : Around} {E : Value → Shared → Prop} {s : Shared}
theorem rv_adjust (n : Nat) : Builtin.Slice.sliceAdjust none none (-1) (n : Int) = ((n : Int) - 1, -1) := rfl
theorem rv_places (n : Nat) : Builtin.Slice.slicePlaces ((n : Int) - 1) (-1) (-1) = n := by
  unfold Builtin.Slice.slicePlaces
  have no : ¬ ((-1 : Int) > 0) := by omega
  have one : (- -1 : Int) = 1 := rfl
  rw [if_neg no, one, Int.ediv_one]
  split <;> omega
theorem fm_congr {α β : Type} {f g : α → Option β} : ∀ (l : List α), (∀ m ∈ l, f m = g m) → l.filterMap f = l.filterMap g
  | [], _ => rfl
  | m :: l, h => by
    have h1 := h m (List.mem_cons_self ..)
    have h2 := fm_congr l fun x hx => h x (List.mem_cons_of_mem _ hx)
    rw [List.filterMap_cons, List.filterMap_cons, h1, h2]
theorem rv_pick (xs : Array Value) : ((List.range xs.size).filterMap fun (m : Nat) => xs[(((xs.size : Int) - 1) + (m : Int) * -1).toNat]?).toArray = xs.toList.reverse.toArray := by
  have e1 : ((List.range xs.size).filterMap fun (m : Nat) => xs[(((xs.size : Int) - 1) + (m : Int) * -1).toNat]?) = ((List.range xs.size).map fun m => xs.size - 1 - m).filterMap (xs[·]?) := by
    rw [List.filterMap_map]
    refine fm_congr _ fun m hm => ?_
    have lt := List.mem_range.mp hm
    have e2 : (((xs.size : Int) - 1) + (m : Int) * -1).toNat = xs.size - 1 - m := by omega
    rw [e2]
    rfl
  rw [e1, PySem.W.krv_range, List.filterMap_reverse, PySem.W.krv_all]
theorem rv_applied {sl : Addr} {step : Value} {n : Nat} {Q : Int × Int × Nat → Shared → Prop} (isS : s.heap.IsSliceOf sl .none .none step) (pS : IsPart step (some (-1))) (fin : Q ((n : Int) - 1, -1, n) s) : wpAny (model prog w) A (Builtin.Slice.sliceApplied (.ref sl) (pure (n : Int))) Q E s := by
  obtain ⟨ob, ob1, ob2, ob3⟩ := id isS
  unfold Builtin.Slice.sliceApplied Builtin.Slice.sliceFields
  refine wpAny_bind (wpAny_bind (wpAny_field ob1 ob3 (x := .none) rfl ?_))
  refine wpAny_bind (wpAny_field ob1 ob3 (x := .none) rfl ?_)
  refine wpAny_bind (wpAny_field ob1 ob3 (x := step) rfl ?_)
  refine wpAny_pure (wpAny_bind (HT.slicePart_ pS ?_))
  show wpAny _ _ (if ((-1 : Int) == 0) = true then _ else _) _ _ s
  rw [if_neg (by decide)]
  refine wpAny_bind (HT.slicePart_ IsPart.none ?_)
  refine wpAny_bind (HT.slicePart_ IsPart.none ?_)
  refine wpAny_bind (wpAny_pure ?_)
  show wpAny _ _ (pure ((n : Int) - 1, (-1 : Int), Builtin.Slice.slicePlaces ((n : Int) - 1) (-1) (-1))) _ _ s
  rw [rv_places]
  exact wpAny_pure fin
theorem rv_tuple {t sl : Addr} {xs : Array Value} {step : Value} {Q : Value → Shared → Prop} (isT : IsTup s.heap t xs) (isS : s.heap.IsSliceOf sl .none .none step) (pS : IsPart step (some (-1))) (sz : xs.size ≤ sizeLine)
    (fin : Q (.ref s.heap.objs.size) { s with heap := s.heap.push { cls := .type "tuple", data := .seq xs.toList.reverse.toArray } }) : wpAny (model prog w) A (getItem (.ref t) (.ref sl)) Q E s := by
  have fits : sizeOk (.seq xs.toList.reverse.toArray) := by
    show xs.toList.reverse.toArray.size ≤ sizeLine
    rw [List.size_toArray, List.length_reverse]
    exact sz
  obtain ⟨ob, ob1, ob2, ob3⟩ := id isS
  have tyS : s.TypeIs (.ref sl) "slice" := ⟨ob, ob1, ob2⟩
  unfold getItem
  try with_reducible apply wpAny_holding
  try apply wpAny_bind (wpAny_pure _)
  refine wpAny_bind (wpAny_sequenceKey isT.typeIs (by decide) ?_)
  refine wpAny_bind (wpAny_callSpecial?_slot (name := Str.ofString "__getitem__") isT.typeIs PyProof.Rows.slot_tuple_getitem (wpAny_call_entry PyProof.Rows.slot_tuple_getitem isT.typeIs entry_tuple_getitem ?_ (args_tuple_getitem _ _)))
  show wpAny _ _ (Builtin.Tuple.tupleItemsOf (.ref t) >>= _) _ _ _
  refine wpAny_bind (tupleItemsOf_ isT ?_)
  refine wpAny_bind (wpAny_typeOf tyS ?_)
  rw [if_pos (by decide)]
  refine wpAny_bind (rv_applied isS pS ?_)
  have no : ¬ ((((xs.size : Int) - 1 == 0) && ((-1 : Int) == 1) && (xs.size == xs.size)) = true) := by
    intro c
    rw [Bool.and_eq_true, Bool.and_eq_true] at c
    exact absurd c.1.2 (by decide)
  show wpAny _ _ (if ((((xs.size : Int) - 1 == 0) && ((-1 : Int) == 1) && (xs.size == xs.size)) = true) then _ else _) _ _ _
  rw [if_neg no, rv_pick]
  first
    | exact wpAny_bind (m := Builtin.Tuple.tupleExact _) (wpAny_newObj_type (wpAny_pure ⟨_, rfl, wpAny_pure fin⟩) fits)
    | exact wpAny_bind (m := Builtin.Tuple.tupleExact _) (wpAny_newObj_type (wpAny_bind (wpAny_pure (wpAny_pure ⟨_, rfl, wpAny_pure fin⟩))) fits)
    | exact wpAny_bind (wpAny_bind (m := Builtin.Tuple.tupleExact _) (wpAny_newObj_type (wpAny_pure (wpAny_pure ⟨_, rfl, wpAny_pure fin⟩)) fits))
    | exact wpAny_bind (wpAny_bind (m := Builtin.Tuple.tupleExact _) (wpAny_newObj_type (wpAny_pure ⟨_, rfl, wpAny_pure fin⟩) fits))
end
section
variable {X : Cx}
/-- what x[::-1] gives of x -/
def RvR (X : Cx) (r : V → Hp → VK → Prop) : Prop := ∀ (pns : List (Addr × Obj)) (s : Shared) (σ : L2.St) (H : Hp) (x : V) (u st : Value) (sl : Addr) (Q : VK), Inv X pns σ H s → RelV x u → s.heap.IsSliceOf sl .none .none st → IsPart st (some (-1)) → r x H Q →
  ∃ T id, typeLookup (.type T) "__getitem__" = pure (some (.builtin id)) ∧ s.TypeIs u T ∧ wpAny (model X.prog X.w) X.A (getItem u (.ref sl)) (EP X pns σ Q) X.xe s
def tRv (r : V → Hp → VK → Prop) (te : TE) : TE := fun σ H Q => te σ H fun x H1 => r x H1 Q
theorem pe_rev {r : V → Hp → VK → Prop} (hr : RvR X r) {e : Expr} {te : TE} {k : Nat} {p1 p2 p3 pos : Pos} (ee : PE X e te) : PE X (.Subscript e (.Slice none none (some (.UnaryOp .USub (.Constant (.int 1) k p1) p2)) p3) pos) (tRv r te) := by
  constructor
  intro pns s0 σ H Q Iv hh
  refine Subscript_ (thn (ee.run pns s0 σ H _ Iv hh) ?_)
  rintro u s1 ⟨x, H1, I1, r1, q1⟩
  have less : PO X (some (.UnaryOp .USub (.Constant (.int 1) k p1) p2)) (tPart (tUn (rU fun i => .int (-i)) (tC (.int 1)))) := po_some (pe_un un_neg pe_int)
  refine wpAny_Slice (thn (po_none.run pns s1 σ H1 (fun o Hx => o = none ∧ Hx = H1) I1 ⟨rfl, rfl⟩) ?_)
  rintro ul s2 ⟨l, H2, I2, pl, el, e2⟩
  subst el e2
  refine thn (po_none.run pns s2 σ H2 (fun o Hx => o = none ∧ Hx = H2) I2 ⟨rfl, rfl⟩) ?_
  rintro uh s3 ⟨h, H3, I3, ph, eh, e3⟩
  subst eh e3
  refine thn (less.run pns s3 σ H3 (fun o Hx => o = some (-1) ∧ Hx = H3) I3 ⟨1, rfl, -1, rfl, rfl, rfl⟩) ?_
  rintro us s4 ⟨o, H4, I4, pz, eo, e4⟩
  subst eo e4
  cases pl
  cases ph
  have I5 : Inv X pns σ H4 { s4 with heap := s4.heap.push { cls := .type "slice", data := .fields #[.none, .none, us] } } := I4.kept (t' := s4.toks) fun b ob z => Heap.get?_push_of_some _ z
  obtain ⟨T, id, hT, ht, hg⟩ := hr pns { s4 with heap := s4.heap.push { cls := .type "slice", data := .fields #[.none, .none, us] } } σ H4 x u us s4.heap.objs.size Q I5 r1 (Heap.IsSliceOf.new ..) pz q1
  exact tail_any (ops := [u, .ref s4.heap.objs.size]) ht hT hg (by with_unfolding_all rfl)
def rRvT (K : PySem.W.Frag) : V → Hp → VK → Prop := fun x H Q => ∃ a xs, x = .ref a ∧ SqT K H a xs ∧ ∀ p, H p = none → Q (.ref p) (upd H p (.tup xs.reverse))
theorem rv_tup {K : PySem.W.Frag} (hK : X.K = K) : RvR X (rRvT K) := by
  subst hK
  intro pns s σ H x u st sl Q Iv rx hs ps h
  obtain ⟨a, xs, rfl, hx, q⟩ := h
  cases rx
  obtain ⟨its, r, ht, hz⟩ := Iv.tuple hx
  have hl : its.toArray.size = xs.length := by rw [List.size_toArray]; exact r.length.symm
  refine ⟨"tuple", _, PyProof.Rows.slot_tuple_getitem.lookup, ht.typeIs, rv_tuple ht hs ps (by rw [hl]; exact hz) ?_⟩
  refine ⟨.ref s.heap.objs.size, _, Iv.laid (t' := s.toks) (o := .tup xs.reverse) (fun b ob z => Heap.get?_push_of_some _ z) (Nat.le_refl _) ?_, rfl, q _ (Iv.hok.fresh (Nat.le_refl _))⟩
  exact ⟨by rw [List.length_reverse]; exact hz, _, r.reverse, IsTup.new _ _⟩
theorem pe_bmB {K : PySem.W.Frag} (hK : X.K = K) {o e : Expr} {es : List Expr} {to : TE} {t : TA} {name : Str} {apos cpos : Pos} {T id : String} {r : V → List V → Hp → VK → Prop} (pa : PlainAttrs T) (sl : Slot T name id) (ty : typeOf (.builtin id) = pure (.type "method_descriptor")) (mt : MtR X id r) (ho : PE X o to) (ha : PA X (e :: es) t)
    (h1 : attributeBase o name X.env (eval o X.env) = eval o X.env := by rfl) (h2 : (((backTo cpos (starEach (e :: es) X.env)).all fun x => !x.fst) && (backToKw cpos (keywordEach [] X.env)).all (fun x => x.fst.isSome) && decide (((e :: es).length + ([] : List Keyword).length + if ([] : List Keyword).isEmpty = true then 0 else 1) < 30)) = true := by rfl) (h3 : (apos.endLine == cpos.line) = true := by rfl)
    (h4 : starEach (e :: es) X.env = (false, eval e X.env) :: starEach es X.env := by rfl) (h5 : ((backTo cpos (starEach es X.env)).any fun x => x.fst) = false := by rfl) : PE X (.Call (.Attribute o name apos) (e :: es) [] cpos) (tBM K T r to t) := by
  subst hK
  exact pe_bm pa sl ty mt ho ha h1 h2 h3 h4 h5
def revS (z : Str) : Str := ⟨z.cps.toList.reverse.toArray⟩
theorem revS_cps (z : Str) : (revS z).cps.toList = z.cps.toList.reverse := by
  show z.cps.toList.reverse.toArray.toList = _
  simp
theorem revS_picked (z : Str) (t : Tok) : ((PySem.slicePicked z none none (some (-1, t))).filterMap (z.cps[·]?)).toArray = z.cps.toList.reverse.toArray := by
  show ((Builtin.Str.strSliceIndices none none (-1) z.length).filterMap (z.cps[·]?)).toArray = _
  rw [picked_rev]
  show (((List.range z.cps.size).map fun k => z.cps.size - 1 - k).filterMap (z.cps[·]?)).toArray = _
  rw [PySem.W.krv_range, List.filterMap_reverse, PySem.W.krv_all]
def rRvS : V → Hp → VK → Prop := fun x H Q => ∃ z : Str, x = .str z ∧ z.length ≤ sizeLine ∧ Q (.str (revS z)) H
theorem rv_str : RvR X rRvS := by
  intro pns s σ H x u st sl Q Iv rx hs ps h
  obtain ⟨z, rfl, hz, q⟩ := h
  obtain ⟨t, rfl⟩ := rx
  obtain ⟨ob, ob1, ob2, ob3⟩ := hs
  cases ps with
  | int i ts =>
  refine ⟨"str", _, F.slot_str_getitem.lookup, typeIs_str _ _ _, ?_⟩
  refine wpAny_getItem_str_slice (l := none) (u := none) (st := some (-1, ts)) ⟨ob, ob1, ob2, ob3⟩ rfl ?_
  have e : sliceMade z t none none (some (-1, ts)) = .str (revS z) := by
    unfold sliceMade
    rw [if_neg (by
      intro c
      rw [Bool.and_eq_true] at c
      exact absurd (show ((-1 : Int) == 1) = true from c.1) (by decide)), revS_picked]
    rfl
  rw [e]
  refine ⟨?_, .str _, H, Iv.tok _, ⟨_, rfl⟩, q⟩
  have e2 : (revS z).length = z.length := by
    have e3 : (revS z).length = (revS z).cps.toList.length := Array.length_toList.symm
    have e4 : z.length = z.cps.toList.length := Array.length_toList.symm
    rw [e3, e4, revS_cps, List.length_reverse]
  rw [e2]
  exact hz
end
end My
namespace My
open PySem PySem.Spec PyProof.Rows L2
/-! ### sorted() of a list of alike data: what stands in the list is told by a list of anything -/
theorem vals_each {β : Type} {val : β → V} : ∀ {bs : List β} {us : List Value}, Vals (bs.map val) us → PySem.W.EachIs (fun u b => RelV (val b) u) us bs
  | [], _, h => by
    cases h
    exact .nil
  | b :: bs, _, h => by
    rw [List.map_cons] at h
    cases h with
    | cons r t => exact .cons r (vals_each t)
theorem each_vals {β : Type} {val : β → V} : ∀ {bs : List β} {us : List Value}, PySem.W.EachIs (fun u b => RelV (val b) u) us bs → Vals (bs.map val) us
  | _, _, .nil => .nil
  | _, _, .cons r t => .cons r (each_vals t)
theorem each_read {β : Type} {R S : Value → β → Prop} : ∀ {us : List Value} {bs : List β}, (∀ u b, b ∈ bs → R u b → S u b) → PySem.W.EachIs R us bs → PySem.W.EachIs S us bs
  | _, _, _, .nil => .nil
  | _, _, h, .cons r t => .cons (h _ _ List.mem_cons_self r) (each_read (fun u b hb => h u b (List.mem_cons_of_mem _ hb)) t)
theorem dataLe_trans {β : Type} (enc : β → PyData) (a b c : β) (h1 : PySem.W.dataLe false enc a b = true) (h2 : PySem.W.dataLe false enc b c = true) : PySem.W.dataLe false enc a c = true := by
  rw [PySem.W.dataLe_eq] at h1 h2 ⊢
  simp only [cond_false, Bool.not_eq_true'] at h1 h2 ⊢
  cases h : PySem.W.dataLt (enc c) (enc a) with
  | false => rfl
  | true =>
    rcases PyProof.Rows.lex_negTrans _ (PySem.W.keyToks (enc b)) _ h with h3 | h3
    · exact absurd (h2.symm.trans h3) (by decide)
    · exact absurd (h1.symm.trans h3) (by decide)
theorem dataLt_asymm {x y : PyData} (h : PySem.W.dataLt x y = true) : PySem.W.dataLt y x = false := by
  cases h2 : PySem.W.dataLt y x with
  | false => rfl
  | true =>
    have h3 := PyProof.Rows.lex_trans _ _ _ h h2
    exact absurd ((PyProof.Rows.lex_irrefl _).symm.trans h3) (by decide)
theorem dataLe_total {β : Type} (enc : β → PyData) (a b : β) : (PySem.W.dataLe false enc a b || PySem.W.dataLe false enc b a) = true := by
  rw [PySem.W.dataLe_eq]
  simp only [cond_false]
  cases h : PySem.W.dataLt (enc b) (enc a) with
  | false => rfl
  | true => rw [dataLt_asymm h]; rfl
def rSortedP (K : PySem.W.Frag) : List V → Hp → VK → Prop := fun vs H Q => ∃ (a : Addr) (β : Type) (bs : List β) (val : β → V) (enc : β → PyData), vs = [V.ref a] ∧ SqL K H a (bs.map val) ∧ (∀ b ∈ bs, Dp K H (val b) (enc b)) ∧ PySem.W.AllAlike (bs.map enc) ∧ PySem.W.Sortable (bs.map enc) ∧ (∀ b ∈ bs, (enc b).depth ≤ 40) ∧
  ∀ cs p, List.Perm cs bs → cs.Pairwise (fun x y => PySem.W.dataLt (enc y) (enc x) = false) → H p = none → Q (.ref p) (upd H p (.lst (cs.map val)))
theorem cr_sortedP {X : Cx} (hu : X.A.units + 64 < cLine) : CallR X (.builtin "sorted") (rSortedP X.K) := by
  intro pins s σ H vs us Q I r h
  obtain ⟨a, β, bs, val, enc, rfl, hs, hd, hal, hso, hdp, q⟩ := h
  obtain ⟨its, rv, hl, hz⟩ := I.list hs
  obtain ⟨u, rfl, ru⟩ := vals1 r
  obtain rfl : u = Value.ref a := ru
  have e := vals_each rv
  have er : PySem.W.EachIs (fun u b => ∃ as, Reads s.heap u (enc b) as) its bs := each_read (fun u b hb hr => Dp.reads I (enc b) _ u (hd b hb) hr) e
  have hL : bs.length ≤ sizeLine := by rw [List.length_map] at hz; exact hz
  refine PySem.W.sorted_data hl.isList e er hal hso hL (fun b hb => ?_) fun out ho eo => ?_
  · have := hdp b hb
    omega
  · have hp : (bs.mergeSort (PySem.W.dataLe false enc)).Perm bs := List.mergeSort_perm _ _
    have hw : (bs.mergeSort (PySem.W.dataLe false enc)).Pairwise (fun x y => PySem.W.dataLt (enc y) (enc x) = false) := by
      refine (List.pairwise_mergeSort (dataLe_trans enc) (dataLe_total enc) bs).imp fun {x y} h => ?_
      rw [PySem.W.dataLe_eq] at h
      simpa using h
    obtain ⟨n, hn⟩ := PyProof.Rows.sortedAll_at s.heap its out.toArray
    refine ⟨.ref _, upd H (s.heap.objs.size + 1) (.lst ((bs.mergeSort (PySem.W.dataLe false enc)).map val)), I.laid (t' := s.toks) (fun _ _ => PyProof.Rows.sortedAll_old) (Nat.le_succ _) ⟨?_, out, n, each_vals eo, hn⟩, rfl, q _ _ hp hw (I.hok.fresh (Nat.le_succ _))⟩
    rw [List.length_map, hp.length_eq]
    exact hL
end My
namespace My
open PySem PySem.Spec PyProof.Rows L2
def topS (i : Nat) : Stmt := PySem.Challenge.pw_nodoubt_k17_whole_first_doubts.main.body.getD i (.Pass ⟨0, 0, 0, 0⟩)
abbrev s_steps_of : Stmt := topS 5
abbrev s__ends_of : Stmt := topS 6
abbrev s__ends_of_leaf : Stmt := topS 7
abbrev s__ends_of_join : Stmt := topS 8
abbrev s__ends_of_or : Stmt := topS 9
abbrev s__link : Stmt := topS 10
abbrev s_by_letter : Stmt := topS 11
abbrev s_is_long : Stmt := topS 15
abbrev s_is_letter : Stmt := topS 16
abbrev s_check_long : Stmt := topS 17
abbrev s_sizes_within : Stmt := topS 18
abbrev s__parts_of : Stmt := topS 19
abbrev s__is_row : Stmt := topS 20
abbrev s__begins_with : Stmt := topS 21
abbrev s_is_sure : Stmt := topS 24
abbrev s_has_conflict : Stmt := topS 25
abbrev s__nodes : Stmt := topS 26
abbrev s__near : Stmt := topS 27
abbrev s__pairs_behind : Stmt := topS 28
abbrev s_first_doubt : Stmt := topS 29
abbrev s_doubt_word : Stmt := topS 30
abbrev s__first_doubt : Stmt := topS 31
abbrev s__levels : Stmt := topS 32
abbrev s__law_stream : Stmt := topS 34
abbrev s__law_next : Stmt := topS 35
abbrev s__law_is_integer : Stmt := topS 36
abbrev s__law_equal : Stmt := topS 37
abbrev s__law_row : Stmt := topS 38
abbrev s__law_expression : Stmt := topS 39
abbrev s__law_letters : Stmt := topS 40
abbrev s__law_parts : Stmt := topS 41
abbrev s__law_ends : Stmt := topS 42
abbrev s__law_is_marking : Stmt := topS 43
abbrev s__law_tables : Stmt := topS 44
abbrev s__law_behind : Stmt := topS 45
abbrev s__law_word : Stmt := topS 46
abbrev s__law_walked : Stmt := topS 47
abbrev s__law_follow : Stmt := topS 48
abbrev s__law_pairs : Stmt := topS 49
abbrev s__law_conflicts : Stmt := topS 50
abbrev s__law_begins : Stmt := topS 51
abbrev s__law_doubt : Stmt := topS 52
abbrev s_law : Stmt := topS 53
abbrev s_BadValue___init__ : Stmt := inClass (topS 2) 0
abbrev s_Steps___init__ : Stmt := inClass (topS 4) 0
theorem boot_isinstance : bootBuiltins "isinstance" = some (.builtin "isinstance") := by decide +kernel
theorem boot_all : bootBuiltins "all" = some (.builtin "all") := by decide +kernel
theorem boot_any : bootBuiltins "any" = some (.builtin "any") := by decide +kernel
theorem boot_sum : bootBuiltins "sum" = some (.builtin "sum") := by decide +kernel
theorem boot_len : bootBuiltins "len" = some (.builtin "len") := by decide +kernel
theorem boot_abs : bootBuiltins "abs" = some (.builtin "abs") := by decide +kernel
theorem boot_min : bootBuiltins "min" = some (.builtin "min") := by decide +kernel
theorem boot_max : bootBuiltins "max" = some (.builtin "max") := by decide +kernel
theorem boot_int : bootBuiltins "int" = some (.type "int") := by decide +kernel
theorem boot_str : bootBuiltins "str" = some (.type "str") := by decide +kernel
theorem boot_bool : bootBuiltins "bool" = some (.type "bool") := by decide +kernel
theorem boot_list : bootBuiltins "list" = some (.type "list") := by decide +kernel
theorem boot_tuple : bootBuiltins "tuple" = some (.type "tuple") := by decide +kernel
/-- the built-ins' names as the module leaves them, its constants -/
structure Bt (K : PySem.W.Frag) (mg : Str → Option Value) (a_BOUNDS a_LONG_BOUNDS : Addr) (tL tM : Tok) : Prop where
  b_ValueError : mg "ValueError" = none
  b_abs : mg "abs" = none
  b_all : mg "all" = none
  b_any : mg "any" = none
  b_bool : mg "bool" = none
  b_enumerate : mg "enumerate" = none
  b_int : mg "int" = none
  b_isinstance : mg "isinstance" = none
  b_len : mg "len" = none
  b_list : mg "list" = none
  b_max : mg "max" = none
  b_min : mg "min" = none
  b_range : mg "range" = none
  b_reversed : mg "reversed" = none
  b_sorted : mg "sorted" = none
  b_str : mg "str" = none
  b_super : mg "super" = none
  b_tuple : mg "tuple" = none
  g_LETTERS : mg "LETTERS" = some (.str "abcd" tL)
  g_LONG_BOUNDS : mg "LONG_BOUNDS" = some (.ref a_LONG_BOUNDS)
  tG : ∀ H : Hp, SqT K H a_LONG_BOUNDS [.int 40, .int 40, .int 200]
  e_BEGIN : ∃ t, mg "BEGIN" = some (.int (-1) t)
section
variable {P : Program} {w : World} {K : PySem.W.Frag} {mg : Str → Option Value} {base : Heap} {a_BOUNDS a_LONG_BOUNDS : Addr} {tL tM : Tok}
abbrev N__law_stream : List Str := ["script"]
theorem sc__law_stream : FnScope ["script"] ["script"] (defScope s__law_stream) := ⟨rfl, rfl, rfl, by decide +kernel, rfl, by decide +kernel, by decide +kernel⟩
theorem ok_stream {f : Addr} {fd : FuncData} (B : Bt K mg a_BOUNDS a_LONG_BOUNDS tL tM) (D : Df K mg "_law_stream" s__law_stream ["script"] f fd) : FnOk P w K mg base CX0 1 f fd ["script"] (spStream K) := by
  refine D.F.ok sc__law_stream (fun vs H Q E h => ?_) (fun cdv A outer s H vs Q E hr h => ?_)
  · obtain ⟨a, ns, rfl, _⟩ := h
    rfl
  obtain ⟨a, ns, rfl, hS, h63, q⟩ := h
  refine ⟨_, (pss_one (ps_ret (pe_lst (pa_cons (pe_callTy call_list_of rfl B.b_list boot_list (pa_cons (pv 0) pa_nil)) (pa_cons pe_int (pa_cons pe_int pa_nil)))))), ?_⟩
  refine ⟨_, rfl, a, _, rfl, .inl hS, fun l hl => ⟨by show 3 ≤ sizeLine; decide, fun p hp => ?_⟩⟩
  have n : l ≠ p := fun e => by
    rw [← e, upd_same] at hp
    cases hp
  exact q p _ ((same_upd hl).trans (same_upd hp)) ((same_upd hl).free hp) ⟨l, 0, 0, ns, upd_same, by rw [upd_ne n]; exact upd_same, n, Int.le_refl 0⟩
abbrev N__law_next : List Str := ["stream", "many", "k", "cell", "digit"]
theorem sc__law_next : FnScope ["stream", "many", "k", "cell", "digit"] ["stream", "many"] (defScope s__law_next) := ⟨rfl, rfl, rfl, by decide +kernel, rfl, by decide +kernel, by decide +kernel⟩
theorem ok_next {f : Addr} {fd : FuncData} (B : Bt K mg a_BOUNDS a_LONG_BOUNDS tL tM) (D : Df K mg "_law_next" s__law_next ["stream", "many"] f fd) : FnOk P w K mg base CX0 1 f fd ["stream", "many"] spNext := by
  refine D.F.ok sc__law_next (fun vs H Q E h => ?_) (fun cdv A outer s H vs Q E hr h => ?_)
  · obtain ⟨a, m, rfl, _⟩ := h
    rfl
  obtain ⟨a, m, rfl, hS, hm0, hm1, q⟩ := h
  obtain ⟨l, c, k, ns, h1, h2, h3, h4⟩ := id hS
  refine ⟨_, (C8.pss_cut (ps_if (pt_cmpR op_eq (pe_ix (r := rIxL K) ix_list (pv 0) pe_int (fun _ _ => rfl)) pe_int (nomark _)) (pss_cons (ps_set (i := 2) sc__law_next.nd rfl (Or.inl rfl) (pe_ix (r := rIxL K) ix_list (pv 0) pe_int (fun _ _ => rfl)))
    (pss_cons (ps_set (i := 3) sc__law_next.nd rfl (Or.inl rfl) (pe_op op_add pe_int (pv 2)))
    (C8.pss_cut (ps_if (pt_cmpR op_lt (pv 2) (pe_callB call_len rfl B.b_len boot_len (pa_cons (pe_ix (r := rIxL K) ix_list (pv 0) pe_int (fun _ _ => rfl)) pa_nil)) (nomark _)) (pss_one (ps_set (i := 3) sc__law_next.nd rfl (Or.inl rfl) (pe_callB call_abs rfl B.b_abs boot_abs (pa_cons (pe_ix (r := rIxL K) ix_list (pe_ix (r := rIxL K) ix_list (pv 0) pe_int (fun _ _ => rfl)) (pv 2) (fun _ _ => rfl)) pa_nil)))) pss_nil)
    (C8.pss_cut (ps_if (pt_cmpR op_lt (pv 3) (pe_op op_pow pe_int pe_int) (nomark _)) (pss_cons (ps_set (i := 3) sc__law_next.nd rfl (Or.inl rfl) (pe_op op_mod (pe_callTy call_int1 rfl B.b_int boot_int (pa_cons (pe_op op_add (pe_op op_add (pe_op op_mul (pv 3) pe_int) (pe_op op_mul (pv 2) pe_int)) pe_int) pa_nil)) pe_int))
    (pss_one (ps_set (i := 3) sc__law_next.nd rfl (Or.inl rfl) (pe_op op_add (pe_op op_mul (pe_op op_mod (pe_callTy call_int1 rfl B.b_int boot_int (pa_cons (pe_op op_add (pe_op op_mul (pv 3) pe_int) pe_int) pa_nil)) pe_int) pe_int) (pv 3))))) pss_nil)
    (pss_cons (ps_asg (pv 3) (pg_sub (pv 0) pe_int set_list))
    (pss_one (ps_asg (pe_op op_add (pv 2) pe_int) (pg_sub (pv 0) pe_int set_list)))))))) pss_nil)
    (pss_cons (ps_set (i := 4) sc__law_next.nd rfl (Or.inl rfl) (pe_op op_mod (pe_callTy call_int1 rfl B.b_int boot_int (pa_cons (pe_ix (r := rIxL K) ix_list (pv 0) pe_int (fun _ _ => rfl)) pa_nil)) (pv 1)))
    (pss_cons (ps_asg (pe_op op_fdiv (pe_ix (r := rIxL K) ix_list (pv 0) pe_int (fun _ _ => rfl)) (pv 1)) (pg_sub (pv 0) pe_int set_list))
    (pss_one (ps_ret (pv 4)))))), ?_⟩
  have m0 : ¬ m = 0 := by omega
  have at0 : ∀ (x y z : V), atI [x, y, z] 0 = some x := fun x y z => rfl
  have at1 : ∀ (x y z : V), atI [x, y, z] 1 = some y := fun x y z => rfl
  have at2 : ∀ (x y z : V), atI [x, y, z] 2 = some z := fun x y z => rfl
  refine ⟨fun σ' H' => ∃ kk cc c k, σ' = [some (.ref a), some (.int m), kk, cc, none] ∧ StrmW H' a l c k ns ∧ Keep a H H', ?_, ?_⟩
  · refine ⟨_, rfl, a, _, _, _, rfl, rfl, SqL.of h1, at1 _ _ _, rfl, _, rfl, ite2 (fun e => ?_) (fun e => ?_)⟩
    · -- a new cell
      refine ⟨_, rfl, a, _, _, _, rfl, rfl, SqL.of h1, at2 _ _ _, ?_⟩
      refine ⟨_, rfl, _, _, rfl, rfl, ?_⟩
      refine ⟨fun σ' H' => ∃ cc : Int, σ' = [some (.ref a), some (.int m), some (.int k), some (.int cc), none] ∧ H' = H, ?_, ?_⟩
      · refine ⟨_, rfl, _, rfl, a, _, _, _, rfl, rfl, SqL.of h1, at0 _ _ _, _, _, rfl, .inl ⟨_, SqL.of h2, rfl⟩, _, _, rfl, rfl, _, rfl, ite2 (fun e2 => ?_) (fun e2 => ?_)⟩
        · have e3 : k < ((ns.map V.int).length : Int) := of_decide_eq_true e2
          rw [List.length_map] at e3
          have hk : k.toNat < ns.length := by omega
          refine ⟨_, rfl, a, _, _, _, rfl, rfl, SqL.of h1, at0 _ _ _, _, rfl, l, _, k, .int ns[k.toNat], rfl, rfl, SqL.of h2, at_of (j := k.toNat) (by omega) (by rw [List.getElem?_map, List.getElem?_eq_getElem hk] <;> rfl), _, rfl, ?_⟩
          exact ⟨_, rfl, rfl⟩
        · exact ⟨_, rfl, rfl⟩
      · rintro σ' H' ⟨cc, rfl, rfl⟩
        refine ⟨fun σ' H'' => ∃ cc : Int, σ' = [some (.ref a), some (.int m), some (.int k), some (.int cc), none] ∧ H'' = H', ?_, ?_⟩
        · refine ⟨_, rfl, _, _, rfl, rfl, ⟨by decide, by decide, by decide⟩, _, _, rfl, rfl, _, rfl, ite2 (fun e2 => ?_) (fun e2 => ?_)⟩
          · refine ⟨_, rfl, _, _, rfl, rfl, .inr ⟨by decide, by decide⟩, _, rfl, _, _, rfl, rfl, .inr ⟨by decide, by decide⟩, _, _, rfl, rfl, _, _, rfl, rfl, .inl ⟨_, rfl, _, _, rfl, rfl, (by show (0 : Int) < 2147483647; decide), ?_⟩⟩
            refine ⟨_, rfl, _, _, rfl, rfl, .inr ⟨by decide, by decide⟩, _, _, rfl, rfl, .inl ⟨_, rfl, _, _, rfl, rfl, (by show (0 : Int) < 2147483647; decide), _, _, rfl, rfl, .inr ⟨by decide, by decide⟩, _, rfl, _, _, rfl, rfl, ?_⟩⟩
            exact ⟨_, rfl, rfl⟩
          · exact ⟨_, rfl, rfl⟩
        · rintro σ' H'' ⟨cc, rfl, rfl⟩
          refine ⟨_, rfl, _, rfl, a, _, _, _, rfl, rfl, h1, rfl, ?_⟩
          have u1 : ([.ref l, .int c, .int k] : List V).set 1 (.int cc) = [.ref l, .int cc, .int k] := rfl
          refine ⟨_, rfl, _, _, rfl, rfl, _, rfl, a, _, _, _, rfl, rfl, upd_same, rfl, ?_⟩
          exact ⟨_, _, cc, k + 1, rfl, ⟨upd_same, by rw [upd_ne h3, upd_ne h3]; exact h2, h3, by omega⟩, Keep.store.trans Keep.store⟩
    · exact ⟨_, _, c, k, rfl, ⟨h1, h2, h3, h4⟩, Keep.refl a H⟩
  · rintro σ' H' ⟨kk, cc, c, k, rfl, ⟨g1, g2, g3, g4⟩, kp⟩
    refine ⟨_, rfl, a, _, _, _, rfl, rfl, SqL.of g1, at1 _ _ _, .inl ⟨_, rfl, _, rfl, _, _, rfl, rfl, hm0, ?_⟩⟩
    refine ⟨_, rfl, a, _, _, _, rfl, rfl, SqL.of g1, at1 _ _ _, _, rfl, _, _, rfl, rfl, ⟨hm0, by omega⟩, _, rfl, a, _, _, _, rfl, rfl, g1, rfl, ?_⟩
    exact ⟨_, rfl, q _ _ (Int.emod_nonneg _ m0) (Int.emod_lt_of_pos _ hm0) ⟨kp.trans Keep.store, hS, fun l' c' k' ns' h' => by
      have e := h1.symm.trans h'.1
      cases e
      exact ⟨_, _, ns, upd_same, by rw [upd_ne g3]; exact g2, g3, g4⟩⟩⟩
end


/-! ### the looks at a datum -/
def spLetter : Sp := fun vs H Q _ => ∃ z : Str, vs = [.str z] ∧ z.length ≤ 1000 ∧ Q (.bl (isLet z)) H
def spBegins : Sp := fun vs H Q _ => ∃ v w d, vs = [v, .str w] ∧ Rep H v d ∧ headFlat d = true ∧ Q (.bl (begins w d)) H
def spIsRow : Sp := fun vs H Q _ => ∃ v w d, vs = [.str w, v] ∧ Rep H v d ∧ rowFlat d = true ∧ ∀ H', Same H H' → Q (.bl (rowOk w d)) H'
def PartsR (H : Hp) (r : V) : Option (List D) → Prop
  | none => r = .non
  | some ys => ∃ p vs, r = .ref p ∧ H p = some (.tup vs) ∧ Two (Rep H) vs ys
def spPartsOf : Sp := fun vs H Q _ => ∃ v d, vs = [v] ∧ Rep H v d ∧ Fl d ∧ ∀ r H', Same H H' → PartsR H' r (inner d) → Q r H'
def SizeR (H : Hp) (r : V) : Option Bnd → Prop
  | none => r = .non
  | some a => ∃ q, r = .ref q ∧ H q = some (.tup [.int a.1, .int a.2.1, .int a.2.2])
def spSizes (K : PySem.W.Frag) : Sp := fun vs H Q _ => ∃ (v : V) (d : D) (b : Addr) (B : Bnd), vs = [v, .ref b] ∧ Rep H v d ∧ Fl d ∧ d.size ≤ 1000000 ∧ SqT K H b [.int B.1, .int B.2.1, .int B.2.2] ∧ ∀ r H', Same H H' → SizeR H' r (sizesOf B d) → Q r H'
def spIs (B : Bnd) : Sp := fun vs H Q _ => ∃ (v : V) (d : D), vs = [v] ∧ Rep H v d ∧ Fl d ∧ d.size ≤ 1000000 ∧ ∀ H', Same H H' → Q (.bl (sizesOf B d).isSome) H'
section
variable {P : Program} {w : World} {K : PySem.W.Frag} {mg : Str → Option Value} {base : Heap} {a_BOUNDS a_LONG_BOUNDS : Addr} {tL tM : Tok}
theorem abcd_in (c : Nat) : (c ∈ (Str.ofString "abcd").cps.toList) ↔ 97 ≤ c ∧ c ≤ 100 := by
  have e : (Str.ofString "abcd").cps.toList = [97, 98, 99, 100] := by decide +kernel
  rw [e]
  simp
  omega
theorem isLet_one (c : Nat) : isLet ⟨#[c]⟩ = decide (c ∈ (Str.ofString "abcd").cps.toList) := by
  have e : isLet ⟨#[c]⟩ = (decide (97 ≤ c) && decide (c ≤ 100)) := rfl
  rw [e, ← Bool.decide_and]
  exact decide_eq_decide.mpr (abcd_in c).symm
abbrev N_is_letter : List Str := ["value"]
theorem sc_is_letter : FnScope ["value"] ["value"] (defScope s_is_letter) := ⟨rfl, rfl, rfl, by decide +kernel, rfl, by decide +kernel, by decide +kernel⟩
theorem ok_letter {f : Addr} {fd : FuncData} (B : Bt K mg a_BOUNDS a_LONG_BOUNDS tL tM) (D : Df K mg "is_letter" s_is_letter ["value"] f fd) : FnOk P w K mg base CX0 1 f fd ["value"] spLetter := by
  refine D.F.ok sc_is_letter (fun vs H Q E h => ?_) (fun cdv A outer s H vs Q E hr h => ?_)
  · obtain ⟨z, rfl, _⟩ := h
    rfl
  obtain ⟨z, rfl, hz, q⟩ := h
  refine ⟨_, (pss_one (ps_ret (pe_and (pe_callB call_isi rfl B.b_isinstance boot_isinstance (pa_cons (pv 0) (pa_cons (pe_bltn (v := .ty "str") rfl B.b_str boot_str rfl) pa_nil))) (pe_and (pe_cmpR op_eq (pe_callB call_len rfl B.b_len boot_len (pa_cons (pv 0) pa_nil)) pe_int (nomark _)) (pe_one (pe_cmpR op_in_sign (pv 0) (pe_glob (v := .str "abcd") rfl B.g_LETTERS ⟨_, rfl⟩) rfl)))))), ?_⟩
  have T1 : TyX K H (.str z) (.type "str") := .base (.str z)
  refine ⟨_, rfl, _, _, _, _, _, rfl, .ty _, T1, kit_ty (r := true) (by decide +kernel), _, rfl, iteT ?_⟩
  refine ⟨_, rfl, _, _, rfl, ⟨Nat.le_trans hz (by decide), rfl⟩, rfl, _, rfl, ite2 (fun e => ?_) (fun e => ?_)⟩
  · have e1 : V.int (z.length : Int) = V.int 1 := of_decide_eq_true e
    have e2 : z.cps.size = 1 := by
      have e3 : (z.length : Int) = 1 := V.int.inj e1
      have e4 : z.length = z.cps.size := rfl
      omega
    obtain ⟨⟨cs⟩⟩ := z
    match cs, e2 with
    | [c], _ =>
      refine ⟨_, rfl, _, _, rfl, rfl, ?_⟩
      rw [isLet_one] at q
      exact q
  · have e2 : isLet z = false := by
      unfold isLet
      split
      · rename_i c hc
        exfalso
        apply e
        refine decide_eq_true (congrArg V.int ?_)
        have : z.cps.size = 1 := by rw [← Array.length_toList, hc] <;> rfl
        show ((z.cps.size : Nat) : Int) = 1
        omega
      · rfl
    rw [e2] at q
    exact q
abbrev N__begins_with : List Str := ["value", "word"]
theorem sc__begins_with : FnScope ["value", "word"] ["value", "word"] (defScope s__begins_with) := ⟨rfl, rfl, rfl, by decide +kernel, rfl, by decide +kernel, by decide +kernel⟩
theorem ok_begins {f : Addr} {fd : FuncData} (B : Bt K mg a_BOUNDS a_LONG_BOUNDS tL tM) (D : Df K mg "_begins_with" s__begins_with ["value", "word"] f fd) : FnOk P w K mg base CX0 1 f fd ["value", "word"] spBegins := by
  refine D.F.ok sc__begins_with (fun vs H Q E h => ?_) (fun cdv A outer s H vs Q E hr h => ?_)
  · obtain ⟨v, w, d, rfl, _⟩ := h
    rfl
  obtain ⟨v, w, d, rfl, hR, hF, q⟩ := h
  refine ⟨_, (pss_one (ps_ret (pe_and (pe_callB call_isi rfl B.b_isinstance boot_isinstance (pa_cons (pv 0) (pa_cons (pe_bltn (v := .ty "tuple") rfl B.b_tuple boot_tuple rfl) pa_nil))) (pe_and (pe_cmpR op_gt (pe_callB call_len rfl B.b_len boot_len (pa_cons (pv 0) pa_nil)) pe_int (nomark _)) (pe_one (pe_cmpR op_eq (pe_ix (r := rIxT K) ix_tup (pv 0) pe_int (fun _ _ => rfl)) (pv 1) (nomark _))))))), ?_⟩
  obtain ⟨t, ht, _, k2⟩ := hR.ty (K := K)
  refine ⟨_, rfl, _, _, _, _, _, rfl, .ty _, ht, k2, _, rfl, ite2 (fun e => ?_) (fun e => ?_)⟩
  · cases d with
    | tup ds =>
      obtain ⟨p, xs, rfl, hp, hz, hX⟩ := hR.untup
      refine ⟨_, rfl, _, _, rfl, .inr ⟨_, SqT.of hp, rfl⟩, _, _, rfl, rfl, _, rfl, ite2 (fun e3 => ?_) (fun e3 => ?_)⟩
      · have e1 : (0 : Int) < ((xs.length : Nat) : Int) := of_decide_eq_true e3
        cases hX with
        | nil => exact absurd e1 (by decide)
        | @cons x y xs ys hxy ht =>
          refine ⟨_, rfl, p, _, 0, x, rfl, rfl, SqT.of hp, at_zero, _, rfl, ?_⟩
          cases hxy with
          | @str z hz =>
            refine ⟨rfl, ?_⟩
            have q1 : decide (V.str z = V.str w) = begins w (.tup (.str z :: ys)) := by
              rw [begins_tup]
              exact decide_eq_decide.mpr ⟨fun h => by cases h; rfl, fun h => by rw [h]⟩
            rw [q1]
            exact q
          | non => exact ⟨rfl, q⟩
          | bl b => exact ⟨rfl, q⟩
          | int i => exact ⟨rfl, q⟩
          | tup _ _ _ _ => exact absurd hF Bool.false_ne_true
          | lst _ => exact absurd hF Bool.false_ne_true
      · cases hX with
        | nil => exact q
        | @cons x y xs ys hxy ht =>
          exfalso
          apply e3
          refine decide_eq_true ?_
          show (0 : Int) < ((xs.length + 1 : Nat) : Int)
          omega
    | str z => cases e
    | lst => cases e
    | flat => cases e
  · cases d with
    | tup ds => exact absurd rfl e
    | str z => exact q
    | lst => exact q
    | flat => exact q
abbrev N__is_row : List Str := ["word", "value", "part"]
theorem sc__is_row : FnScope ["word", "value", "part"] ["word", "value"] (defScope s__is_row) := ⟨rfl, rfl, rfl, by decide +kernel, rfl, by decide +kernel, by decide +kernel⟩
theorem ok_isrow {f : Addr} {fd : FuncData} (B : Bt K mg a_BOUNDS a_LONG_BOUNDS tL tM) (D : Df K mg "_is_row" s__is_row ["word", "value"] f fd) (G_begins_with : Cl P w K mg base 1 "_begins_with" ["value", "word"] spBegins) : FnOk P w K mg base CX0 2 f fd ["word", "value"] spIsRow := by
  refine D.F.ok sc__is_row (fun vs H Q E h => ?_) (fun cdv A outer s H vs Q E hr h => ?_)
  · obtain ⟨v, w, d, rfl, _⟩ := h
    rfl
  obtain ⟨v, w, d, rfl, hR, hF, q⟩ := h
  refine ⟨_, (pss_cons (ps_if (PW.pt (pw_or (pt_not (pt_val (pe_callB call_isi rfl B.b_isinstance boot_isinstance (pa_cons (pv 1) (pa_cons (pe_bltn (v := .ty "tuple") rfl B.b_tuple boot_tuple rfl) pa_nil))))) (pw_or1 (pt_cmpR op_lt (pe_callB call_len rfl B.b_len boot_len (pa_cons (pv 1) pa_nil)) pe_int (nomark _))))) (pss_one (ps_ret pe_bl)) pss_nil)
    (pss_one (ps_ret (pe_not (pe_callB (cr_any rfl) rfl B.b_any boot_any (pa_cons (pe_lc (own := [("part", 2)]) (g := gName 2) (tt := tYes) rfl sc__is_row.nd (pi_tup (pv 1)) (blkOk_by (N := N__is_row) (sc := defScope s__is_row) (by decide +kernel)) (fun _ _ _ _ _ => pg_name (i := 2) sc__is_row.nd rfl (Or.inl rfl)) (fun _ _ _ _ _ => pts_nil) (fun _ _ _ _ _ => (pe_cl G_begins_with (hr.mono (by omega)) rfl (pa_cons (pv 2) (pa_cons (pv 0) pa_nil))))) pa_nil)))))), ?_⟩
  obtain ⟨t, ht, _, k2⟩ := hR.ty (K := K)
  cases d with
  | str z => exact ⟨_, rfl, _, _, _, _, _, rfl, .ty _, ht, k2, _, rfl, iteT (iteT (q _ (Same.refl _)))⟩
  | lst => exact ⟨_, rfl, _, _, _, _, _, rfl, .ty _, ht, k2, _, rfl, iteT (iteT (q _ (Same.refl _)))⟩
  | flat => exact ⟨_, rfl, _, _, _, _, _, rfl, .ty _, ht, k2, _, rfl, iteT (iteT (q _ (Same.refl _)))⟩
  | tup ds =>
    obtain ⟨p, xs, rfl, hp, hz, hX⟩ := hR.untup
    have hl := hX.len
    refine ⟨_, rfl, _, _, _, _, _, rfl, .ty _, ht, k2, _, rfl, iteF ?_⟩
    refine ⟨_, rfl, _, _, rfl, .inr ⟨_, SqT.of hp, rfl⟩, _, _, rfl, rfl, _, rfl, ite2 (fun e => ?_) (fun e => ?_)⟩
    · have e1 : ((xs.length : Nat) : Int) < 2 := of_decide_eq_true e
      have e2 : rowOk w (.tup ds) = false := by
        rw [rowOk_tup, decide_eq_false (by omega)]
        rfl
      rw [e2] at q
      exact q _ (Same.refl _)
    · have e1 : ¬ ((xs.length : Nat) : Int) < 2 := fun h => e (decide_eq_true h)
      have e2 : rowOk w (.tup ds) = !(ds.any (begins w)) := by
        rw [rowOk_tup, decide_eq_true (by omega)]
        rfl
      rw [e2] at q
      refine ⟨_, rfl, p, rfl, ⟨_, SqT.of hp⟩, fun L hL => ?_⟩
      refine lc_tup (K := K) (a := p) (xs := xs) (fun i H' => Same H H' ∧ H' L = some (.lst (((ds.take i).map (begins w)).map V.bl))) ⟨same_upd hL, upd_same⟩ (fun i H' _ h => SqT.of (h.1 _ _ hp)) (fun i x H' hx h => ?_) (fun H' h => ?_)
      · obtain ⟨d, hd, hxd⟩ := hX.get hx
        have hd' : headFlat d = true := by
          have : ds.all headFlat = true := hF
          exact List.all_eq_true.mp this d (List.mem_of_getElem? hd)
        refine ⟨rfl, tyes ?_⟩
        refine ⟨_, rfl, _, rfl, x, w, d, rfl, hxd.pers (Pers.same h.1), hd', _, h.2, ?_, ?_, ?_⟩
        · rw [List.length_map, List.length_map, List.length_take]
          have : i < ds.length := (List.getElem?_eq_some_iff.mp hd).1
          exact Nat.lt_of_le_of_lt (Nat.min_le_right _ _) (Nat.lt_of_le_of_lt (hl ▸ hz) (by decide))
        · exact fun b o e => by rw [upd_ne (ne_of_none e hL)]; exact h.1 b o e
        · rw [upd_same, List.take_add_one, hd, List.map_append, List.map_append]
          rfl
      · obtain ⟨h1, h2⟩ := h
        rw [hl, List.take_length] at h2
        refine ⟨L, _, rfl, SqL.of h2, _, rfl, ?_⟩
        have e3 : ((ds.map (begins w)).any id) = ds.any (begins w) := by
          rw [List.any_map]
          rfl
        rw [e3]
        exact q _ h1
abbrev N__parts_of : List Str := ["value", "word", "inner"]
theorem sc__parts_of : FnScope ["value", "word", "inner"] ["value"] (defScope s__parts_of) := ⟨rfl, rfl, rfl, by decide +kernel, rfl, by decide +kernel, by decide +kernel⟩
theorem ok_parts {f : Addr} {fd : FuncData} (B : Bt K mg a_BOUNDS a_LONG_BOUNDS tL tM) (D : Df K mg "_parts_of" s__parts_of ["value"] f fd) (Gis_letter : Cl P w K mg base 1 "is_letter" ["value"] spLetter) (G_is_row : Cl P w K mg base 2 "_is_row" ["word", "value"] spIsRow) : FnOk P w K mg base CX0 3 f fd ["value"] spPartsOf := by
  refine D.F.ok sc__parts_of (fun vs H Q E h => ?_) (fun cdv A outer s H vs Q E hr h => ?_)
  · obtain ⟨v, d, rfl, _⟩ := h
    rfl
  obtain ⟨v, d, rfl, hR, hF, q⟩ := h
  refine ⟨_, (pss_cons (ps_if (pt_val (pe_callB call_isi rfl B.b_isinstance boot_isinstance (pa_cons (pv 0) (pa_cons (pe_bltn (v := .ty "str") rfl B.b_str boot_str rfl) pa_nil)))) (pss_one (ps_ret (pe_ifExp (PW.pt (pw_or (pt_cmpR op_eq (pv 0) pe_str (nomark _)) (pw_or1 (pt_val (pe_cl Gis_letter (hr.mono (by omega)) rfl (pa_cons (pv 0) pa_nil)))))) (pe_tup pa_nil) pe_non))) pss_nil)
    (pss_cons (ps_if (PW.pt (pw_or (pt_not (pt_val (pe_callB call_isi rfl B.b_isinstance boot_isinstance (pa_cons (pv 0) (pa_cons (pe_bltn (v := .ty "tuple") rfl B.b_tuple boot_tuple rfl) pa_nil))))) (pw_or (pt_cmpR op_ne (pe_callB call_len rfl B.b_len boot_len (pa_cons (pv 0) pa_nil)) pe_int (nomark _)) (pw_or1 (pt_not (pt_val (pe_callB call_isi rfl B.b_isinstance boot_isinstance (pa_cons (pe_ix (r := rIxT K) ix_tup (pv 0) pe_int (fun _ _ => rfl)) (pa_cons (pe_bltn (v := .ty "str") rfl B.b_str boot_str rfl) pa_nil))))))))) (pss_one (ps_ret pe_non)) pss_nil)
    (pss_cons (ps_asg (pv 0) (pg_tup rfl (pgs_cons (pg_name (i := 1) sc__parts_of.nd rfl (Or.inl rfl)) (pgs_cons (pg_name (i := 2) sc__parts_of.nd rfl (Or.inl rfl)) pgs_nil))))
    (pss_cons (ps_if (PW.pt (pw_or (pt_cmpR op_eq (pv 1) pe_str (nomark _)) (pw_or1 (pt_cmpR op_eq (pv 1) pe_str (nomark _))))) (pss_one (ps_ret (pe_tup (pa_cons (pv 2) pa_nil)))) pss_nil)
    (pss_cons (ps_if (PW.pt (pw_and (PW.pt (pw_or (pt_cmpR op_eq (pv 1) pe_str (nomark _)) (pw_or1 (pt_cmpR op_eq (pv 1) pe_str (nomark _))))) (pw_and1 (pt_val (pe_cl G_is_row (hr.mono (by omega)) rfl (pa_cons (pv 1) (pa_cons (pv 2) pa_nil))))))) (pss_one (ps_ret (pv 2))) pss_nil)
    (pss_one (ps_ret pe_non))))))), ?_⟩
  obtain ⟨t, ht, k1, k2⟩ := hR.ty (K := K)
  refine ⟨_, rfl, _, _, _, _, _, rfl, .ty _, ht, k1, _, rfl, ite2 (fun e => ?_) (fun e => ?_)⟩
  · cases d with
    | tup ds => cases e
    | lst => cases e
    | flat => cases e
    | str z =>
      cases hR with
      | str hz =>
        have yes : (z = sNo ∨ isLet z = true) → ∀ p, H p = none → Q (.ref p) (upd H p (.tup [])) := fun c p hp => q _ _ (same_upd hp) (by
          rw [inner, if_pos c]
          exact ⟨p, [], rfl, upd_same, .nil⟩)
        refine ⟨_, rfl, rfl, _, rfl, ite2 (fun e1 => iteT ?_) (fun e1 => ?_)⟩
        · exact ⟨by decide, yes (.inl (vstr e1))⟩
        · refine ⟨_, rfl, z, rfl, hz, _, rfl, ite2 (fun e2 => ?_) (fun e2 => ?_)⟩
          · exact ⟨by decide, yes (.inr e2)⟩
          · refine q _ _ (Same.refl _) ?_
            rw [inner, if_neg fun c => c.elim (vstrN e1) e2]
            rfl
  · cases d with
    | str z => exact absurd rfl e
    | lst => exact ⟨_, rfl, _, _, _, _, _, rfl, .ty _, ht, k2, _, rfl, iteT (iteT (q _ _ (Same.refl _) rfl))⟩
    | flat => exact ⟨_, rfl, _, _, _, _, _, rfl, .ty _, ht, k2, _, rfl, iteT (iteT (q _ _ (Same.refl _) rfl))⟩
    | tup ds =>
      obtain ⟨p, xs, rfl, hp, hz, hX⟩ := hR.untup
      have hl := hX.len
      have none_ : inner (.tup ds) = none → Q .non H := fun c => q _ _ (Same.refl _) (by rw [c]; rfl)
      refine ⟨_, rfl, _, _, _, _, _, rfl, .ty _, ht, k2, _, rfl, iteF ?_⟩
      refine ⟨_, rfl, _, _, rfl, .inr ⟨_, SqT.of hp, rfl⟩, rfl, _, rfl, ite2 (fun e => ?_) (fun e => ?_)⟩
      · have e1 : ¬ xs.length = 2 := by
          intro c
          rw [c] at e
          exact absurd e (by decide)
        refine iteT (none_ ?_)
        unfold inner
        split
        · rename_i h; cases h
        · rename_i h
          cases h
          exact absurd hl e1
        · rfl
      · have e1 : xs.length = 2 := by
          have e2 : ¬ ¬ ((xs.length : Nat) : Int) = 2 := fun c => e (by
            show (!decide (V.int ((xs.length : Nat) : Int) = V.int 2)) = true
            rw [decide_eq_false (fun z => c (V.int.inj z))]
            rfl)
          omega
        match xs, ds, hX, e1 with
        | [x, y], [dx, dy], hX, _ =>
          cases hX with
          | cons hx hX =>
          cases hX with
          | cons hy _ =>
          obtain ⟨tx, htx, kx, _⟩ := hx.ty (K := K)
          refine ⟨_, rfl, p, _, 0, x, rfl, rfl, SqT.of hp, at_zero, _, _, _, _, _, rfl, .ty _, htx, kx, _, rfl, ite2 (fun e => ?_) (fun e => ?_)⟩
          · refine none_ ?_
            cases dx with
            | str z => cases e
            | tup _ => rfl
            | lst => rfl
            | flat => rfl
          · cases dx with
            | tup _ => exact absurd rfl e
            | lst => exact absurd rfl e
            | flat => exact absurd rfl e
            | str w =>
              cases hx with
              | str hw =>
              refine ⟨_, rfl, p, _, rfl, SqT.of hp, rfl, _, _, rfl, _, _, rfl, rfl, ?_⟩
              have yes : (w = sMaybe ∨ w = sMany) → ∀ p, H p = none → Q (.ref p) (upd H p (.tup [y])) := fun c p hp => q _ _ (same_upd hp) (by
                rw [inner_pair, innerPair, if_pos c]
                exact ⟨p, [y], rfl, upd_same, .cons (hy.pers (Pers.new hp)) .nil⟩)
              refine ⟨_, rfl, rfl, _, rfl, ite2 (fun e1 => iteT ?_) (fun e1 => ?_)⟩
              · exact ⟨_, rfl, by show 1 ≤ sizeLine; decide, yes (.inl (vstr e1))⟩
              refine ⟨_, rfl, rfl, _, rfl, ite2 (fun e2 => ?_) (fun e2 => ?_)⟩
              · exact ⟨_, rfl, by show 1 ≤ sizeLine; decide, yes (.inr (vstr e2))⟩
              have no1 : ¬ (w = sMaybe ∨ w = sMany) := fun c => c.elim (vstrN e1) (vstrN e2)
              have hfl : w = sJoin ∨ w = sOr → rowFlat dy = true := fun c => by
                cases hF with
                | tup h _ => exact h _ _ rfl c
              have row : (w = sJoin ∨ w = sOr) → ∀ H', Same H H' → (rowOk w dy = true → Q y H') ∧ (¬ rowOk w dy = true → Q .non H') := fun c H' hs => ⟨fun r => q _ _ hs (by
                rw [inner_pair, innerPair, if_neg no1, if_pos ⟨c, r⟩]
                cases dy with
                | tup ds =>
                  obtain ⟨p, xs, rfl, hp, hz, hX⟩ := hy.untup
                  exact ⟨p, xs, rfl, hs _ _ hp, Rep.pers2 (Pers.same hs) hX⟩
                | str z => cases r
                | lst => cases r
                | flat => cases r), fun r => q _ _ hs (by rw [inner_pair, innerPair, if_neg no1, if_neg fun z => r z.2] <;> rfl)⟩
              refine ⟨_, rfl, rfl, _, rfl, ite2 (fun e3 => iteT ?_) (fun e3 => ?_)⟩
              · have c : w = sJoin ∨ w = sOr := .inl (vstr e3)
                refine ⟨_, rfl, _, rfl, y, w, dy, rfl, hy, hfl c, fun H' hs => ⟨_, rfl, ite2 (fun e4 => ?_) (fun e4 => ?_)⟩⟩
                · exact ⟨_, rfl, (row c H' hs).1 e4⟩
                · exact (row c H' hs).2 e4
              refine ⟨_, rfl, rfl, _, rfl, ite2 (fun e4 => ?_) (fun e4 => ?_)⟩
              · have c : w = sJoin ∨ w = sOr := .inr (vstr e4)
                refine ⟨_, rfl, _, rfl, y, w, dy, rfl, hy, hfl c, fun H' hs => ⟨_, rfl, ite2 (fun e4 => ?_) (fun e4 => ?_)⟩⟩
                · exact ⟨_, rfl, (row c H' hs).1 e4⟩
                · exact (row c H' hs).2 e4
              · refine iteF (none_ ?_)
                rw [inner_pair, innerPair, if_neg no1, if_neg fun z => z.1.elim (vstrN e3) (vstrN e4)]
def StkRep (H : Hp) (x : V) (p : D × Nat) : Prop := ∃ t y, x = .ref t ∧ H t = some (.tup [y, .int p.2]) ∧ Rep H y p.1
theorem StkRep.pers {H H' : Hp} (k : Pers H H') {x : V} {p : D × Nat} (h : StkRep H x p) : StkRep H' x p := by
  obtain ⟨t, y, rfl, h1, h2⟩ := h
  exact ⟨t, y, rfl, k.tup _ _ h1, h2.pers k⟩
theorem fl_inner {d : D} {ys : List D} (h : Fl d) (hi : inner d = some ys) : ∀ y ∈ ys, Fl y := by
  intro y hy
  unfold inner at hi
  split at hi
  · split at hi
    · cases hi; cases hy
    · cases hi
  · rename_i w z
    have hz : Fl z := by
      cases h with
      | tup _ k => exact k z (by simp)
    unfold innerPair at hi
    split at hi
    · cases hi
      rw [List.mem_singleton] at hy
      subst hy
      exact hz
    · split at hi
      · cases hz with
        | tup _ k => cases hi; exact k y hy
        | str => cases hi
        | lst => cases hi
        | flat => cases hi
      · cases hi
  · cases hi
theorem len_msr (st : List (D × Nat)) : st.length ≤ msr st := by
  induction st with
  | nil => exact Nat.le_refl _
  | cons p st ih =>
    have := size_pos p.1
    unfold msr at ih ⊢
    rw [List.map_cons, List.sum_cons, List.length_cons]
    omega
structure Loop (H : Hp) (B : Bnd) (d : D) (v : V) (b wt : Addr) (n : Nat) (st : List (D × Nat)) (a : Bnd) (σ : L2.St) (H' : Hp) : Prop where
  sl : ∃ x9 x10 x11, σ = [some v, some (.ref b), some (.int B.1), some (.int B.2.1), some (.int B.2.2), some (.int a.1), some (.int a.2.1), some (.int a.2.2), some (.ref wt), x9, x10, x11, none]
  same : Same H H'
  new : H wt = none
  stk : ∃ xs, H' wt = some (.lst xs) ∧ Two (StkRep H') xs st.reverse
  fl : ∀ p ∈ st, Fl p.1
  ms : msr st < n
  le : msr st ≤ d.size
  eq : look B n st a = sizesOf B d
abbrev N_sizes_within : List Str := ["value", "bounds", "most_places", "most_deep", "most_parts", "many_places", "deepest", "many_parts", "waiting", "part", "deep", "inner", "each"]
theorem sc_sizes_within : FnScope ["value", "bounds", "most_places", "most_deep", "most_parts", "many_places", "deepest", "many_parts", "waiting", "part", "deep", "inner", "each"] ["value", "bounds"] (defScope s_sizes_within) := ⟨rfl, rfl, rfl, by decide +kernel, rfl, by decide +kernel, by decide +kernel⟩
theorem ok_sizes {f : Addr} {fd : FuncData} (Bt : Bt K mg a_BOUNDS a_LONG_BOUNDS tL tM) (D : Df K mg "sizes_within" s_sizes_within ["value", "bounds"] f fd) (G_parts_of : Cl P w K mg base 3 "_parts_of" ["value"] spPartsOf) : FnOk P w K mg base CX0 4 f fd ["value", "bounds"] (spSizes K) := by
  refine D.F.ok sc_sizes_within (fun vs H Q E h => ?_) (fun cdv A outer s H vs Q E hr h => ?_)
  · obtain ⟨v, d, b, B, rfl, _⟩ := h
    rfl
  obtain ⟨v, d, b, ⟨b1, b2, b3⟩, rfl, hR, hF, hZ, hB, q⟩ := h
  have B := Bt
  refine ⟨_, (pss_cons (ps_asg (pv 1) (pg_tup rfl (pgs_cons (pg_name (i := 2) sc_sizes_within.nd rfl (Or.inl rfl)) (pgs_cons (pg_name (i := 3) sc_sizes_within.nd rfl (Or.inl rfl)) (pgs_cons (pg_name (i := 4) sc_sizes_within.nd rfl (Or.inl rfl)) pgs_nil)))))
    (pss_cons (ps_asg (pe_tup (pa_cons pe_int (pa_cons pe_int (pa_cons pe_int pa_nil)))) (pg_tup rfl (pgs_cons (pg_name (i := 5) sc_sizes_within.nd rfl (Or.inl rfl)) (pgs_cons (pg_name (i := 6) sc_sizes_within.nd rfl (Or.inl rfl)) (pgs_cons (pg_name (i := 7) sc_sizes_within.nd rfl (Or.inl rfl)) pgs_nil)))))
    (pss_cons (ps_set (i := 8) sc_sizes_within.nd rfl (Or.inl rfl) (pe_lst (pa_cons (pe_tup (pa_cons (pv 0) (pa_cons pe_int pa_nil))) pa_nil)))
    (pss_cons (ps_while PassesOwn.never (pt_truth (pv 8) (by intro _; rfl)) (pss_cons (ps_asg (pe_bm0 PySem.F.plainAttrs_list PySem.F.slot_list_pop PySem.F.type_list_pop mt_pop (pv 8)) (pg_tup rfl (pgs_cons (pg_name (i := 9) sc_sizes_within.nd rfl (Or.inl rfl)) (pgs_cons (pg_name (i := 10) sc_sizes_within.nd rfl (Or.inr rfl)) pgs_nil))))
    (pss_cons (ps_set (i := 11) sc_sizes_within.nd rfl (Or.inl rfl) (pe_cl G_parts_of (hr.mono (by omega)) rfl (pa_cons (pv 9) pa_nil)))
    (pss_cons (ps_if (pt_cmpR op_isN (pv 11) pe_non (nomark _)) (pss_one (ps_ret pe_non)) pss_nil)
    (C8.pss_cut (ps_if (pt_val (pe_callB call_isi rfl B.b_isinstance boot_isinstance (pa_cons (pv 9) (pa_cons (pe_bltn (v := .ty "str") rfl B.b_str boot_str rfl) pa_nil)))) (pss_one (ps_aug (i := 5) sc_sizes_within.nd rfl (Or.inl rfl) (pe_callB call_len rfl B.b_len boot_len (pa_cons (pv 9) pa_nil)) ip_add)) pss_nil)
    (pss_cons (ps_set (i := 6) sc_sizes_within.nd rfl (Or.inl rfl) (pe_callB (call_max2 rfl) rfl B.b_max boot_max (pa_cons (pv 6) (pa_cons (pv 10) pa_nil))))
    (pss_cons (ps_aug (i := 7) sc_sizes_within.nd rfl (Or.inl rfl) (pe_callB call_len rfl B.b_len boot_len (pa_cons (pv 11) pa_nil)) ip_add)
    (pss_cons (ps_if (PW.pt (pw_or (pt_cmpR op_gt (pv 5) (pv 2) (nomark _)) (pw_or (pt_cmpR op_gt (pv 6) (pv 3) (nomark _)) (pw_or1 (pt_cmpR op_gt (pv 7) (pv 4) (nomark _)))))) (pss_one (ps_ret pe_non)) pss_nil)
    (pss_one (ps_expr (pe_bm PySem.F.plainAttrs_list PySem.F.slot_list_extend PySem.F.type_list_extend mt_extend (pv 8) (pa_cons (pe_lc (own := [("each", 12)]) (g := gName 12) (tt := tYes) rfl sc_sizes_within.nd (pi_tup (pv 11)) (blkOk_by (N := N_sizes_within) (sc := defScope s_sizes_within) (by decide +kernel)) (fun _ _ _ _ _ => pg_name (i := 12) sc_sizes_within.nd rfl (Or.inl rfl)) (fun _ _ _ _ _ => pts_nil) (fun _ _ _ _ _ => (pe_tup (pa_cons (pv 12) (pa_cons (pe_op op_add (pv 10) pe_int) pa_nil))))) pa_nil))))))))))))
    (pss_one (ps_ret (pe_tup (pa_cons (pv 5) (pa_cons (pv 6) (pa_cons (pv 7) pa_nil)))))))))), ?_⟩
  refine ⟨_, rfl, b, _, rfl, hB, rfl, _, _, rfl, _, _, rfl, _, _, rfl, rfl, (by show 3 ≤ sizeLine; decide), fun t0 ht0 => ⟨t0, _, rfl, SqT.of upd_same, rfl, _, _, rfl, _, _, rfl, _, _, rfl, rfl, ?_⟩⟩
  refine ⟨_, rfl, (by show 2 ≤ sizeLine; decide), fun t ht => ⟨(by show 1 ≤ sizeLine; decide), fun wt hwt => ?_⟩⟩
  have ntw : t ≠ wt := fun e => by
    rw [← e, upd_same] at hwt
    cases hwt
  have s1 : Same H (upd (upd (upd H t0 _) t (.tup [v, .int 0])) wt (.lst [.ref t])) := (same_upd ht0).trans ((same_upd ht).trans (same_upd hwt))
  refine ⟨fun n σ' H' => ∃ st a, Loop H (b1, b2, b3) d v b wt n st a σ' H', ⟨d.size + 1, [(d, 0)], (0, 0, 1), ⟨none, none, none, rfl⟩, s1, ((same_upd ht0).trans (same_upd ht)).free hwt, ⟨_, upd_same, ?_⟩, ?_, ?_, ?_, rfl⟩, ?_⟩
  · exact .cons ⟨t, v, rfl, by rw [upd_ne ntw, upd_same] <;> rfl, hR.pers (Pers.same s1)⟩ .nil
  · intro p hp
    rw [List.mem_singleton] at hp
    subst hp
    exact hF
  · show msr [(d, 0)] < d.size + 1
    unfold msr
    simp
  · show msr [(d, 0)] ≤ d.size
    unfold msr
    simp
  rintro n σ' H' ⟨st, a, ⟨x9, x10, x11, rfl⟩, sm, new, ⟨xs, hw, hX⟩, fl, ms, le, eq⟩
  have hlX := hX.len
  refine ⟨_, rfl, _, .inl ⟨_, SqL.of hw, rfl⟩, ite2 (fun e => ?_) (fun e => ?_)⟩
  · -- a turn
    cases st with
    | nil =>
      cases xs with
      | nil => cases e
      | cons x r => cases hX
    | cons p st =>
    obtain ⟨dp, k⟩ := p
    rw [List.reverse_cons] at hX
    obtain ⟨xs', x, rfl, hX', t1, y, rfl, ht1, hy⟩ := hX.unsnoc
    cases n with
    | zero => exact absurd ms (Nat.not_lt_zero _)
    | succ n =>
    have hFd : Fl dp := fl (dp, k) (List.mem_cons_self ..)
    have nt1 : t1 ≠ wt := fun e => by
      rw [e, hw] at ht1
      cases ht1
    refine ⟨fun σ2 H2 => ∃ st a, Loop H (b1, b2, b3) d v b wt n st a σ2 H2, fun σ2 H2 h => ⟨n, Nat.lt_succ_self n, h⟩, ?_⟩
    -- part, deep = waiting.pop()
    have hpop : (xs' ++ [V.ref t1])[(xs' ++ [V.ref t1]).length - 1]? = some (.ref t1) := by
      rw [List.length_append, List.length_singleton, Nat.add_sub_cancel, List.getElem?_append_right (Nat.le_refl _), Nat.sub_self]
      rfl
    have hdrop : (xs' ++ [V.ref t1]).dropLast = xs' := List.dropLast_concat ..
    refine ⟨_, rfl, .inl ⟨rfl, _, SqL.of hw⟩, wt, _, _, rfl, rfl, hw, hpop, t1, _, rfl, SqT.of (by rw [upd_ne nt1]; exact ht1), rfl, _, _, rfl, _, _, rfl, rfl, ?_⟩
    rw [hdrop]
    have P1 : Pers H' (upd H' wt (.lst xs')) := Pers.store hw
    -- inner = _parts_of(part)
    refine ⟨_, rfl, y, dp, rfl, hy.pers P1, hFd, fun r H2 s2 hr2 => ?_⟩
    have P2 : Pers H' H2 := P1.trans (Pers.same s2)
    have hw2 : H2 wt = some (.lst xs') := s2 _ _ upd_same
    have sm2 : Same H H2 := fun b o e => s2 _ _ (by rw [upd_ne (ne_of_none e new)]; exact sm b o e)
    have lk : look (b1, b2, b3) (n + 1) ((dp, k) :: st) a = (match inner dp with | none => none | some ys => if within (b1, b2, b3) (a.1 + places1 dp, max a.2.1 k, a.2.2 + ys.length) = true then look (b1, b2, b3) n ((ys.map fun y => (y, k + 1)).reverse ++ st) (a.1 + places1 dp, max a.2.1 k, a.2.2 + ys.length) else none) := rfl
    rw [eq] at lk
    cases hi : inner dp with
    | none =>
      rw [hi] at lk hr2
      have hr3 : r = .non := hr2
      subst hr3
      refine ⟨_, rfl, rfl, _, rfl, iteT (q _ _ sm2 ?_)⟩
      rw [lk]
      rfl
    | some ys =>
      rw [hi] at lk hr2
      obtain ⟨p, vs, rfl, hp, hV⟩ := hr2
      have hl := hV.len
      have hsz := inner_size hi
      have mst : msr ((dp, k) :: st) = dp.size + msr st := by
        unfold msr
        rw [List.map_cons, List.sum_cons]
      refine ⟨_, rfl, rfl, _, rfl, iteF ?_⟩
      -- if isinstance(part, str): many_places += len(part)
      obtain ⟨ty, hty, k1, _⟩ := (hy.pers P2).ty (K := K)
      refine ⟨fun σ3 H3 => σ3 = [some v, some (.ref b), some (.int b1), some (.int b2), some (.int b3), some (.int ((a.1 + places1 dp : Nat) : Int)), some (.int a.2.1), some (.int a.2.2), some (.ref wt), some y, some (.int k), some (.ref p), none] ∧ H3 = H2, ?_, ?_⟩
      · refine ⟨_, rfl, _, _, _, _, _, rfl, .ty _, hty, k1, _, rfl, ite2 (fun e => ?_) (fun e => ?_)⟩
        · cases dp with
          | str z =>
            cases hy with
            | str hz => exact ⟨_, rfl, _, rfl, _, _, rfl, ⟨Nat.le_trans hz (by decide), rfl⟩, _, _, rfl, rfl, rfl, rfl⟩
          | tup _ => cases e
          | lst => cases e
          | flat => cases e
        · cases dp with
          | str z => exact absurd rfl e
          | tup _ => exact ⟨rfl, rfl⟩
          | lst => exact ⟨rfl, rfl⟩
          | flat => exact ⟨rfl, rfl⟩
      rintro σ3 H3 ⟨rfl, rfl⟩
      -- deepest = max(deepest, deep); many_parts += len(inner)
      refine ⟨_, rfl, _, rfl, _, _, rfl, ?_⟩
      have emax : (if (k : Int) > (a.2.1 : Int) then (k : Int) else (a.2.1 : Int)) = ((max a.2.1 k : Nat) : Int) := by
        split <;> omega
      rw [emax]
      refine ⟨_, rfl, _, rfl, _, ys.length, rfl, .inr ⟨_, SqT.of hp, hl.symm⟩, _, _, rfl, rfl, ?_⟩
      have bad : ¬ within (b1, b2, b3) (a.1 + places1 dp, max a.2.1 k, a.2.2 + ys.length) = true → Q .non H3 := fun c => q _ _ sm2 (by
        rw [lk]
        show SizeR H3 .non (if within (b1, b2, b3) (a.1 + places1 dp, max a.2.1 k, a.2.2 + ys.length) = true then _ else none)
        rw [if_neg c]
        rfl)
      refine ⟨_, rfl, _, rfl, _, _, rfl, rfl, _, rfl, ite2 (fun e1 => ?_) (fun e1 => ?_)⟩
      · refine iteT (bad fun c => ?_)
        have := (within_iff.mp c).1
        have e2 : ((b1 : Nat) : Int) < ((a.1 + places1 dp : Nat) : Int) := of_decide_eq_true e1
        have e3 : a.1 + places1 dp ≤ b1 := this
        omega
      refine ⟨_, rfl, _, rfl, _, _, rfl, rfl, _, rfl, ite2 (fun e2 => ?_) (fun e2 => ?_)⟩
      · refine iteT (bad fun c => ?_)
        have e3 : max a.2.1 k ≤ b2 := (within_iff.mp c).2.1
        have e4 : ((b2 : Nat) : Int) < ((max a.2.1 k : Nat) : Int) := of_decide_eq_true e2
        omega
      refine ⟨_, rfl, _, rfl, _, _, rfl, rfl, _, rfl, ite2 (fun e3 => ?_) (fun e3 => ?_)⟩
      · refine bad fun c => ?_
        have e4 : a.2.2 + ys.length ≤ b3 := (within_iff.mp c).2.2
        have e5 : ((b3 : Nat) : Int) < ((a.2.2 + ys.length : Nat) : Int) := of_decide_eq_true e3
        omega
      have win : within (b1, b2, b3) (a.1 + places1 dp, max a.2.1 k, a.2.2 + ys.length) = true := by
        refine within_iff.mpr ⟨?_, ?_, ?_⟩
        · have e4 : ¬ ((b1 : Nat) : Int) < ((a.1 + places1 dp : Nat) : Int) := fun h => e1 (decide_eq_true h)
          show a.1 + places1 dp ≤ b1
          omega
        · have e4 : ¬ ((b2 : Nat) : Int) < ((max a.2.1 k : Nat) : Int) := fun h => e2 (decide_eq_true h)
          show max a.2.1 k ≤ b2
          omega
        · have e4 : ¬ ((b3 : Nat) : Int) < ((a.2.2 + ys.length : Nat) : Int) := fun h => e3 (decide_eq_true h)
          show a.2.2 + ys.length ≤ b3
          omega
      have lk2 : look (b1, b2, b3) n ((ys.map fun y => (y, k + 1)).reverse ++ st) (a.1 + places1 dp, max a.2.1 k, a.2.2 + ys.length) = sizesOf (b1, b2, b3) d := by
        have lk3 : sizesOf (b1, b2, b3) d = (if within (b1, b2, b3) (a.1 + places1 dp, max a.2.1 k, a.2.2 + ys.length) = true then look (b1, b2, b3) n ((ys.map fun y => (y, k + 1)).reverse ++ st) (a.1 + places1 dp, max a.2.1 k, a.2.2 + ys.length) else none) := lk
        rw [if_pos win] at lk3
        exact lk3.symm
      have ms2 := msr_step (k := k) (st := st) hi
      have lsz : ys.length ≤ (ys.map My.D.size).sum := by
        have := len_msr (ys.map fun y => (y, k + 1))
        unfold msr at this
        rw [List.length_map, List.map_map] at this
        exact this
      -- waiting.extend([(each, deep + 1) for each in inner])
      refine ⟨_, rfl, .inl ⟨rfl, _, SqL.of hw2⟩, _, rfl, p, rfl, ⟨_, SqT.of hp⟩, fun L hL => ?_⟩
      have nL : wt ≠ L := ne_of_none hw2 hL
      refine lc_tup (K := K) (a := p) (xs := vs) (fun i H4 => Same H3 H4 ∧ ∃ zs, H4 L = some (.lst zs) ∧ Two (StkRep H4) zs ((ys.take i).map fun y => (y, k + 1))) ⟨same_upd hL, [], upd_same, .nil⟩ (fun i H4 _ h => SqT.of (h.1 _ _ hp)) (fun i x H4 hx h => ?_) (fun H4 h => ?_)
      · obtain ⟨h1, zs, h2, h3⟩ := h
        obtain ⟨dy, hd, hxd⟩ := hV.get hx
        have hlz := h3.len
        rw [List.length_map, List.length_take] at hlz
        refine ⟨rfl, tyes ⟨_, rfl, _, rfl, _, _, rfl, rfl, (by show 2 ≤ sizeLine; decide), fun t ht => ⟨zs, ?_, ?_, ?_, ?_⟩⟩⟩
        · rw [upd_ne (ne_of_none h2 ht)]
          exact h2
        · have : zs.length ≤ 1000000 := by omega
          exact Nat.lt_of_le_of_lt this (by decide)
        · intro b o e
          rw [upd_ne (ne_of_none e hL), upd_ne (ne_of_none (h1 _ _ e) ht)]
          exact h1 _ _ e
        · refine ⟨_, upd_same, ?_⟩
          have P4 : Pers H4 (upd (upd H4 t (.tup [x, .int ((k : Int) + 1)])) L (.lst (zs ++ [.ref t]))) := (Pers.new ht).trans (Pers.store (by rw [upd_ne (ne_of_none h2 ht)]; exact h2))
          rw [List.take_add_one, hd, List.map_append]
          refine (h3.mono fun _ _ => StkRep.pers P4).app (.cons ⟨t, x, rfl, ?_, hxd.pers ((Pers.same h1).trans P4)⟩ .nil)
          have nt : t ≠ L := fun e => by
            rw [e] at ht
            rw [h2] at ht
            cases ht
          rw [upd_ne nt, upd_same]
          rfl
      · obtain ⟨h1, zs, h2, h3⟩ := h
        rw [hl, List.take_length] at h3
        have hlz := h3.len
        rw [List.length_map] at hlz
        have hw4 := h1 _ _ hw2
        have hlx := hX'.len
        have lst := len_msr st
        rw [List.length_reverse] at hlx
        refine ⟨wt, L, _, _, rfl, rfl, hw4, h2, ?_, ?_⟩
        · have : xs'.length + zs.length ≤ 1000000 := by omega
          exact Nat.le_trans this (by decide)
        · have P4 : Pers H4 (upd H4 wt (.lst (xs' ++ zs))) := Pers.store hw4
          refine ⟨_, _, ⟨_, _, _, rfl⟩, fun b o e => by rw [upd_ne (ne_of_none e new)]; exact h1 _ _ (sm2 b o e), new, ⟨_, upd_same, ?_⟩, ?_, ?_, ?_, lk2⟩
          · rw [List.reverse_append, List.reverse_reverse]
            exact (hX'.mono fun _ _ => StkRep.pers (P2.trans ((Pers.same h1).trans P4))).app (h3.mono fun _ _ => StkRep.pers P4)
          · intro q hq
            rcases List.mem_append.mp hq with hq | hq
            · rw [List.mem_reverse, List.mem_map] at hq
              obtain ⟨y, hy, rfl⟩ := hq
              exact fl_inner hFd hi y hy
            · exact fl q (List.mem_cons_of_mem _ hq)
          · omega
          · omega
  · -- the end
    have e1 : st = [] := by
      cases xs with
      | nil =>
        have : st.reverse.length = 0 := hlX.symm
        rw [List.length_reverse] at this
        exact List.eq_nil_of_length_eq_zero this
      | cons x r => exact absurd rfl e
    subst e1
    have e2 : sizesOf (b1, b2, b3) d = some a := by
      cases n with
      | zero => exact absurd ms (Nat.not_lt_zero _)
      | succ n => exact eq.symm
    refine ⟨_, rfl, _, rfl, _, rfl, (by show 3 ≤ sizeLine; decide), fun p hp => q _ _ (sm.trans (same_upd hp)) ?_⟩
    rw [e2]
    exact ⟨p, rfl, upd_same⟩
abbrev N_is_long : List Str := ["value"]
theorem sc_is_long : FnScope ["value"] ["value"] (defScope s_is_long) := ⟨rfl, rfl, rfl, by decide +kernel, rfl, by decide +kernel, by decide +kernel⟩
theorem ok_islong {f : Addr} {fd : FuncData} (B : Bt K mg a_BOUNDS a_LONG_BOUNDS tL tM) (D : Df K mg "is_long" s_is_long ["value"] f fd) (Gsizes_within : Cl P w K mg base 4 "sizes_within" ["value", "bounds"] (spSizes K)) : FnOk P w K mg base CX0 5 f fd ["value"] (spIs (40, 40, 200)) := by
  refine D.F.ok sc_is_long (fun vs H Q E h => ?_) (fun cdv A outer s H vs Q E hr h => ?_)
  · obtain ⟨v, d, rfl, _⟩ := h
    rfl
  obtain ⟨v, d, rfl, hR, hF, hZ, q⟩ := h
  refine ⟨_, (pss_one (ps_ret (pe_cmpR op_notN (pe_cl Gsizes_within (hr.mono (by omega)) rfl (pa_cons (pv 0) (pa_cons (pe_glob (v := .ref a_LONG_BOUNDS) rfl B.g_LONG_BOUNDS rfl) pa_nil))) pe_non (nomark _)))), ?_⟩
  refine ⟨_, rfl, v, d, a_LONG_BOUNDS, (40, 40, 200), rfl, hR, hF, hZ, B.tG _, fun r H' hs hr2 => ⟨rfl, ?_⟩⟩
  have e : (!decide (r = V.non)) = (sizesOf (40, 40, 200) d).isSome := by
    cases h : sizesOf (40, 40, 200) d with
    | none =>
      rw [h] at hr2
      have : r = .non := hr2
      subst this
      rfl
    | some a =>
      rw [h] at hr2
      obtain ⟨p, rfl, _⟩ := hr2
      rfl
  rw [e]
  exact q _ hs
def isTextD (m : Nat) : My.D → Bool
  | .str z => decide (z.length ≤ m) && z.cps.toList.all (fun c => decide (c ∈ (Str.ofString "abcd").cps.toList))
  | _ => false
def isWord (d : My.D) : Bool := isTextD 24 d
def spIsText : Sp := fun vs H Q _ => ∃ (v : V) (d : My.D) (m : Nat), vs = [v, .int m] ∧ Rep H v d ∧ ∀ H', Same H H' → Q (.bl (isTextD m d)) H'
def spIsWord : Sp := fun vs H Q _ => ∃ (v : V) (d : My.D), vs = [v] ∧ Rep H v d ∧ ∀ H', Same H H' → Q (.bl (isWord d)) H'
end
end My
namespace My
open PySem PySem.Spec PyProof.Rows L2
def spCheck : Sp := fun vs H Q _ => ∃ (v : V) (d : My.D), vs = [v] ∧ Rep H v d ∧ Fl d ∧ d.size ≤ 1000000 ∧ (sizesOf (40, 40, 200) d).isSome = true ∧ ∀ H', Same H H' → Q .non H'
section
variable {P : Program} {w : World} {K : PySem.W.Frag} {mg : Str → Option Value} {base : Heap} {a_BOUNDS a_LONG_BOUNDS : Addr} {tL tM : Tok}
/-- what stands at an expression that is no letter -/
theorem node_of {H : Hp} {v : V} {e : E} (hok : e.ok = true) (hR : Rep H v e.toD) (hs : ¬ isStr e.toD = true) : ∃ (w : Str) (y : My.D) (p : Addr) (x : V), w.length ≤ 1000 ∧ v = .ref p ∧ H p = some (.tup [.str w, x]) ∧ Rep H x y ∧
    (((w = sMaybe ∧ ∃ k, e = .maybe k ∧ y = k.toD) ∨ (w = sMany ∧ ∃ k, e = .many k ∧ y = k.toD)) ∨ ((w = sJoin ∧ ∃ es, e = .join es ∧ 2 ≤ es.length ∧ y = .tup (es.map E.toD)) ∨ (w = sOr ∧ ∃ es, e = .alt es ∧ 2 ≤ es.length ∧ y = .tup (es.map E.toD)))) := by
  have two : ∀ (w : Str) (y : My.D), e.toD = .tup [.str w, y] → ∃ p x, w.length ≤ 1000 ∧ v = .ref p ∧ H p = some (.tup [.str w, x]) ∧ Rep H x y := fun w y c => by
    rw [c] at hR
    obtain ⟨p, xs, rfl, hp, hz, hX⟩ := hR.untup
    match xs, hX with
    | [_, x], .cons (.str h) (.cons hx .nil) => exact ⟨p, x, h, rfl, hp, hx⟩
  cases e with
  | eps => exact absurd (by rw [E.toD]; rfl) hs
  | sym c => exact absurd (by rw [E.toD]; rfl) hs
  | maybe k =>
    obtain ⟨p, x, h0, h1, h2, h3⟩ := two sMaybe k.toD (by rw [E.toD])
    exact ⟨_, _, p, x, h0, h1, h2, h3, .inl (.inl ⟨rfl, k, rfl, rfl⟩)⟩
  | many k =>
    obtain ⟨p, x, h0, h1, h2, h3⟩ := two sMany k.toD (by rw [E.toD])
    exact ⟨_, _, p, x, h0, h1, h2, h3, .inl (.inr ⟨rfl, k, rfl, rfl⟩)⟩
  | join es =>
    rw [E.ok, oks_eq] at hok
    simp only [Bool.and_eq_true, decide_eq_true_eq] at hok
    obtain ⟨p, x, h0, h1, h2, h3⟩ := two sJoin (.tup (es.map E.toD)) (by rw [E.toD, toDs_eq])
    exact ⟨_, _, p, x, h0, h1, h2, h3, .inr (.inl ⟨rfl, es, rfl, hok.1.1, rfl⟩)⟩
  | alt es =>
    rw [E.ok, oks_eq] at hok
    simp only [Bool.and_eq_true, decide_eq_true_eq] at hok
    obtain ⟨p, x, h0, h1, h2, h3⟩ := two sOr (.tup (es.map E.toD)) (by rw [E.toD, toDs_eq])
    exact ⟨_, _, p, x, h0, h1, h2, h3, .inr (.inr ⟨rfl, es, rfl, hok.1.1, rfl⟩)⟩
abbrev N_check_long : List Str := ["value"]
theorem sc_check_long : FnScope ["value"] ["value"] (defScope s_check_long) := ⟨rfl, rfl, rfl, by decide +kernel, rfl, by decide +kernel, by decide +kernel⟩
theorem ok_checklong {f : Addr} {fd : FuncData} (B : Bt K mg a_BOUNDS a_LONG_BOUNDS tL tM) (Dd : Df K mg "check_long" s_check_long ["value"] f fd) (Gis_long : Cl P w K mg base 5 "is_long" ["value"] (spIs (40, 40, 200))) : FnOk P w K mg base CX0 6 f fd ["value"] spCheck := by
  refine Dd.F.ok sc_check_long (fun vs H Q Ex h => ?_) (fun cdv A outer s H vs Q Ex hr h => ?_)
  · obtain ⟨v, d, rfl, _⟩ := h
    rfl
  obtain ⟨v, d, rfl, hR, hF, hz, hs, q⟩ := h
  refine ⟨_, (pss_one (ps_if (pt_not (pt_val (pe_cl Gis_long (hr.mono (by omega)) rfl (pa_cons (pv 0) pa_nil)))) (pss_one ps_never) pss_nil)), ?_⟩
  refine ⟨_, rfl, v, d, rfl, hR, hF, hz, fun H1 s1 => ?_⟩
  rw [hs]
  exact ⟨_, rfl, iteF (q H1 s1)⟩
end
end My
namespace My
open PySem PySem.Spec PyProof.Rows L2
def natsV (xs : List Nat) : List V := xs.map fun (i : Nat) => V.int (i : Int)
def LetAt (H : Hp) (la : Addr) (cs : List Nat) : Prop := H la = some (.lst (cs.map fun c => V.str ⟨#[c]⟩))
abbrev Rl := Nat → Nat → Prop
structure RowsAt (H0 H : Hp) (ra : Addr) (n : Nat) (F : Rl) : Prop where
  ex : ∃ ds : List Addr, H ra = some (.lst (ds.map V.ref)) ∧ ds.length = n ∧ ds.Nodup ∧ ∀ i d, ds[i]? = some d → ∃ ms : List Int, H d = some (.dK (keysD ms)) ∧ ms.Nodup ∧ ∀ x, x ∈ ms ↔ ∃ j : Nat, x = (j : Int) ∧ F i j
  bd : ∀ i j, F i j → j < 40
  dm : ∀ i j, F i j → i < n
  nw : ∀ ds : List Addr, H ra = some (.lst (ds.map V.ref)) → ∀ d ∈ ds, H0 d = none
/-- all but the two lists and the dicts is as it was -/
def Fr (la ra : Addr) (H H' : Hp) : Prop := ∀ b o, H b = some o → b ≠ la → b ≠ ra → (∀ kvs, o ≠ .dK kvs) → H' b = some o
theorem Fr.refl (la ra : Addr) (H : Hp) : Fr la ra H H := fun _ _ h _ _ _ => h
theorem Fr.trans {la ra : Addr} {H H1 H2 : Hp} (x : Fr la ra H H1) (y : Fr la ra H1 H2) : Fr la ra H H2 := fun b o h h1 h2 h3 => y b o (x b o h h1 h2 h3) h1 h2 h3
theorem Fr.same {la ra : Addr} {H H' : Hp} (s : Same H H') : Fr la ra H H' := fun b o h _ _ _ => s b o h
theorem RowsAt.eqv {H0 H : Hp} {ra : Addr} {n : Nat} {F F' : Rl} (h : RowsAt H0 H ra n F) (e : ∀ i j, F i j ↔ F' i j) : RowsAt H0 H ra n F' where
  ex := by
    obtain ⟨ds, h1, h2, h3, h4⟩ := h.ex
    refine ⟨ds, h1, h2, h3, fun i d hd => ?_⟩
    obtain ⟨ms, a, b, c⟩ := h4 i d hd
    exact ⟨ms, a, b, fun x => (c x).trans (exists_congr fun j => and_congr_right fun _ => e i j)⟩
  bd i j hf := h.bd i j ((e i j).mpr hf)
  dm i j hf := h.dm i j ((e i j).mpr hf)
  nw := h.nw
theorem RowsAt.same {H0 H H' : Hp} {ra : Addr} {n : Nat} {F : Rl} (h : RowsAt H0 H ra n F) (s : Same H H') : RowsAt H0 H' ra n F where
  ex := by
    obtain ⟨ds, h1, h2, h3, h4⟩ := h.ex
    refine ⟨ds, s _ _ h1, h2, h3, fun i d hd => ?_⟩
    obtain ⟨ms, a, b⟩ := h4 i d hd
    exact ⟨ms, s _ _ a, b⟩
  bd := h.bd
  dm := h.dm
  nw ds hds := by
    obtain ⟨ds', h1, _⟩ := h.ex
    have e := (s _ _ h1).symm.trans hds
    refine h.nw ds ?_
    rw [h1, Option.some.inj e]
theorem keysD_ne {ms : List Int} {H : Hp} {d b : Addr} (h : H d = some (.dK (keysD ms))) {o : HO} (hb : H b = some o) (n : ∀ kvs, o ≠ .dK kvs) : b ≠ d := fun e => by
  rw [e, h] at hb
  cases hb
  exact n _ rfl
/-- one more key in one row -/
theorem RowsAt.put {H0 H : Hp} {ra : Addr} {n : Nat} {F : Rl} (h : RowsAt H0 H ra n F) {i j : Nat} (hi : i < n) (hj : j < 40) : ∃ (ds : List Addr) (d : Addr) (ms : List Int), H ra = some (.lst (ds.map V.ref)) ∧ ds[i]? = some d ∧ H d = some (.dK (keysD ms)) ∧ (keysD ms).length < sizeLine ∧
    RowsAt H0 (upd H d (.dK (putK (keysD ms) (Sum.inl (j : Int) : Key) (V.bl true)))) ra n (fun a b => F a b ∨ (a = i ∧ b = j)) ∧ (∀ b o, H b = some o → (∀ kvs, o ≠ .dK kvs) → (upd H d (.dK (putK (keysD ms) (Sum.inl (j : Int) : Key) (V.bl true)))) b = some o) ∧ H0 d = none := by
  obtain ⟨ds, h1, h2, h3, h4⟩ := h.ex
  have hd : ds[i]? = some ds[i] := List.getElem?_eq_getElem (by omega)
  obtain ⟨ms, a, b, c⟩ := h4 i _ hd
  have hlen : ms.length ≤ 40 := nodup_len 40 ms b fun x hx => by
    obtain ⟨j', rfl, hf⟩ := (c x).mp hx
    have := h.bd i j' hf
    omega
  refine ⟨ds, ds[i], ms, h1, hd, a, by rw [keysD_len]; exact Nat.lt_of_le_of_lt hlen (by decide), ⟨⟨ds, ?_, h2, h3, fun i' d' hd' => ?_⟩, fun i' j' hf => ?_, fun i' j' hf => ?_, fun ds2 hds2 => ?_⟩, fun b' o hb hn => ?_, h.nw ds h1 _ (List.getElem_mem _)⟩
  · rw [upd_ne (keysD_ne a h1 fun kvs e => by cases e)]
    exact h1
  · by_cases e : i' = i
    · subst e
      have e2 : d' = ds[i'] := Option.some.inj (hd'.symm.trans hd)
      subst e2
      refine ⟨addK ms j, by rw [upd_same, putK_keys]; rfl, nodup_addK b, fun x => ?_⟩
      rw [mem_addK, c]
      constructor
      · rintro (⟨j', rfl, hf⟩ | rfl)
        · exact ⟨j', rfl, .inl hf⟩
        · exact ⟨j, rfl, .inr ⟨rfl, rfl⟩⟩
      · rintro ⟨j', rfl, hf | ⟨_, rfl⟩⟩
        · exact .inl ⟨j', rfl, hf⟩
        · exact .inr rfl
    · have n' : d' ≠ ds[i] := fun z => e (nd_ix h3 hd' (by rw [z]; exact hd))
      obtain ⟨ms', a', b', c'⟩ := h4 i' d' hd'
      refine ⟨ms', by rw [upd_ne n']; exact a', b', fun x => (c' x).trans ?_⟩
      constructor
      · rintro ⟨j', rfl, hf⟩
        exact ⟨j', rfl, .inl hf⟩
      · rintro ⟨j', rfl, hf | ⟨z, _⟩⟩
        · exact ⟨j', rfl, hf⟩
        · exact absurd z e
  · rcases hf with hf | ⟨_, rfl⟩
    · exact h.bd i' j' hf
    · exact hj
  · rcases hf with hf | ⟨rfl, _⟩
    · exact h.dm i' j' hf
    · exact hi
  · rw [upd_ne (keysD_ne a h1 fun kvs e => by cases e)] at hds2
    exact h.nw ds2 hds2
  · rw [upd_ne (keysD_ne a hb hn)]
    exact hb
def spLink (K : PySem.W.Frag) : Sp := fun vs H Q _ => ∃ (H0 : Hp) (ra f g : Addr) (n : Nat) (F : Rl) (xs ys : List Nat), vs = [.ref ra, .ref f, .ref g] ∧ RowsAt H0 H ra n F ∧ H f = some (.lst (natsV xs)) ∧ H g = some (.lst (natsV ys)) ∧ (∀ i ∈ xs, i < n) ∧ (∀ j ∈ ys, j < 40) ∧
  ∀ H', (∀ b o, H b = some o → (∀ kvs, o ≠ .dK kvs) → H' b = some o) → (∀ b o, H0 b = some o → H b = some o → H' b = some o) → RowsAt H0 H' ra n (fun i j => F i j ∨ (i ∈ xs ∧ j ∈ ys)) → Q .non H'
theorem mem_take_nat {xs : List Nat} {i z : Nat} (h : xs[i]? = some z) (x : Nat) : x ∈ xs.take (i + 1) ↔ x ∈ xs.take i ∨ x = z := by
  rw [take_snoc h, List.mem_append, List.mem_singleton]
section
variable {P : Program} {w : World} {K : PySem.W.Frag} {mg : Str → Option Value} {base : Heap} {a_BOUNDS a_LONG_BOUNDS : Addr} {tL tM : Tok}
abbrev N__link : List Str := ["rows", "ends", "begins", "end", "begin"]
theorem sc__link : FnScope ["rows", "ends", "begins", "end", "begin"] ["rows", "ends", "begins"] (defScope s__link) := ⟨rfl, rfl, rfl, by decide +kernel, rfl, by decide +kernel, by decide +kernel⟩
theorem ok_link {f : Addr} {fd : FuncData} (B : Bt K mg a_BOUNDS a_LONG_BOUNDS tL tM) (Dd : Df K mg "_link" s__link ["rows", "ends", "begins"] f fd) : FnOk P w K mg base CX0 1 f fd ["rows", "ends", "begins"] (spLink K) := by
  refine Dd.F.ok sc__link (fun vs H Q Ex h => ?_) (fun cdv A outer s H vs Q Ex hr h => ?_)
  · obtain ⟨H0, ra, f, g, n, F, xs, ys, rfl, _⟩ := h
    rfl
  obtain ⟨H0, ra, fa, ga, n, F, xs, ys, rfl, hRw, hF, hG, hx, hy, q⟩ := h
  refine ⟨_, (pss_one (ps_for PassesOwn.never rfl (pi_list (pv 1)) (pg_name (i := 3) sc__link.nd rfl (Or.inl rfl)) (pss_one (ps_for PassesOwn.never rfl (pi_list (pv 2)) (pg_name (i := 4) sc__link.nd rfl (Or.inl rfl)) (pss_one (ps_dput (hu_of hr) (pe_ix (r := rIxL K) ix_list (pv 0) (pv 3) (fun _ _ => rfl)) (pv 4) pe_bl rfl)))))), ?_⟩
  have nd : ∀ (xs : List V) kvs, HO.lst xs ≠ .dK kvs := fun _ _ e => by cases e
  refine ⟨_, rfl, fa, rfl, ⟨_, SqL.of hF⟩, for_list (K := K) (a := fa) (xs := natsV xs) (fun i σ' H' => ∃ o1 o2 : Option V, σ' = [some (.ref ra), some (.ref fa), some (.ref ga), o1, o2] ∧ (∀ b o, H b = some o → (∀ kvs, o ≠ .dK kvs) → H' b = some o) ∧ (∀ b o, H0 b = some o → H b = some o → H' b = some o) ∧ RowsAt H0 H' ra n (fun a b => F a b ∨ (a ∈ xs.take i ∧ b ∈ ys)))
    ⟨none, none, rfl, fun b o h _ => h, fun b o _ h => h, hRw.eqv fun i j => by simp⟩ (fun i σ' H' _ h => ?_) (fun i y σ' H' hi h => ?_) (fun σ' H' h => ?_)⟩
  · obtain ⟨_, _, _, h1, _⟩ := h
    exact SqL.of (h1 _ _ hF (nd _))
  · obtain ⟨o1, o2, rfl, h1, h0, h2⟩ := h
    unfold natsV at hi
    rw [List.getElem?_map] at hi
    obtain ⟨z, hz, rfl⟩ := Option.map_eq_some_iff.mp hi
    have hzm := List.mem_of_getElem? hz
    refine ⟨_, rfl, ga, rfl, ⟨_, SqL.of (h1 _ _ hG (nd _))⟩, for_list (K := K) (a := ga) (xs := natsV ys) (fun j σ' H' => ∃ o2 : Option V, σ' = [some (.ref ra), some (.ref fa), some (.ref ga), some (.int z), o2] ∧ (∀ b o, H b = some o → (∀ kvs, o ≠ .dK kvs) → H' b = some o) ∧ (∀ b o, H0 b = some o → H b = some o → H' b = some o) ∧ RowsAt H0 H' ra n (fun a b => F a b ∨ (a ∈ xs.take i ∧ b ∈ ys) ∨ (a = z ∧ b ∈ ys.take j)))
      ⟨o2, rfl, h1, h0, h2.eqv fun i j => by simp⟩ (fun j σ' H' _ h => ?_) (fun j y σ' H' hj h => ?_) (fun σ' H' h => ?_)⟩
    · obtain ⟨_, _, h1, _⟩ := h
      exact SqL.of (h1 _ _ hG (nd _))
    · obtain ⟨o2, rfl, g1, g0, g2⟩ := h
      unfold natsV at hj
      rw [List.getElem?_map] at hj
      obtain ⟨u, hu, rfl⟩ := Option.map_eq_some_iff.mp hj
      have hum := List.mem_of_getElem? hu
      obtain ⟨ds, d, ms, p1, p2, p3, p4, p5, p6, p7⟩ := g2.put (hx z hzm) (hy u hum)
      refine ⟨_, rfl, _, rfl, ra, _, (z : Int), .ref d, rfl, rfl, SqL.of p1, at_of (j := z) rfl (by rw [List.getElem?_map, p2]; rfl), _, rfl, d, _, rfl, DPut.k (k := Sum.inl (u : Int)) p3 p4, _, rfl, fun b o hb hn => p6 b o (g1 b o hb hn) hn, fun b o h0 hb => by rw [upd_ne (ne_of_none h0 p7)]; exact g0 b o h0 hb, p5.eqv fun a b => ?_⟩
      rw [mem_take_nat hu]
      constructor
      · rintro ((h | h | ⟨h, h'⟩) | ⟨h, h'⟩)
        · exact .inl h
        · exact .inr (.inl h)
        · exact .inr (.inr ⟨h, .inl h'⟩)
        · exact .inr (.inr ⟨h, .inr h'⟩)
      · rintro (h | h | ⟨h, h' | h'⟩)
        · exact .inl (.inl h)
        · exact .inl (.inr (.inl h))
        · exact .inl (.inr (.inr ⟨h, h'⟩))
        · exact .inr ⟨h, h'⟩
    · obtain ⟨o2, rfl, g1, g0, g2⟩ := h
      have e2 : (natsV ys).length = ys.length := List.length_map _
      rw [e2, List.take_length] at g2
      refine ⟨_, _, rfl, g1, g0, g2.eqv fun a b => ?_⟩
      rw [mem_take_nat hz]
      constructor
      · rintro (h | ⟨h, h'⟩ | ⟨h, h'⟩)
        · exact .inl h
        · exact .inr ⟨.inl h, h'⟩
        · exact .inr ⟨.inr h, h'⟩
      · rintro (h | ⟨h | h, h'⟩)
        · exact .inl h
        · exact .inr (.inl ⟨h, h'⟩)
        · exact .inr (.inr ⟨h, h'⟩)
  · obtain ⟨o1, o2, rfl, h1, h0, h2⟩ := h
    have e2 : (natsV xs).length = xs.length := List.length_map _
    rw [e2, List.take_length] at h2
    exact q H' h1 h0 h2
end
end My
namespace My
open PySem PySem.Spec PyProof.Rows L2
theorem map_ref_inj : ∀ {as bs : List Addr}, as.map V.ref = bs.map V.ref → as = bs
  | [], [], _ => rfl
  | [], _ :: _, h => by cases h
  | _ :: _, [], h => by cases h
  | a :: as, b :: bs, h => by
    rw [List.map_cons, List.map_cons] at h
    have h1 := List.cons.inj h
    rw [V.ref.inj h1.1, map_ref_inj h1.2]
structure EndsR (H0 H H' : Hp) (la ra : Addr) (cs ls : List Nat) (pl : Nat) (F : Rl) (g : Gl) (f l : Addr) : Prop where
  fr : Fr la ra H H'
  le : LetAt H' la (cs ++ ls)
  k0 : Same H0 H'
  rw : RowsAt H0 H' ra (cs.length + pl) (fun i j => F i j ∨ (i, j) ∈ g.fol)
  fst : H' f = some (.lst (natsV g.fst))
  lst : H' l = some (.lst (natsV g.lst))
  f1 : f ≠ la
  f2 : f ≠ ra
  l1 : l ≠ la
  l2 : l ≠ ra
theorem EndsR.eqv {H0 H H' : Hp} {la ra : Addr} {cs ls : List Nat} {pl : Nat} {F : Rl} {g g' : Gl} {f l : Addr} (e : Eqv g g') (h : EndsR H0 H H' la ra cs ls pl F g f l) : EndsR H0 H H' la ra cs ls pl F g' f l :=
  ⟨h.fr, h.le, h.k0, h.rw.eqv fun i j => or_congr Iff.rfl (e.fol (i, j)), by rw [← e.fst]; exact h.fst, by rw [← e.lst]; exact h.lst, h.f1, h.f2, h.l1, h.l2⟩
theorem EndsR.same {H0 H H' H'' : Hp} {la ra : Addr} {cs ls : List Nat} {pl : Nat} {F : Rl} {g : Gl} {f l : Addr} (s : Same H' H'') (h : EndsR H0 H H' la ra cs ls pl F g f l) : EndsR H0 H H'' la ra cs ls pl F g f l :=
  ⟨h.fr.trans (Fr.same s), s _ _ h.le, h.k0.trans s, h.rw.same s, s _ _ h.fst, s _ _ h.lst, h.f1, h.f2, h.l1, h.l2⟩
theorem Fr.pers {la ra : Addr} {H H' : Hp} (x : Fr la ra H H') (h1 : ∃ xs, H la = some (.lst xs)) (h2 : ∃ xs, H ra = some (.lst xs)) (h3 : ∃ xs, H' la = some (.lst xs)) (h4 : ∃ xs, H' ra = some (.lst xs)) : Pers H H' := by
  obtain ⟨x1, h1⟩ := h1
  obtain ⟨x2, h2⟩ := h2
  refine ⟨fun b xs h => x b _ h (fun e => ?_) (fun e => ?_) (fun kvs e => by cases e), fun b xs h => ?_⟩
  · rw [e, h1] at h
    cases h
  · rw [e, h2] at h
    cases h
  · by_cases e1 : b = la
    · subst e1
      exact h3
    · by_cases e2 : b = ra
      · subst e2
        exact h4
      · exact ⟨xs, x b _ h e1 e2 fun kvs e => by cases e⟩
theorem RowsAt.isl {H0 H : Hp} {ra : Addr} {n : Nat} {F : Rl} (h : RowsAt H0 H ra n F) : ∃ xs, H ra = some (.lst xs) := by
  obtain ⟨ds, h1, _⟩ := h.ex
  exact ⟨_, h1⟩
theorem natsV_app (xs ys : List Nat) : natsV xs ++ natsV ys = natsV (xs ++ ys) := List.map_append.symm
theorem natsV_len (xs : List Nat) : (natsV xs).length = xs.length := List.length_map _
/-- what the three ask and promise -/
structure EndsP (H0 H : Hp) (la ra : Addr) (cs : List Nat) (F : Rl) (n : Nat) : Prop where
  ne : la ≠ ra
  le : LetAt H la cs
  rw : RowsAt H0 H ra cs.length F
  k0 : Same H0 H
  nl : H0 la = none
  nr : H0 ra = none
  sz : cs.length + n ≤ 40
def spEnds (n : Nat) : Sp := fun vs H Q _ => ∃ (H0 : Hp) (v : V) (la ra : Addr) (e : E) (cs : List Nat) (F : Rl), vs = [v, .ref la, .ref ra] ∧ e.ok = true ∧ e.depth < n ∧ Rep H v e.toD ∧ EndsP H0 H la ra cs F e.places ∧
  ∀ (t f l : Addr) (H' : Hp), H' t = some (.tup [.bl (gl e cs.length).nul, .ref f, .ref l]) → EndsR H0 H H' la ra cs e.letters e.places F (gl e cs.length) f l → Q (.ref t) H'
def spLeaf : Sp := fun vs H Q _ => ∃ (H0 : Hp) (z : Str) (la ra : Addr) (e : E) (cs : List Nat) (F : Rl), vs = [.str z, .ref la, .ref ra] ∧ ((z = sNo ∧ e = .eps) ∨ ∃ c, z = ⟨#[c]⟩ ∧ e = .sym c) ∧ EndsP H0 H la ra cs F e.places ∧
  ∀ (t f l : Addr) (H' : Hp), H' t = some (.tup [.bl (gl e cs.length).nul, .ref f, .ref l]) → EndsR H0 H H' la ra cs e.letters e.places F (gl e cs.length) f l → Q (.ref t) H'
def spRow (n : Nat) (G : List E → Nat → Gl) : Sp := fun vs H Q _ => ∃ (H0 : Hp) (p la ra : Addr) (xs : List V) (es : List E) (cs : List Nat) (F : Rl), vs = [.ref p, .ref la, .ref ra] ∧ H p = some (.tup xs) ∧ Two (Rep H) xs (es.map E.toD) ∧ (∀ e ∈ es, e.ok = true ∧ e.depth < n) ∧ EndsP H0 H la ra cs F (E.places.placess es) ∧
  ∀ (t f l : Addr) (H' : Hp), H' t = some (.tup [.bl (G es cs.length).nul, .ref f, .ref l]) → EndsR H0 H H' la ra cs (E.letters.letterss es) (E.places.placess es) F (G es cs.length) f l → Q (.ref t) H'
section
variable {P : Program} {w : World} {K : PySem.W.Frag} {mg : Str → Option Value} {base : Heap} {a_BOUNDS a_LONG_BOUNDS : Addr} {tL tM : Tok}
abbrev N__ends_of_leaf : List Str := ["part", "letters", "rows", "place"]
theorem sc__ends_of_leaf : FnScope ["part", "letters", "rows", "place"] ["part", "letters", "rows"] (defScope s__ends_of_leaf) := ⟨rfl, rfl, rfl, by decide +kernel, rfl, by decide +kernel, by decide +kernel⟩
theorem ok_leaf {f : Addr} {fd : FuncData} (B : Bt K mg a_BOUNDS a_LONG_BOUNDS tL tM) (Dd : Df K mg "_ends_of_leaf" s__ends_of_leaf ["part", "letters", "rows"] f fd) : FnOk P w K mg base CX0 1 f fd ["part", "letters", "rows"] spLeaf := by
  refine Dd.F.ok sc__ends_of_leaf (fun vs H Q Ex h => ?_) (fun cdv A outer s H vs Q Ex hr h => ?_)
  · obtain ⟨H0, z, la, ra, e, cs, F, rfl, _⟩ := h
    rfl
  obtain ⟨H0, z, la, ra, e, cs, F, rfl, he, hP, q⟩ := h
  refine ⟨_, (pss_cons (ps_if (pt_cmpR op_eq (pv 0) pe_str (nomark _)) (pss_one (ps_ret (pe_tup (pa_cons pe_bl (pa_cons (pe_lst pa_nil) (pa_cons (pe_lst pa_nil) pa_nil)))))) pss_nil)
    (pss_cons (ps_set (i := 3) sc__ends_of_leaf.nd rfl (Or.inl rfl) (pe_callB call_len rfl B.b_len boot_len (pa_cons (pv 1) pa_nil)))
    (pss_cons (ps_expr (pe_bm PySem.F.plainAttrs_list PySem.F.slot_list_append PySem.F.type_list_append mt_append (pv 1) (pa_cons (pv 0) pa_nil)))
    (pss_cons (ps_expr (pe_bm PySem.F.plainAttrs_list PySem.F.slot_list_append PySem.F.type_list_append mt_append (pv 2) (pa_cons pe_dnewK pa_nil)))
    (pss_one (ps_ret (pe_tup (pa_cons pe_bl (pa_cons (pe_lst (pa_cons (pv 3) pa_nil)) (pa_cons (pe_lst (pa_cons (pv 3) pa_nil)) pa_nil)))))))))), ?_⟩
  obtain ⟨hne, hLe, hRw, hk0, hnl, hnr, hsz⟩ := hP
  refine ⟨_, rfl, rfl, _, rfl, ite2 (fun e1 => ?_) (fun e1 => ?_)⟩
  · have hz := vstr e1
    rcases he with ⟨rfl, rfl⟩ | ⟨c, rfl, rfl⟩
    · refine ⟨Nat.zero_le _, fun f hf => ⟨Nat.zero_le _, fun l hl => ⟨(by show 3 ≤ sizeLine; decide), fun t ht => ?_⟩⟩⟩
      have s2 := (same_upd (o := .lst []) hf).trans (same_upd (o := .lst []) hl)
      have s3 := s2.trans (same_upd (o := .tup [.bl true, .ref f, .ref l]) ht)
      have hfl : f ≠ l := fun c => by rw [← c, upd_same] at hl; cases hl
      obtain ⟨xr, hxr⟩ := hRw.isl
      refine q t f l _ upd_same ⟨Fr.same s3, s3 _ _ (by rw [E.letters, List.append_nil]; exact hLe), hk0.trans s3, (hRw.same s3).eqv fun i j => ⟨.inl, fun h => h.elim id fun h => by cases h⟩, ?_, ?_, ?_, ?_, ?_, ?_⟩
      · exact (same_upd ht) _ _ ((same_upd hl) _ _ upd_same)
      · exact (same_upd ht) _ _ upd_same
      · exact (ne_of_none hLe hf).symm
      · exact (ne_of_none hxr hf).symm
      · exact (ne_of_none ((same_upd hf) _ _ hLe) hl).symm
      · exact (ne_of_none ((same_upd hf) _ _ hxr) hl).symm
    · have := congrArg Str.length hz
      have l0 : (Str.ofString "").length = 0 := lE
      rw [l0] at this
      cases this
  · have hz := vstrN e1
    rcases he with ⟨h, _⟩ | ⟨c, rfl, rfl⟩
    · exact absurd h hz
    · rw [E.places] at hsz
      obtain ⟨ds, r1, r2, r3, r4⟩ := hRw.ex
      refine ⟨_, rfl, _, cs.length, rfl, .inl ⟨_, SqL.of hLe, by rw [List.length_map]⟩, ?_⟩
      refine ⟨_, rfl, .inl ⟨rfl, _, SqL.of hLe⟩, _, rfl, la, _, _, rfl, rfl, hLe, ?_, ?_⟩
      · rw [List.length_map]
        exact Nat.lt_of_le_of_lt (m := 40) (by omega) (by decide)
      have hra1 : (upd H la (.lst (cs.map (fun c => V.str ⟨#[c]⟩) ++ [V.str ⟨#[c]⟩]))) ra = some (.lst (ds.map V.ref)) := by rw [upd_ne hne.symm]; exact r1
      refine ⟨_, rfl, .inl ⟨rfl, _, SqL.of hra1⟩, fun d hd => ⟨ra, _, _, rfl, rfl, (same_upd hd) _ _ hra1, ?_, ?_⟩⟩
      · rw [List.length_map]
        exact Nat.lt_of_le_of_lt (m := 40) (by omega) (by decide)
      have dla : d ≠ la := fun c => by rw [c, upd_same] at hd; cases hd
      have dra : d ≠ ra := (ne_of_none hra1 hd).symm
      have dH : H d = none := by rw [upd_ne dla] at hd; exact hd
      have hla2 : (upd (upd (upd H la (.lst (cs.map (fun c => V.str ⟨#[c]⟩) ++ [V.str ⟨#[c]⟩]))) d (.dK [])) ra (.lst (ds.map V.ref ++ [V.ref d]))) la = some (.lst ((cs ++ [c]).map (fun c => V.str ⟨#[c]⟩))) := by
        rw [upd_ne hne, upd_ne dla.symm, upd_same, List.map_append]
        rfl
      have hFr : Fr la ra H (upd (upd (upd H la (.lst (cs.map (fun c => V.str ⟨#[c]⟩) ++ [V.str ⟨#[c]⟩]))) d (.dK [])) ra (.lst (ds.map V.ref ++ [V.ref d]))) := fun b o hb h1 h2 _ => by
        rw [upd_ne h2, upd_ne (ne_of_none hb dH), upd_ne h1]
        exact hb
      have hS0 : Same H0 (upd (upd (upd H la (.lst (cs.map (fun c => V.str ⟨#[c]⟩) ++ [V.str ⟨#[c]⟩]))) d (.dK [])) ra (.lst (ds.map V.ref ++ [V.ref d]))) := fun b o hb => by
        rw [upd_ne (ne_of_none hb hnr), upd_ne (ne_of_none (hk0 _ _ hb) dH), upd_ne (ne_of_none hb hnl)]
        exact hk0 _ _ hb
      have hRow : RowsAt H0 (upd (upd (upd H la (.lst (cs.map (fun c => V.str ⟨#[c]⟩) ++ [V.str ⟨#[c]⟩]))) d (.dK [])) ra (.lst (ds.map V.ref ++ [V.ref d]))) ra (cs.length + 1) F := by
        have noF : ∀ j, ¬ F cs.length j := fun j hf => absurd (hRw.dm _ j hf) (Nat.lt_irrefl _)
        refine ⟨⟨ds ++ [d], by rw [upd_same, List.map_append]; rfl, by rw [List.length_append, r2]; rfl, ?_, fun i d' hd' => ?_⟩, hRw.bd, fun i j hf => Nat.lt_succ_of_lt (hRw.dm i j hf), fun ds2 hds2 x hx => ?_⟩
        · rw [List.nodup_append]
          refine ⟨r3, by simp, fun a ha b hb e => ?_⟩
          rw [List.mem_singleton] at hb
          obtain ⟨i, hi⟩ := List.getElem?_of_mem ha
          obtain ⟨ms, h1, _⟩ := r4 i a hi
          rw [e, hb, dH] at h1
          cases h1
        · rcases Nat.lt_or_ge i ds.length with hi | hi
          · rw [List.getElem?_append_left hi] at hd'
            obtain ⟨ms, h1, h2⟩ := r4 i d' hd'
            refine ⟨ms, ?_, h2⟩
            have n1 : d' ≠ ra := fun c => by rw [c, r1] at h1; cases h1
            have n2 : d' ≠ la := fun c => by
              have : H la = some (.lst (cs.map fun c => V.str ⟨#[c]⟩)) := hLe
              rw [c, this] at h1
              cases h1
            rw [upd_ne n1, upd_ne (ne_of_none h1 dH), upd_ne n2]
            exact h1
          · rw [List.getElem?_append_right hi] at hd'
            have hi2 : i - ds.length = 0 := by
              have := (List.getElem?_eq_some_iff.mp hd').1
              simp at this
              omega
            rw [hi2] at hd'
            cases hd'
            have hi3 : i = cs.length := by omega
            subst hi3
            refine ⟨[], by rw [upd_ne dra, upd_same]; rfl, List.nodup_nil, fun x => ⟨(fun h => by cases h), fun ⟨j, _, hf⟩ => absurd hf (noF j)⟩⟩
        · rw [upd_same] at hds2
          have e3 : ds.map V.ref ++ [V.ref d] = ds2.map V.ref := HO.lst.inj (Option.some.inj hds2)
          have e4 : ds ++ [d] = ds2 := map_ref_inj (by rw [List.map_append]; exact e3)
          rw [← e4] at hx
          rcases List.mem_append.mp hx with hx | hx
          · exact hRw.nw ds r1 x hx
          · rw [List.mem_singleton] at hx
            subst hx
            exact hk0.free dH
      refine ⟨_, rfl, (by show 1 ≤ sizeLine; decide), fun f hf => ⟨_, rfl, (by show 1 ≤ sizeLine; decide), fun l hl => ⟨(by show 3 ≤ sizeLine; decide), fun t ht => ?_⟩⟩⟩
      have s3 := (same_upd (o := .lst [V.int (cs.length : Int)]) hf).trans ((same_upd (o := .lst [V.int (cs.length : Int)]) hl).trans (same_upd (o := .tup [.bl false, .ref f, .ref l]) ht))
      obtain ⟨xr, hxr⟩ := hRow.isl
      refine q t f l _ upd_same ⟨hFr.trans (Fr.same s3), s3 _ _ hla2, hS0.trans s3, (hRow.same s3).eqv fun i j => ⟨.inl, fun h => h.elim id fun h => by cases h⟩, ?_, ?_, ?_, ?_, ?_, ?_⟩
      · exact (same_upd ht) _ _ ((same_upd hl) _ _ upd_same)
      · exact (same_upd ht) _ _ upd_same
      · exact (ne_of_none hla2 hf).symm
      · exact (ne_of_none hxr hf).symm
      · exact (ne_of_none ((same_upd hf) _ _ hla2) hl).symm
      · exact (ne_of_none ((same_upd hf) _ _ hxr) hl).symm
end
end My
namespace My
open PySem PySem.Spec PyProof.Rows L2
theorem placess_snoc (es : List E) (e : E) : E.places.placess (es ++ [e]) = E.places.placess es + e.places := by
  rw [placess_eq, placess_eq, List.map_append, List.sum_append]
  show _ + (e.places + 0) = _
  omega
theorem placess_take (es : List E) (i : Nat) : E.places.placess (es.take i) ≤ E.places.placess es := by
  have e := List.take_append_drop i es
  have : E.places.placess es = E.places.placess (es.take i) + E.places.placess (es.drop i) := by
    rw [placess_eq, placess_eq, placess_eq, ← List.sum_append, ← List.map_append, e]
  omega
section
variable {P : Program} {w : World} {K : PySem.W.Frag} {mg : Str → Option Value} {base : Heap} {a_BOUNDS a_LONG_BOUNDS : Addr} {tL tM : Tok}
abbrev N__ends_of_join : List Str := ["parts", "letters", "rows", "empty", "first", "last", "part", "part_empty", "part_first", "part_last"]
theorem sc__ends_of_join : FnScope ["parts", "letters", "rows", "empty", "first", "last", "part", "part_empty", "part_first", "part_last"] ["parts", "letters", "rows"] (defScope s__ends_of_join) := ⟨rfl, rfl, rfl, by decide +kernel, rfl, by decide +kernel, by decide +kernel⟩
set_option maxHeartbeats 1000000 in
theorem ok_joinends {f : Addr} {fd : FuncData} (B : Bt K mg a_BOUNDS a_LONG_BOUNDS tL tM) (Dd : Df K mg "_ends_of_join" s__ends_of_join ["parts", "letters", "rows"] f fd) (G_link : Cl P w K mg base 1 "_link" ["rows", "ends", "begins"] (spLink K)) (n k : Nat) (hk1 : 1 ≤ k) (G_ends_of : Cl P w K mg base k "_ends_of" ["part", "letters", "rows"] (spEnds n)) : FnOk P w K mg base CX0 (k + 1) f fd ["parts", "letters", "rows"] (spRow n gl.glJ) := by
  refine Dd.F.ok sc__ends_of_join (fun vs H Q Ex h => ?_) (fun cdv A outer s H vs Q Ex hr h => ?_)
  · obtain ⟨H0, p, la, ra, xs, es, cs, F, rfl, _⟩ := h
    rfl
  obtain ⟨H0, p, la, ra, xs, es, cs, F, rfl, hp, hX, hes, hP, q⟩ := h
  obtain ⟨hne, hLe, hRw, hk0, hnl, hnr, hsz⟩ := hP
  refine ⟨_, (pss_cons (ps_par3 (i := 3) (j := 4) (l := 5) rfl sc__ends_of_join.nd rfl rfl rfl (by decide) (by decide) (by decide) rfl rfl rfl (pa_cons pe_bl (pa_cons (pe_lst pa_nil) (pa_cons (pe_lst pa_nil) pa_nil))) (by rfl))
    (pss_cons (ps_for PassesOwn.never rfl (pi_tup (pv 0)) (pg_name (i := 6) sc__ends_of_join.nd rfl (Or.inl rfl)) (pss_cons (ps_asg (pe_cl G_ends_of (hr.mono (by omega)) rfl (pa_cons (pv 6) (pa_cons (pv 1) (pa_cons (pv 2) pa_nil)))) (pg_tup rfl (pgs_cons (pg_name (i := 7) sc__ends_of_join.nd rfl (Or.inl rfl)) (pgs_cons (pg_name (i := 8) sc__ends_of_join.nd rfl (Or.inl rfl)) (pgs_cons (pg_name (i := 9) sc__ends_of_join.nd rfl (Or.inl rfl)) pgs_nil)))))
    (pss_cons (ps_expr (pe_cl G_link (hr.mono (by omega)) rfl (pa_cons (pv 2) (pa_cons (pv 5) (pa_cons (pv 8) pa_nil)))))
    (C8.pss_cut (ps_if (pt_truth (pv 3) (by intro _; rfl)) (pss_one (ps_set (i := 4) sc__ends_of_join.nd rfl (Or.inl rfl) (pe_op op_cat (pv 4) (pv 8)))) pss_nil)
    (C8.pss_cut (ps_set (i := 5) sc__ends_of_join.nd rfl (Or.inl rfl) (pe_ifExp (pt_truth (pv 7) (by intro _; rfl)) (pe_op op_cat (pv 5) (pv 9)) (pv 9)))
    (pss_one (ps_set (i := 3) sc__ends_of_join.nd rfl (Or.inl rfl) (pe_and (pv 3) (pe_one (pv 7))))))))))
    (pss_one (ps_ret (pe_tup (pa_cons (pv 3) (pa_cons (pv 4) (pa_cons (pv 5) pa_nil)))))))), ?_⟩
  have hl := hX.len
  rw [List.length_map] at hl
  obtain ⟨xr, hxr⟩ := hRw.isl
  refine ⟨Nat.zero_le _, fun f0 hf0 => ⟨Nat.zero_le _, fun l0 hl0 => ⟨_, _, _, rfl, ?_⟩⟩⟩
  have s0 := (same_upd (o := .lst []) hf0).trans (same_upd (o := .lst []) hl0)
  refine ⟨_, rfl, p, rfl, ⟨_, SqT.of (s0 _ _ hp)⟩, for_tup (K := K) (a := p) (xs := xs) (fun i σ' H' => ∃ (f l : Addr) (o1 o2 o3 o4 : Option V), σ' = [some (.ref p), some (.ref la), some (.ref ra), some (.bl (gl.glJ (es.take i) cs.length).nul), some (.ref f), some (.ref l), o1, o2, o3, o4] ∧ EndsR H0 H H' la ra cs (E.letters.letterss (es.take i)) (E.places.placess (es.take i)) F (gl.glJ (es.take i) cs.length) f l)
    ⟨f0, l0, none, none, none, none, rfl, ⟨Fr.same s0, s0 _ _ (by show H la = _; rw [List.take_zero]; show H la = some (.lst ((cs ++ []).map _)); rw [List.append_nil]; exact hLe), hk0.trans s0, (hRw.same s0).eqv fun i j => ⟨.inl, fun h => h.elim id fun h => by cases h⟩, (same_upd hl0) _ _ upd_same, upd_same, (ne_of_none hLe hf0).symm, (ne_of_none hxr hf0).symm, (ne_of_none ((same_upd hf0) _ _ hLe) hl0).symm, (ne_of_none ((same_upd hf0) _ _ hxr) hl0).symm⟩⟩
    (fun i σ' H' _ h => ?_) (fun i y σ' H' hi h => ?_) (fun σ' H' h => ?_)⟩
  · obtain ⟨f, l, o1, o2, o3, o4, _, hR⟩ := h
    refine SqT.of (hR.fr _ _ hp (fun c => ?_) (fun c => ?_) fun kvs c => by cases c)
    · rw [c] at hp
      have : H la = some (.lst (cs.map fun c => V.str ⟨#[c]⟩)) := hLe
      rw [this] at hp
      cases hp
    · rw [c, hxr] at hp
      cases hp
  · obtain ⟨f, l, o1, o2, o3, o4, rfl, hR⟩ := h
    obtain ⟨d, hd1, hxd⟩ := hX.get hi
    rw [List.getElem?_map] at hd1
    obtain ⟨e, he, rfl⟩ := Option.map_eq_some_iff.mp hd1
    have hem := List.mem_of_getElem? he
    have hPers : Pers H H' := hR.fr.pers ⟨_, hLe⟩ ⟨_, hxr⟩ ⟨_, hR.le⟩ hR.rw.isl
    have hpl : E.places.placess (es.take (i + 1)) = E.places.placess (es.take i) + e.places := by rw [take_snoc he, placess_snoc]
    have hpt := placess_take es (i + 1)
    have hcl : (cs ++ E.letters.letterss (es.take i)).length = cs.length + E.places.placess (es.take i) := by rw [List.length_append, letterss_len]
    -- the part
    refine ⟨_, rfl, _, rfl, _, rfl, H0, y, la, ra, e, cs ++ E.letters.letterss (es.take i), _, rfl, (hes e hem).1, (hes e hem).2, hxd.pers hPers, ⟨hne, hR.le, by rw [hcl]; exact hR.rw, hR.k0, hnl, hnr, by rw [hcl]; omega⟩, fun t2 f2 l2 H2 ht2 hR2 => ?_⟩
    rw [hcl] at ht2 hR2
    refine ⟨t2, _, rfl, SqT.of ht2, rfl, _, _, rfl, _, _, rfl, _, _, rfl, rfl, ?_⟩
    -- the frame so far
    have W1 : Within (gl.glJ (es.take i) cs.length) cs.length (E.places.placess (es.take i)) := glJ_within _ _
    have W2 : Within (gl e (cs.length + E.places.placess (es.take i))) (cs.length + E.places.placess (es.take i)) e.places := gl_within _ _
    have hfst : H2 f = some (.lst (natsV (gl.glJ (es.take i) cs.length).fst)) := hR2.fr _ _ hR.fst hR.f1 hR.f2 fun kvs c => by cases c
    have hlst : H2 l = some (.lst (natsV (gl.glJ (es.take i) cs.length).lst)) := hR2.fr _ _ hR.lst hR.l1 hR.l2 fun kvs c => by cases c
    refine ⟨_, rfl, _, rfl, _, rfl, H0, ra, l, f2, _, _, _, _, rfl, hR2.rw, hlst, hR2.fst, fun x hx => by have := W1.lst x hx; omega, fun x hx => by have := W2.fst x hx; omega, fun H3 h3 h30 hRw3 => ?_⟩
    have nd : ∀ (xs : List V) kvs, HO.lst xs ≠ .dK kvs := fun _ _ c => by cases c
    have fst3 := h3 _ _ hfst (nd _)
    have lst3 := h3 _ _ hlst (nd _)
    have f23 := h3 _ _ hR2.fst (nd _)
    have l23 := h3 _ _ hR2.lst (nd _)
    have le3 : LetAt H3 la ((cs ++ E.letters.letterss (es.take i)) ++ e.letters) := h3 _ _ hR2.le (nd _)
    have fr3 : Fr la ra H H3 := (hR.fr.trans hR2.fr).trans fun b o hb h1 h2 h4 => h3 b o hb h4
    obtain ⟨x3, hx3⟩ := hRw3.isl
    have k03 : Same H0 H3 := fun b o hb => h30 b o hb (hR2.k0 b o hb)
    -- first
    refine ⟨fun σ' H' => ∃ f3 : Addr, σ' = [some (.ref p), some (.ref la), some (.ref ra), some (.bl (gl.glJ (es.take i) cs.length).nul), some (.ref f3), some (.ref l), some y, some (.bl (gl e (cs.length + E.places.placess (es.take i))).nul), some (.ref f2), some (.ref l2)] ∧ Same H3 H' ∧ f3 ≠ la ∧ f3 ≠ ra ∧ H' f3 = some (.lst (natsV ((gl.glJ (es.take i) cs.length).seq (gl e (cs.length + E.places.placess (es.take i)))).fst)), ?_, ?_⟩
    · refine ⟨_, rfl, _, rfl, ite2 (fun c => ?_) (fun c => ?_)⟩
      · refine ⟨_, rfl, _, rfl, f, f2, _, _, rfl, rfl, fst3, f23, ?_, fun f3 hf3 => ⟨f3, rfl, same_upd hf3, (ne_of_none le3 hf3).symm, (ne_of_none hx3 hf3).symm, ?_⟩⟩
        · rw [natsV_len, natsV_len]
          have a1 := (glJ_len (es.take i) cs.length).fst
          have a2 := (gl_len e (cs.length + E.places.placess (es.take i))).fst
          exact Nat.le_trans (m := 40) (by omega) (by decide)
        · rw [upd_same, natsV_app]
          unfold Gl.seq
          rw [if_pos c]
      · refine ⟨f, rfl, Same.refl H3, hR.f1, hR.f2, ?_⟩
        rw [fst3]
        unfold Gl.seq
        rw [if_neg c, List.append_nil]
    rintro σ' H4 ⟨f3, rfl, s4, f3l, f3r, hf3⟩
    have lst4 := s4 _ _ lst3
    have l24 := s4 _ _ l23
    have le4 := s4 _ _ le3
    have hx4 := s4 _ _ hx3
    -- last
    refine ⟨fun σ' H' => ∃ l3 : Addr, σ' = [some (.ref p), some (.ref la), some (.ref ra), some (.bl (gl.glJ (es.take i) cs.length).nul), some (.ref f3), some (.ref l3), some y, some (.bl (gl e (cs.length + E.places.placess (es.take i))).nul), some (.ref f2), some (.ref l2)] ∧ Same H4 H' ∧ l3 ≠ la ∧ l3 ≠ ra ∧ H' l3 = some (.lst (natsV ((gl.glJ (es.take i) cs.length).seq (gl e (cs.length + E.places.placess (es.take i)))).lst)), ?_, ?_⟩
    · refine ⟨_, rfl, _, rfl, ite2 (fun c => ?_) (fun c => ?_)⟩
      · refine ⟨_, rfl, _, rfl, l, l2, _, _, rfl, rfl, lst4, l24, ?_, fun l3 hl3 => ⟨l3, rfl, same_upd hl3, (ne_of_none le4 hl3).symm, (ne_of_none hx4 hl3).symm, ?_⟩⟩
        · rw [natsV_len, natsV_len]
          have a1 := (glJ_len (es.take i) cs.length).lst
          have a2 := (gl_len e (cs.length + E.places.placess (es.take i))).lst
          exact Nat.le_trans (m := 40) (by omega) (by decide)
        · rw [upd_same, natsV_app]
          unfold Gl.seq
          rw [if_pos c]
      · refine ⟨_, rfl, l2, rfl, Same.refl H4, hR2.l1, hR2.l2, ?_⟩
        rw [l24]
        unfold Gl.seq
        rw [if_neg c, List.nil_append]
    rintro σ' H5 ⟨l3, rfl, s5, l3l, l3r, hl3⟩
    have S5 := s4.trans s5
    -- empty
    have fin : ∀ b : Bool, b = ((gl.glJ (es.take i) cs.length).seq (gl e (cs.length + E.places.placess (es.take i)))).nul → ∃ (f l : Addr) (o1 o2 o3 o4 : Option V), ([some (.ref p), some (.ref la), some (.ref ra), some (.bl b), some (.ref f3), some (.ref l3), some y, some (.bl (gl e (cs.length + E.places.placess (es.take i))).nul), some (.ref f2), some (.ref l2)] : L2.St) = [some (.ref p), some (.ref la), some (.ref ra), some (.bl (gl.glJ (es.take (i + 1)) cs.length).nul), some (.ref f), some (.ref l), o1, o2, o3, o4] ∧ EndsR H0 H H5 la ra cs (E.letters.letterss (es.take (i + 1))) (E.places.placess (es.take (i + 1))) F (gl.glJ (es.take (i + 1)) cs.length) f l := fun b hb => by
      have ev : Eqv ((gl.glJ (es.take i) cs.length).seq (gl e (cs.length + E.places.placess (es.take i)))) (gl.glJ (es.take (i + 1)) cs.length) := by
        have h := glJ_snoc (es.take i) e cs.length
        rw [← take_snoc he, ← placess_eq] at h
        exact ⟨h.nul.symm, h.fst.symm, h.lst.symm, fun x => (h.fol x).symm⟩
      refine ⟨f3, l3, _, _, _, _, by rw [hb, ev.nul], EndsR.eqv ev ⟨fr3.trans (Fr.same S5), ?_, k03.trans S5, ?_, s5 _ _ hf3, hl3, f3l, f3r, l3l, l3r⟩⟩
      · rw [take_snoc he, letterss_snoc, ← List.append_assoc]
        exact S5 _ _ le3
      · rw [hpl, ← Nat.add_assoc]
        rw [hcl] at hRw3
        refine (hRw3.same S5).eqv fun a b => ?_
        unfold Gl.seq
        simp only [List.mem_append, mem_prodL]
        constructor
        · rintro ((((h | h) | h) | h))
          · exact .inl h
          · exact .inr (.inl h)
          · exact .inr (.inr (.inr h))
          · exact .inr (.inr (.inl h))
        · rintro (h | h | h | h)
          · exact .inl (.inl (.inl h))
          · exact .inl (.inl (.inr h))
          · exact .inr h
          · exact .inl (.inr h)
    refine ⟨_, rfl, _, rfl, ite2 (fun c => ?_) (fun c => ?_)⟩
    · refine ⟨_, rfl, fin _ ?_⟩
      show _ = ((gl.glJ (es.take i) cs.length).nul && (gl e (cs.length + E.places.placess (es.take i))).nul)
      rw [c, Bool.true_and]
    · refine fin _ ?_
      show false = ((gl.glJ (es.take i) cs.length).nul && (gl e (cs.length + E.places.placess (es.take i))).nul)
      rw [Bool.eq_false_iff.mpr c, Bool.false_and]
  · obtain ⟨f, l, o1, o2, o3, o4, rfl, hR⟩ := h
    rw [hl, List.take_length] at hR
    refine ⟨_, rfl, _, rfl, _, rfl, (by show 3 ≤ sizeLine; decide), fun t ht => ?_⟩
    refine q t f l _ ?_ (hR.same (same_upd ht))
    rw [upd_same, hl, List.take_length]
abbrev N__ends_of_or : List Str := ["parts", "letters", "rows", "empty", "first", "last", "part", "part_empty", "part_first", "part_last"]
theorem sc__ends_of_or : FnScope ["parts", "letters", "rows", "empty", "first", "last", "part", "part_empty", "part_first", "part_last"] ["parts", "letters", "rows"] (defScope s__ends_of_or) := ⟨rfl, rfl, rfl, by decide +kernel, rfl, by decide +kernel, by decide +kernel⟩
set_option maxHeartbeats 1000000 in
theorem ok_orends {f : Addr} {fd : FuncData} (B : Bt K mg a_BOUNDS a_LONG_BOUNDS tL tM) (Dd : Df K mg "_ends_of_or" s__ends_of_or ["parts", "letters", "rows"] f fd) (n k : Nat) (G_ends_of : Cl P w K mg base k "_ends_of" ["part", "letters", "rows"] (spEnds n)) : FnOk P w K mg base CX0 (k + 1) f fd ["parts", "letters", "rows"] (spRow n gl.glA) := by
  refine Dd.F.ok sc__ends_of_or (fun vs H Q Ex h => ?_) (fun cdv A outer s H vs Q Ex hr h => ?_)
  · obtain ⟨H0, p, la, ra, xs, es, cs, F, rfl, _⟩ := h
    rfl
  obtain ⟨H0, p, la, ra, xs, es, cs, F, rfl, hp, hX, hes, hP, q⟩ := h
  obtain ⟨hne, hLe, hRw, hk0, hnl, hnr, hsz⟩ := hP
  refine ⟨_, (pss_cons (ps_par3 (i := 3) (j := 4) (l := 5) rfl sc__ends_of_or.nd rfl rfl rfl (by decide) (by decide) (by decide) rfl rfl rfl (pa_cons pe_bl (pa_cons (pe_lst pa_nil) (pa_cons (pe_lst pa_nil) pa_nil))) (by rfl))
    (pss_cons (ps_for PassesOwn.never rfl (pi_tup (pv 0)) (pg_name (i := 6) sc__ends_of_or.nd rfl (Or.inl rfl)) (pss_cons (ps_asg (pe_cl G_ends_of (hr.mono (by omega)) rfl (pa_cons (pv 6) (pa_cons (pv 1) (pa_cons (pv 2) pa_nil)))) (pg_tup rfl (pgs_cons (pg_name (i := 7) sc__ends_of_or.nd rfl (Or.inl rfl)) (pgs_cons (pg_name (i := 8) sc__ends_of_or.nd rfl (Or.inl rfl)) (pgs_cons (pg_name (i := 9) sc__ends_of_or.nd rfl (Or.inl rfl)) pgs_nil)))))
    (pss_cons (ps_set (i := 4) sc__ends_of_or.nd rfl (Or.inl rfl) (pe_op op_cat (pv 4) (pv 8)))
    (pss_cons (ps_set (i := 5) sc__ends_of_or.nd rfl (Or.inl rfl) (pe_op op_cat (pv 5) (pv 9)))
    (pss_one (ps_set (i := 3) sc__ends_of_or.nd rfl (Or.inl rfl) (pe_or (pv 3) (pe_one (pv 7)))))))))
    (pss_one (ps_ret (pe_tup (pa_cons (pv 3) (pa_cons (pv 4) (pa_cons (pv 5) pa_nil)))))))), ?_⟩
  have hl := hX.len
  rw [List.length_map] at hl
  obtain ⟨xr, hxr⟩ := hRw.isl
  refine ⟨Nat.zero_le _, fun f0 hf0 => ⟨Nat.zero_le _, fun l0 hl0 => ⟨_, _, _, rfl, ?_⟩⟩⟩
  have s0 := (same_upd (o := .lst []) hf0).trans (same_upd (o := .lst []) hl0)
  refine ⟨_, rfl, p, rfl, ⟨_, SqT.of (s0 _ _ hp)⟩, for_tup (K := K) (a := p) (xs := xs) (fun i σ' H' => ∃ (f l : Addr) (o1 o2 o3 o4 : Option V), σ' = [some (.ref p), some (.ref la), some (.ref ra), some (.bl (gl.glA (es.take i) cs.length).nul), some (.ref f), some (.ref l), o1, o2, o3, o4] ∧ EndsR H0 H H' la ra cs (E.letters.letterss (es.take i)) (E.places.placess (es.take i)) F (gl.glA (es.take i) cs.length) f l)
    ⟨f0, l0, none, none, none, none, rfl, ⟨Fr.same s0, s0 _ _ (by show H la = _; rw [List.take_zero]; show H la = some (.lst ((cs ++ []).map _)); rw [List.append_nil]; exact hLe), hk0.trans s0, (hRw.same s0).eqv fun i j => ⟨.inl, fun h => h.elim id fun h => by cases h⟩, (same_upd hl0) _ _ upd_same, upd_same, (ne_of_none hLe hf0).symm, (ne_of_none hxr hf0).symm, (ne_of_none ((same_upd hf0) _ _ hLe) hl0).symm, (ne_of_none ((same_upd hf0) _ _ hxr) hl0).symm⟩⟩
    (fun i σ' H' _ h => ?_) (fun i y σ' H' hi h => ?_) (fun σ' H' h => ?_)⟩
  · obtain ⟨f, l, o1, o2, o3, o4, _, hR⟩ := h
    refine SqT.of (hR.fr _ _ hp (fun c => ?_) (fun c => ?_) fun kvs c => by cases c)
    · rw [c] at hp
      have : H la = some (.lst (cs.map fun c => V.str ⟨#[c]⟩)) := hLe
      rw [this] at hp
      cases hp
    · rw [c, hxr] at hp
      cases hp
  · obtain ⟨f, l, o1, o2, o3, o4, rfl, hR⟩ := h
    obtain ⟨d, hd1, hxd⟩ := hX.get hi
    rw [List.getElem?_map] at hd1
    obtain ⟨e, he, rfl⟩ := Option.map_eq_some_iff.mp hd1
    have hem := List.mem_of_getElem? he
    have hPers : Pers H H' := hR.fr.pers ⟨_, hLe⟩ ⟨_, hxr⟩ ⟨_, hR.le⟩ hR.rw.isl
    have hpl : E.places.placess (es.take (i + 1)) = E.places.placess (es.take i) + e.places := by rw [take_snoc he, placess_snoc]
    have hpt := placess_take es (i + 1)
    have hcl : (cs ++ E.letters.letterss (es.take i)).length = cs.length + E.places.placess (es.take i) := by rw [List.length_append, letterss_len]
    refine ⟨_, rfl, _, rfl, _, rfl, H0, y, la, ra, e, cs ++ E.letters.letterss (es.take i), _, rfl, (hes e hem).1, (hes e hem).2, hxd.pers hPers, ⟨hne, hR.le, by rw [hcl]; exact hR.rw, hR.k0, hnl, hnr, by rw [hcl]; omega⟩, fun t2 f2 l2 H2 ht2 hR2 => ?_⟩
    rw [hcl] at ht2 hR2
    refine ⟨t2, _, rfl, SqT.of ht2, rfl, _, _, rfl, _, _, rfl, _, _, rfl, rfl, ?_⟩
    have hfst : H2 f = some (.lst (natsV (gl.glA (es.take i) cs.length).fst)) := hR2.fr _ _ hR.fst hR.f1 hR.f2 fun kvs c => by cases c
    have hlst : H2 l = some (.lst (natsV (gl.glA (es.take i) cs.length).lst)) := hR2.fr _ _ hR.lst hR.l1 hR.l2 fun kvs c => by cases c
    obtain ⟨x2, hx2⟩ := hR2.rw.isl
    refine ⟨_, rfl, _, rfl, f, f2, _, _, rfl, rfl, hfst, hR2.fst, ?_, fun f3 hf3 => ?_⟩
    · rw [natsV_len, natsV_len]
      have a1 := (glA_len (es.take i) cs.length).fst
      have a2 := (gl_len e (cs.length + E.places.placess (es.take i))).fst
      exact Nat.le_trans (m := 40) (by omega) (by decide)
    have s3 := same_upd (o := .lst (natsV (gl.glA (es.take i) cs.length).fst ++ natsV (gl e (cs.length + E.places.placess (es.take i))).fst)) hf3
    refine ⟨_, rfl, _, rfl, l, l2, _, _, rfl, rfl, s3 _ _ hlst, s3 _ _ hR2.lst, ?_, fun l3 hl3 => ?_⟩
    · rw [natsV_len, natsV_len]
      have a1 := (glA_len (es.take i) cs.length).lst
      have a2 := (gl_len e (cs.length + E.places.placess (es.take i))).lst
      exact Nat.le_trans (m := 40) (by omega) (by decide)
    have S3 := s3.trans (same_upd (o := .lst (natsV (gl.glA (es.take i) cs.length).lst ++ natsV (gl e (cs.length + E.places.placess (es.take i))).lst)) hl3)
    have fin : ∀ b : Bool, b = ((gl.glA (es.take i) cs.length).par (gl e (cs.length + E.places.placess (es.take i)))).nul → ∃ (f l : Addr) (o1 o2 o3 o4 : Option V), ([some (.ref p), some (.ref la), some (.ref ra), some (.bl b), some (.ref f3), some (.ref l3), some y, some (.bl (gl e (cs.length + E.places.placess (es.take i))).nul), some (.ref f2), some (.ref l2)] : L2.St) = [some (.ref p), some (.ref la), some (.ref ra), some (.bl (gl.glA (es.take (i + 1)) cs.length).nul), some (.ref f), some (.ref l), o1, o2, o3, o4] ∧ EndsR H0 H _ la ra cs (E.letters.letterss (es.take (i + 1))) (E.places.placess (es.take (i + 1))) F (gl.glA (es.take (i + 1)) cs.length) f l := fun b hb => by
      have ev : (gl.glA (es.take i) cs.length).par (gl e (cs.length + E.places.placess (es.take i))) = gl.glA (es.take (i + 1)) cs.length := by
        have h := glA_snoc (es.take i) e cs.length
        rw [← take_snoc he, ← placess_eq] at h
        exact h.symm
      rw [ev] at hb
      refine ⟨f3, l3, _, _, _, _, by rw [hb], ⟨(hR.fr.trans hR2.fr).trans (Fr.same S3), ?_, hR2.k0.trans S3, ?_, ?_, ?_, (ne_of_none hR2.le hf3).symm, (ne_of_none hx2 hf3).symm, (ne_of_none (s3 _ _ hR2.le) hl3).symm, (ne_of_none (s3 _ _ hx2) hl3).symm⟩⟩
      · rw [take_snoc he, letterss_snoc, ← List.append_assoc]
        exact S3 _ _ hR2.le
      · rw [hpl, ← Nat.add_assoc, ← ev]
        have hrw2 := hR2.rw
        rw [hcl] at hrw2
        refine (hrw2.same S3).eqv fun a b => ?_
        unfold Gl.par
        simp only [List.mem_append]
        constructor
        · rintro ((h | h) | h)
          · exact .inl h
          · exact .inr (.inl h)
          · exact .inr (.inr h)
        · rintro (h | h | h)
          · exact .inl (.inl h)
          · exact .inl (.inr h)
          · exact .inr h
      · rw [← ev]
        show _ = some (HO.lst (natsV ((gl.glA (es.take i) cs.length).fst ++ (gl e (cs.length + E.places.placess (es.take i))).fst)))
        rw [← natsV_app]
        exact (same_upd hl3) _ _ upd_same
      · rw [← ev]
        show _ = some (HO.lst (natsV ((gl.glA (es.take i) cs.length).lst ++ (gl e (cs.length + E.places.placess (es.take i))).lst)))
        rw [← natsV_app]
        exact upd_same
    refine ⟨_, rfl, _, rfl, ite2 (fun c => ?_) (fun c => ?_)⟩
    · refine fin _ ?_
      show true = ((gl.glA (es.take i) cs.length).nul || (gl e (cs.length + E.places.placess (es.take i))).nul)
      rw [c, Bool.true_or]
    · refine ⟨_, rfl, fin _ ?_⟩
      show _ = ((gl.glA (es.take i) cs.length).nul || (gl e (cs.length + E.places.placess (es.take i))).nul)
      rw [Bool.eq_false_iff.mpr c, Bool.false_or]
  · obtain ⟨f, l, o1, o2, o3, o4, rfl, hR⟩ := h
    rw [hl, List.take_length] at hR
    refine ⟨_, rfl, _, rfl, _, rfl, (by show 3 ≤ sizeLine; decide), fun t ht => ?_⟩
    refine q t f l _ ?_ (hR.same (same_upd ht))
    rw [upd_same, hl, List.take_length]
abbrev N__ends_of : List Str := ["part", "letters", "rows", "word", "inner", "_", "first", "last"]
theorem sc__ends_of : FnScope ["part", "letters", "rows", "word", "inner", "_", "first", "last"] ["part", "letters", "rows"] (defScope s__ends_of) := ⟨rfl, rfl, rfl, by decide +kernel, rfl, by decide +kernel, by decide +kernel⟩
set_option maxHeartbeats 1000000 in
theorem ok_ends_step {f : Addr} {fd : FuncData} (B : Bt K mg a_BOUNDS a_LONG_BOUNDS tL tM) (Dd : Df K mg "_ends_of" s__ends_of ["part", "letters", "rows"] f fd) (G_link : Cl P w K mg base 1 "_link" ["rows", "ends", "begins"] (spLink K)) (G_ends_of_leaf : Cl P w K mg base 1 "_ends_of_leaf" ["part", "letters", "rows"] spLeaf) (n k : Nat) (hk : 1 ≤ k)
    (G_ends_of : Cl P w K mg base k "_ends_of" ["part", "letters", "rows"] (spEnds n)) (G_ends_of_join : Cl P w K mg base (k + 1) "_ends_of_join" ["parts", "letters", "rows"] (spRow n gl.glJ)) (G_ends_of_or : Cl P w K mg base (k + 1) "_ends_of_or" ["parts", "letters", "rows"] (spRow n gl.glA)) : FnOk P w K mg base CX0 (k + 2) f fd ["part", "letters", "rows"] (spEnds (n + 1)) := by
  refine Dd.F.ok sc__ends_of (fun vs H Q Ex h => ?_) (fun cdv A outer s H vs Q Ex hr h => ?_)
  · obtain ⟨H0, v, la, ra, e, cs, F, rfl, _⟩ := h
    rfl
  obtain ⟨H0, v, la, ra, e, cs, F, rfl, hok, hd, hR, hP, q⟩ := h
  refine ⟨_, (pss_cons (ps_if (pt_val (pe_callB call_isi rfl B.b_isinstance boot_isinstance (pa_cons (pv 0) (pa_cons (pe_bltn (v := .ty "str") rfl B.b_str boot_str rfl) pa_nil)))) (pss_one (ps_ret (pe_cl G_ends_of_leaf (hr.mono (by omega)) rfl (pa_cons (pv 0) (pa_cons (pv 1) (pa_cons (pv 2) pa_nil)))))) pss_nil)
    (pss_cons (ps_asg (pv 0) (pg_tup rfl (pgs_cons (pg_name (i := 3) sc__ends_of.nd rfl (Or.inl rfl)) (pgs_cons (pg_name (i := 4) sc__ends_of.nd rfl (Or.inl rfl)) pgs_nil))))
    (pss_cons (ps_if (pt_cmpR op_eq (pv 3) pe_str (nomark _)) (pss_one (ps_ret (pe_cl G_ends_of_join (hr.mono (by omega)) rfl (pa_cons (pv 4) (pa_cons (pv 1) (pa_cons (pv 2) pa_nil)))))) pss_nil)
    (pss_cons (ps_if (pt_cmpR op_eq (pv 3) pe_str (nomark _)) (pss_one (ps_ret (pe_cl G_ends_of_or (hr.mono (by omega)) rfl (pa_cons (pv 4) (pa_cons (pv 1) (pa_cons (pv 2) pa_nil)))))) pss_nil)
    (pss_cons (ps_asg (pe_cl G_ends_of (hr.mono (by omega)) rfl (pa_cons (pv 4) (pa_cons (pv 1) (pa_cons (pv 2) pa_nil)))) (pg_tup rfl (pgs_cons (pg_name (i := 5) sc__ends_of.nd rfl (Or.inl rfl)) (pgs_cons (pg_name (i := 6) sc__ends_of.nd rfl (Or.inl rfl)) (pgs_cons (pg_name (i := 7) sc__ends_of.nd rfl (Or.inl rfl)) pgs_nil)))))
    (pss_cons (ps_if (pt_cmpR op_eq (pv 3) pe_str (nomark _)) (pss_one (ps_expr (pe_cl G_link (hr.mono (by omega)) rfl (pa_cons (pv 2) (pa_cons (pv 7) (pa_cons (pv 6) pa_nil)))))) pss_nil)
    (pss_one (ps_ret (pe_tup (pa_cons pe_bl (pa_cons (pv 6) (pa_cons (pv 7) pa_nil)))))))))))), ?_⟩
  obtain ⟨t, ht, k1, _⟩ := hR.ty (K := K)
  refine ⟨_, rfl, _, _, _, _, _, rfl, .ty _, ht, k1, _, rfl, ite2 (fun e1 => ?_) (fun e1 => ?_)⟩
  · obtain ⟨z, rfl, hz⟩ : ∃ z, v = .str z ∧ ((z = sNo ∧ e = .eps) ∨ ∃ c, z = ⟨#[c]⟩ ∧ e = .sym c) := by
      cases e with
      | eps => rw [E.toD] at hR; cases hR; exact ⟨_, rfl, .inl ⟨rfl, rfl⟩⟩
      | sym c => rw [E.toD] at hR; cases hR; exact ⟨_, rfl, .inr ⟨c, rfl, rfl⟩⟩
      | maybe k => exact absurd e1 (by rw [E.toD]; intro c; cases c)
      | many k => exact absurd e1 (by rw [E.toD]; intro c; cases c)
      | join es => exact absurd e1 (by rw [E.toD]; intro c; cases c)
      | alt es => exact absurd e1 (by rw [E.toD]; intro c; cases c)
    exact ⟨_, rfl, _, rfl, _, rfl, H0, z, la, ra, e, cs, F, rfl, hz, hP, q⟩
  · obtain ⟨w, y, p, x, hlw, rfl, hp, hx, hk'⟩ := node_of hok hR e1
    refine ⟨_, rfl, p, _, rfl, SqT.of hp, rfl, _, _, rfl, _, _, rfl, rfl, ?_⟩
    refine ⟨_, rfl, rfl, _, rfl, ite2 (fun e2 => ?_) (fun e2 => ?_)⟩
    · have hw := vstr e2
      rcases hk' with (⟨h, k, rfl, rfl⟩ | ⟨h, k, rfl, rfl⟩) | ⟨h, es, rfl, hes, rfl⟩ | ⟨h, es, rfl, _, rfl⟩
      · exact absurd (hw.symm.trans h) jm
      · exact absurd (hw.symm.trans h) jn
      · obtain ⟨p2, xs, rfl, hp2, hz2, hX⟩ := hx.untup
        refine ⟨_, rfl, _, rfl, _, rfl, H0, p2, la, ra, xs, es, cs, F, rfl, hp2, hX, fun k hk => ⟨ok_kids hok k hk, ?_⟩, hP, q⟩
        have := depth_kids (.join es) k hk
        omega
      · exact absurd (hw.symm.trans h) jo
    refine ⟨_, rfl, rfl, _, rfl, ite2 (fun e3 => ?_) (fun e3 => ?_)⟩
    · have hw := vstr e3
      rcases hk' with (⟨h, k, rfl, rfl⟩ | ⟨h, k, rfl, rfl⟩) | ⟨h, es, rfl, hes, rfl⟩ | ⟨h, es, rfl, _, rfl⟩
      · exact absurd (hw.symm.trans h) om
      · exact absurd (hw.symm.trans h) on
      · exact absurd (h.symm.trans hw) jo
      · obtain ⟨p2, xs, rfl, hp2, hz2, hX⟩ := hx.untup
        refine ⟨_, rfl, _, rfl, _, rfl, H0, p2, la, ra, xs, es, cs, F, rfl, hp2, hX, fun k hk => ⟨ok_kids hok k hk, ?_⟩, hP, q⟩
        have := depth_kids (.alt es) k hk
        omega
    have hk2 := hk'.resolve_right fun c => c.elim (fun h => vstrN e2 h.1) (fun h => vstrN e3 h.1)
    obtain ⟨k0, hy, hok0, hd0, hpl, hle, hwk⟩ : ∃ k0 : E, y = k0.toD ∧ k0.ok = true ∧ k0.depth < n ∧ e.places = k0.places ∧ e.letters = k0.letters ∧ ((w = sMaybe ∧ e = .maybe k0) ∨ (w = sMany ∧ e = .many k0)) := by
      rcases hk2 with ⟨h, k, rfl, rfl⟩ | ⟨h, k, rfl, rfl⟩
      · rw [E.ok] at hok
        rw [E.depth] at hd
        exact ⟨k, rfl, hok, by omega, by rw [E.places], by rw [E.letters], .inl ⟨h, rfl⟩⟩
      · rw [E.ok] at hok
        rw [E.depth] at hd
        exact ⟨k, rfl, hok, by omega, by rw [E.places], by rw [E.letters], .inr ⟨h, rfl⟩⟩
    subst hy
    rw [hpl] at hP
    refine ⟨_, rfl, _, rfl, _, rfl, H0, x, la, ra, k0, cs, F, rfl, hok0, hd0, hx, hP, fun t2 f2 l2 H2 ht2 hR2 => ?_⟩
    refine ⟨t2, _, rfl, SqT.of ht2, rfl, _, _, rfl, _, _, rfl, _, _, rfl, rfl, ?_⟩
    have fin : ∀ H3, EndsR H0 H H3 la ra cs e.letters e.places F (gl e cs.length) f2 l2 → ([V.bl true, .ref f2, .ref l2].length ≤ sizeLine ∧ ∀ t, H3 t = none → Q (.ref t) (upd H3 t (.tup [V.bl true, .ref f2, .ref l2]))) := fun H3 h3 => ⟨(by show 3 ≤ sizeLine; decide), fun t ht => q t f2 l2 _ (by
      rw [upd_same]
      have : (gl e cs.length).nul = true := by rcases hwk with ⟨_, rfl⟩ | ⟨_, rfl⟩ <;> (rw [gl])
      rw [this]) (h3.same (same_upd ht))⟩
    refine ⟨_, rfl, rfl, _, rfl, ite2 (fun e4 => ?_) (fun e4 => ?_)⟩
    · have hw := vstr e4
      have hem : e = .many k0 := by
        rcases hwk with ⟨h, _⟩ | ⟨_, h⟩
        · exact absurd (h.symm.trans hw) mn
        · exact h
      have W := gl_within k0 cs.length
      have hsz := hP.sz
      refine ⟨_, rfl, _, rfl, _, rfl, H0, ra, l2, f2, _, _, _, _, rfl, hR2.rw, hR2.lst, hR2.fst, fun i hi => (W.lst i hi).2, fun j hj => by have := W.fst j hj; omega, fun H3 h3 h30 hRw3 => ?_⟩
      have nd : ∀ (xs : List V) kvs, HO.lst xs ≠ .dK kvs := fun _ _ c => by cases c
      refine ⟨_, rfl, _, rfl, fin H3 ?_⟩
      rw [hpl, hle]
      subst hem
      refine ⟨hR2.fr.trans fun b o hb h1 h2 h4 => h3 b o hb h4, h3 _ _ hR2.le (nd _), fun b o hb => h30 b o hb (hR2.k0 b o hb), hRw3.eqv fun i j => ?_, ?_, ?_, hR2.f1, hR2.f2, hR2.l1, hR2.l2⟩
      · rw [gl]
        show _ ↔ F i j ∨ (i, j) ∈ (gl k0 cs.length).fol ++ prodL (gl k0 cs.length).lst (gl k0 cs.length).fst
        rw [List.mem_append, mem_prodL, or_assoc]
      · rw [gl]
        exact h3 _ _ hR2.fst (nd _)
      · rw [gl]
        exact h3 _ _ hR2.lst (nd _)
    · have hw := vstrN e4
      have hem : e = .maybe k0 := by
        rcases hwk with ⟨_, h⟩ | ⟨h, _⟩
        · exact h
        · exact absurd h hw
      refine ⟨_, rfl, _, rfl, fin H2 ?_⟩
      rw [hpl, hle]
      subst hem
      refine ⟨hR2.fr, hR2.le, hR2.k0, hR2.rw.eqv fun i j => ?_, ?_, ?_, hR2.f1, hR2.f2, hR2.l1, hR2.l2⟩
      · rw [gl]
      · rw [gl]
        exact hR2.fst
      · rw [gl]
        exact hR2.lst
end
end My
namespace My
open PySem PySem.Spec PyProof.Rows L2
theorem boot_sorted : bootBuiltins "sorted" = some (.builtin "sorted") := by decide +kernel
def rTupOf (K : PySem.W.Frag) : List V → Hp → VK → Prop := fun xs H Q => ∃ p ys, xs = [.ref p] ∧ ((SqL K H p ys ∧ ∀ l, H l = none → Q (.ref l) (upd H l (.tup ys))) ∨ (SqT K H p ys ∧ Q (.ref p) H))
theorem call_tuple_ofK {X : Cx} : CallR X (.type "tuple") (rTupOf X.K) := call_tuple_of
theorem len_toList2 (z : Str) : z.cps.toList.length = z.length := Array.length_toList
theorem join_flat2 (ys : List Str) : (Txt.join sNo ys).cps.toList = (ys.map fun z => z.cps.toList).flatten := by
  rw [TL.join_eq]
  have e := TL.tl_join sNo ys
  have j : ∀ ps : List (List Nat), TL.joinL [] ps = ps.flatten := by
    intro ps
    induction ps with
    | nil => rfl
    | cons p ps ih =>
      cases ps with
      | nil => show p = (p :: []).flatten; simp
      | cons q r =>
        show p ++ ([] ++ TL.joinL [] (q :: r)) = _
        rw [ih]
        rfl
  have n : TL.tl sNo = [] := by decide +kernel
  rw [n, j] at e
  exact e
/-! ### a class's calls -/
structure Ck (P : Program) (w : World) (K : PySem.W.Frag) (mg : Str → Option Value) (base : Heap) (k : Nat) (x : Str) (ps : List Str) (sp : Sp) (C : Addr) : Prop where
  ex : ∃ (f : Addr) (fd : FuncData), Mk K C f ∧ FnOk P w K mg base CX0 k f fd ps sp ∧ Binds K fd ps [] ∧ mg x = some (.ref C)
theorem pe_mk {X : Cx} {k : Nat} {x : Str} {ps : List Str} {sp : Sp} {C : Addr} {p pos : Pos} {e : Expr} {es : List Expr} {t : TA} (h : Ck X.prog X.w X.K X.mg X.base k x ps sp C) (hr : Room (k + 1) X.A) (hg : L2.Gl X x) (ha : PA X (e :: es) t)
    (hdb : (x == ("__debug__" : Str)) = false := by decide) (he : starEach (e :: es) X.env = (false, eval e X.env) :: starEach es X.env := by rfl) (hpl : (backTo pos (starEach es X.env)).any (·.1) = false := by rfl) :
    PE X (.Call (.Name x p) (e :: es) [] pos) (tMake C sp [] E0 t) := by
  obtain ⟨f, fd, M, F, b, m⟩ := h.ex
  exact pe_make M F hr hg m b .nil pass0 ha hdb he hpl
/-! ### the object that tells the steps -/
theorem n1 : ¬ (("letters" : Str) = "empty") := by decide +kernel
theorem n2 : ¬ (("letters" : Str) = "first") := by decide +kernel
theorem n3 : ¬ (("letters" : Str) = "last") := by decide +kernel
theorem n4 : ¬ (("letters" : Str) = "following") := by decide +kernel
theorem n5 : ¬ (("empty" : Str) = "first") := by decide +kernel
theorem n6 : ¬ (("empty" : Str) = "last") := by decide +kernel
theorem n7 : ¬ (("empty" : Str) = "following") := by decide +kernel
theorem n8 : ¬ (("first" : Str) = "last") := by decide +kernel
theorem n9 : ¬ (("first" : Str) = "following") := by decide +kernel
theorem n0 : ¬ (("last" : Str) = "following") := by decide +kernel
def stF (z b f l o : V) : List (Str × V) := putF "following" o (putF "last" l (putF "first" f (putF "empty" b (putF "letters" z []))))
theorem stF_letters (z b f l o : V) : (stF z b f l o).lookup ("letters" : Str) = some z := by
  unfold stF
  rw [lookup_putF, if_neg n4, lookup_putF, if_neg n3, lookup_putF, if_neg n2, lookup_putF, if_neg n1, lookup_putF, if_pos rfl]
theorem stF_first (z b f l o : V) : (stF z b f l o).lookup ("first" : Str) = some f := by
  unfold stF
  rw [lookup_putF, if_neg n9, lookup_putF, if_neg n8, lookup_putF, if_pos rfl]
theorem stF_last (z b f l o : V) : (stF z b f l o).lookup ("last" : Str) = some l := by
  unfold stF
  rw [lookup_putF, if_neg n0, lookup_putF, if_pos rfl]
theorem stF_following (z b f l o : V) : (stF z b f l o).lookup ("following" : Str) = some o := by
  unfold stF
  rw [lookup_putF, if_pos rfl]
theorem putF_len (f : Str) (v : V) : ∀ fs : List (Str × V), (putF f v fs).length ≤ fs.length + 1
  | [] => Nat.le_refl _
  | (g, x) :: r => by
    have := putF_len f v r
    unfold putF
    split
    · exact Nat.le_succ _
    · rw [List.length_cons, List.length_cons]; omega
structure StTxt (K : PySem.W.Frag) (C : Addr) : Prop where
  cl : Cls K C
  a1 : NoAttr K C "letters"
  a2 : NoAttr K C "empty"
  a3 : NoAttr K C "first"
  a4 : NoAttr K C "last"
  a5 : NoAttr K C "following"
def spInit (C : Addr) : Sp := fun vs H Q _ => ∃ (p dx : Addr) (z b f l o : V), vs = [.ref p, z, b, f, l, o] ∧ H p = some (.ins C dx []) ∧ ∀ H' : Hp, H' p = some (.ins C dx (stF z b f l o)) → (∀ q u, H q = some u → q ≠ p → H' q = some u) → Q .non H'
def folAt (e : E) (i : Nat) : List Nat := (List.range e.places).filter fun j => decide ((i, j) ∈ (gl e 0).fol)
structure StepsAt (C : Addr) (H : Hp) (p : Addr) (e : E) : Prop where
  ex : ∃ (dx f l o : Addr) (z : Str) (ts : List V), H p = some (.ins C dx (stF (.str z) (.bl (gl e 0).nul) (.ref f) (.ref l) (.ref o))) ∧ z.cps.toList = e.letters ∧ H f = some (.tup (natsV (gl e 0).fst)) ∧ H l = some (.tup (natsV (gl e 0).lst)) ∧ H o = some (.lst ts) ∧ ts.length = e.places ∧
    ∀ i t, ts[i]? = some t → ∃ q, t = .ref q ∧ H q = some (.tup (natsV (folAt e i)))
theorem StepsAt.same {C : Addr} {H H' : Hp} {p : Addr} {e : E} (s : Same H H') (h : StepsAt C H p e) : StepsAt C H' p e := by
  obtain ⟨dx, f, l, o, z, ts, h1, h2, h3, h4, h5, h6, h7⟩ := h.ex
  refine ⟨dx, f, l, o, z, ts, s _ _ h1, h2, s _ _ h3, s _ _ h4, s _ _ h5, h6, fun i t ht => ?_⟩
  obtain ⟨q, a, b⟩ := h7 i t ht
  exact ⟨q, a, s _ _ b⟩
def spSteps (C : Addr) : Sp := fun vs H Q _ => ∃ (v : V) (e : E), vs = [v] ∧ e.ok = true ∧ e.depth < 42 ∧ e.places ≤ 40 ∧ Rep H v e.toD ∧ ∀ p H', Same H H' → StepsAt C H' p e → Q (.ref p) H'
/-- strictly rising lists with the same members -/
theorem eq_of_rise : ∀ (a b : List Int), a.Pairwise (· < ·) → b.Pairwise (· < ·) → (∀ x, x ∈ a ↔ x ∈ b) → a = b
  | [], [], _, _, _ => rfl
  | [], y :: b, _, _, h => by have := (h y).mpr (List.mem_cons_self ..); cases this
  | x :: a, [], _, _, h => by have := (h x).mp (List.mem_cons_self ..); cases this
  | x :: a, y :: b, ha, hb, h => by
    rw [List.pairwise_cons] at ha hb
    have e : x = y := by
      rcases List.mem_cons.mp ((h x).mp (List.mem_cons_self ..)) with c | c
      · exact c
      · rcases List.mem_cons.mp ((h y).mpr (List.mem_cons_self ..)) with d | d
        · exact d.symm
        · have := hb.1 x c
          have := ha.1 y d
          omega
    subst e
    rw [eq_of_rise a b ha.2 hb.2 fun z => ?_]
    constructor
    · intro hz
      rcases List.mem_cons.mp ((h z).mp (List.mem_cons_of_mem _ hz)) with c | c
      · have := ha.1 z hz
        omega
      · exact c
    · intro hz
      rcases List.mem_cons.mp ((h z).mpr (List.mem_cons_of_mem _ hz)) with c | c
      · have := hb.1 z hz
        omega
      · exact c
theorem rise_of {ks ys : List Int} (h : ys.Perm ks) (s : ys.Pairwise (· ≤ ·)) (n : ks.Nodup) : ys.Pairwise (· < ·) := by
  have n' : ys.Nodup := h.nodup_iff.mpr n
  exact (s.and n').imp fun ⟨a, b⟩ => by omega
theorem fol_rise (e : E) (i : Nat) : ((folAt e i).map fun (j : Nat) => (j : Int)).Pairwise (· < ·) := by
  rw [List.pairwise_map]
  unfold folAt
  refine (List.pairwise_lt_range.filter _).imp fun h => by omega
theorem natsV_int (xs : List Nat) : natsV xs = (xs.map fun (j : Nat) => (j : Int)).map V.int := by
  unfold natsV
  rw [List.map_map]
  rfl
section
variable {P : Program} {w : World} {K : PySem.W.Frag} {mg : Str → Option Value} {base : Heap} {a_BOUNDS a_LONG_BOUNDS : Addr} {tL tM : Tok}
abbrev N_Steps___init__ : List Str := ["self", "letters", "empty", "first", "last", "following"]
theorem sc_Steps___init__ : FnScope ["self", "letters", "empty", "first", "last", "following"] ["self", "letters", "empty", "first", "last", "following"] (defScope s_Steps___init__) := ⟨rfl, rfl, rfl, by decide +kernel, rfl, by decide +kernel, by decide +kernel⟩
theorem ok_stepsinit {C f : Addr} {fd : FuncData} (F : Fun K "__init__" "Steps.__init__" s_Steps___init__ f fd) (T : StTxt K C) : FnOk P w K mg base CX0 1 f fd ["self", "letters", "empty", "first", "last", "following"] (spInit C) := by
  refine F.ok sc_Steps___init__ (fun vs H Q Ex h => ?_) (fun cdv A outer s H vs Q Ex hr h => ?_)
  · obtain ⟨p, dx, z, b, f, l, o, rfl, _⟩ := h
    rfl
  obtain ⟨p, dx, z, b, f, l, o, rfl, hp, q⟩ := h
  refine ⟨_, (pss_cons (ps_fld (pv 0) (pv 1) rfl)
    (pss_cons (ps_fld (pv 0) (pv 2) rfl)
    (pss_cons (ps_fld (pv 0) (pv 3) rfl)
    (pss_cons (ps_fld (pv 0) (pv 4) rfl)
    (pss_one (ps_fld (pv 0) (pv 5) rfl)))))), ?_⟩
  have L0 : (putF "letters" z ([] : List (Str × V))).length ≤ 1 := putF_len _ _ _
  have L1 := putF_len "empty" b (putF "letters" z [])
  have L2' := putF_len "first" f (putF "empty" b (putF "letters" z []))
  have L3 := putF_len "last" l (putF "first" f (putF "empty" b (putF "letters" z [])))
  refine ⟨_, rfl, _, rfl, p, C, dx, _, rfl, hp, T.cl, T.a1, (by show 0 < 1000; decide), ?_⟩
  refine ⟨_, rfl, _, rfl, p, C, dx, _, rfl, upd_same, T.cl, T.a2, (by omega), ?_⟩
  refine ⟨_, rfl, _, rfl, p, C, dx, _, rfl, upd_same, T.cl, T.a3, (by omega), ?_⟩
  refine ⟨_, rfl, _, rfl, p, C, dx, _, rfl, upd_same, T.cl, T.a4, (by omega), ?_⟩
  refine ⟨_, rfl, _, rfl, p, C, dx, _, rfl, upd_same, T.cl, T.a5, (by omega), ?_⟩
  exact q _ upd_same fun x u hx hn => by rw [upd_ne hn, upd_ne hn, upd_ne hn, upd_ne hn, upd_ne hn]; exact hx
abbrev N_steps_of : List Str := ["expression", "letters", "rows", "empty", "first", "last", "following", "row"]
theorem sc_steps_of : FnScope ["expression", "letters", "rows", "empty", "first", "last", "following", "row"] ["expression"] (defScope s_steps_of) := ⟨rfl, rfl, rfl, by decide +kernel, rfl, by decide +kernel, by decide +kernel⟩
set_option maxHeartbeats 1000000 in
theorem ok_stepsof {C f : Addr} {fd : FuncData} (B : Bt K mg a_BOUNDS a_LONG_BOUNDS tL tM) (Dd : Df K mg "steps_of" s_steps_of ["expression"] f fd) (G_ends_of : Cl P w K mg base 86 "_ends_of" ["part", "letters", "rows"] (spEnds 42)) (MSteps : Ck P w K mg base 1 "Steps" ["self", "letters", "empty", "first", "last", "following"] (spInit C) C) : FnOk P w K mg base CX0 87 f fd ["expression"] (spSteps C) := by
  refine Dd.F.ok sc_steps_of (fun vs H Q Ex h => ?_) (fun cdv A outer s H vs Q Ex hr h => ?_)
  · obtain ⟨v, e, rfl, _⟩ := h
    rfl
  obtain ⟨v, e, rfl, hok, hd, hpl, hR, q⟩ := h
  refine ⟨_, (pss_cons (ps_set (i := 1) sc_steps_of.nd rfl (Or.inl rfl) (pe_lst pa_nil))
    (pss_cons (ps_set (i := 2) sc_steps_of.nd rfl (Or.inl rfl) (pe_lst pa_nil))
    (pss_cons (ps_asg (pe_cl G_ends_of (hr.mono (by omega)) rfl (pa_cons (pv 0) (pa_cons (pv 1) (pa_cons (pv 2) pa_nil)))) (pg_tup rfl (pgs_cons (pg_name (i := 3) sc_steps_of.nd rfl (Or.inl rfl)) (pgs_cons (pg_name (i := 4) sc_steps_of.nd rfl (Or.inl rfl)) (pgs_cons (pg_name (i := 5) sc_steps_of.nd rfl (Or.inl rfl)) pgs_nil)))))
    (pss_cons (ps_setLc (i := 6) (own := [("row", 7)]) (g := gName 7) (tt := tYes) rfl sc_steps_of.nd rfl rfl (sw_true rfl rfl rfl (by decide +kernel)) (pi_list (pv 2)) (blkOk_by (N := N_steps_of) (sc := defScope s_steps_of) (by decide +kernel)) (fun _ _ _ _ _ => pg_name (i := 7) sc_steps_of.nd rfl (Or.inl rfl)) (fun _ _ _ _ _ => pts_nil) (fun _ _ _ _ _ => (pe_callTy (r := rTupOf K) call_tuple_ofK rfl B.b_tuple boot_tuple (pa_cons (pe_callB (call_sortedDI rfl) rfl B.b_sorted boot_sorted (pa_cons (pv 7) pa_nil)) pa_nil))))
    (pss_one (ps_ret (pe_mk MSteps (hr.mono (by omega)) rfl (pa_cons (pe_join pe_str (pv 1)) (pa_cons (pv 3) (pa_cons (pe_callTy call_tuple_of rfl B.b_tuple boot_tuple (pa_cons (pv 4) pa_nil)) (pa_cons (pe_callTy call_tuple_of rfl B.b_tuple boot_tuple (pa_cons (pv 5) pa_nil)) (pa_cons (pv 6) pa_nil)))))))))))), ?_⟩
  refine ⟨Nat.zero_le _, fun la hla => ⟨Nat.zero_le _, fun ra hra => ?_⟩⟩
  have s0 := (same_upd (o := .lst []) hla).trans (same_upd (o := .lst []) hra)
  have hne : la ≠ ra := fun c => by rw [← c, upd_same] at hra; cases hra
  have hLe : LetAt (upd (upd H la (.lst [])) ra (.lst [])) la [] := (same_upd hra) _ _ upd_same
  have hRw : RowsAt H (upd (upd H la (.lst [])) ra (.lst [])) ra 0 (fun _ _ => False) := ⟨⟨[], upd_same, rfl, List.nodup_nil, fun i d h => by simp at h⟩, fun i j h => h.elim, fun i j h => h.elim, fun ds hds d hd => by
    rw [upd_same] at hds
    have e1 : ([] : List Addr).map V.ref = ds.map V.ref := HO.lst.inj (Option.some.inj hds)
    have e2 : [] = ds := map_ref_inj e1
    rw [← e2] at hd
    cases hd⟩
  refine ⟨_, rfl, _, rfl, _, rfl, H, v, la, ra, e, [], _, rfl, hok, hd, hR.pers (Pers.same s0), ⟨hne, hLe, hRw, s0, hla, (same_upd hla).free hra, by show 0 + e.places ≤ 40; omega⟩, fun t f0 l0 H2 ht hE => ?_⟩
  refine ⟨t, _, rfl, SqT.of ht, rfl, _, _, rfl, _, _, rfl, _, _, rfl, rfl, ?_⟩
  obtain ⟨ds, d1, d2, d3, d4⟩ := hE.rw.ex
  have W := gl_within e 0
  -- following
  refine ⟨_, rfl, ra, rfl, ⟨_, SqL.of d1⟩, fun L hL => ?_⟩
  refine lc_list (K := K) (a := ra) (xs := ds.map V.ref) (fun i H3 => Same H2 H3 ∧ ∃ ts : List V, ts.length = i ∧ H3 L = some (.lst ts) ∧ ∀ j t, ts[j]? = some t → ∃ q, t = .ref q ∧ q ≠ L ∧ H3 q = some (.tup (natsV (folAt e j)))) ⟨same_upd hL, [], rfl, upd_same, fun j t h => by simp at h⟩ (fun i H3 _ h => SqL.of (h.1 _ _ d1)) (fun i x H3 hx h => ?_) (fun H3 h => ?_)
  · obtain ⟨h1, ts, h2, h3, h4⟩ := h
    rw [List.getElem?_map] at hx
    obtain ⟨d, hdd, rfl⟩ := Option.map_eq_some_iff.mp hx
    have hi := (List.getElem?_eq_some_iff.mp hdd).1
    obtain ⟨ms, m1, m2, m3⟩ := d4 i d hdd
    have hml : ms.length ≤ 40 := nodup_len 40 ms m2 fun x hx => by
      obtain ⟨j, rfl, hf⟩ := (m3 x).mp hx
      have := hE.rw.bd i j hf
      omega
    refine ⟨rfl, tyes ⟨_, rfl, d, keysD ms, ms, rfl, .inl (h1 _ _ m1), ?_, by omega, fun ys p hp1 hp2 hp3 => ⟨p, _, rfl, .inl ⟨SqL.of upd_same, fun q hq => ⟨ts, ?_, ?_, ?_, ts ++ [.ref q], by rw [List.length_append, h2]; rfl, upd_same, fun j t ht => ?_⟩⟩⟩⟩⟩
    · unfold keysD
      rw [List.map_map]
      rfl
    · exact (same_upd hq) _ _ ((same_upd hp3) _ _ h3)
    · have hdl : i < ds.length := hi
      have : ds.length = 0 + e.places := d2
      exact Nat.lt_of_le_of_lt (m := 40) (by omega) (by decide)
    · exact fun b o hb => by rw [upd_ne (ne_of_none hb hL)]; exact (same_upd hq) _ _ ((same_upd hp3) _ _ (h1 _ _ hb))
    · have hqL : q ≠ L := (ne_of_none ((same_upd hp3) _ _ h3) hq).symm
      rcases Nat.lt_or_ge j ts.length with hj | hj
      · rw [List.getElem?_append_left hj] at ht
        obtain ⟨q', a1, a2, a3⟩ := h4 j t ht
        exact ⟨q', a1, a2, by rw [upd_ne a2]; exact (same_upd hq) _ _ ((same_upd hp3) _ _ a3)⟩
      · rw [List.getElem?_append_right hj] at ht
        have hj2 : j - ts.length = 0 := by
          have := (List.getElem?_eq_some_iff.mp ht).1
          simp at this
          omega
        rw [hj2] at ht
        cases ht
        have hji : j = i := by omega
        subst hji
        refine ⟨q, rfl, hqL, ?_⟩
        rw [upd_ne hqL, upd_same]
        have e1 : ys = (folAt e j).map fun (k : Nat) => (k : Int) := by
          refine eq_of_rise _ _ (rise_of hp1 hp2 m2) (fol_rise e j) fun x => ?_
          rw [hp1.mem_iff, m3]
          unfold folAt
          constructor
          · rintro ⟨k, rfl, hf | hf⟩
            · exact hf.elim
            · exact List.mem_map.mpr ⟨k, List.mem_filter.mpr ⟨List.mem_range.mpr (by have := (W.fol j k hf).2; omega), decide_eq_true hf⟩, rfl⟩
          · intro hx
            obtain ⟨k, hk, rfl⟩ := List.mem_map.mp hx
            exact ⟨k, rfl, .inr (of_decide_eq_true (List.mem_filter.mp hk).2)⟩
        rw [e1, natsV_int]
  · obtain ⟨h1, ts, h2, h3, h4⟩ := h
    have hle := h1 _ _ hE.le
    have hcs : ([] ++ e.letters : List Nat).length = e.places := by rw [List.nil_append, letters_len]
    -- Steps(..)
    refine ⟨⟨_, rfl⟩, _, rfl, sNo, la, ([] ++ e.letters).map (fun c => (⟨#[c]⟩ : Str)), rfl, rfl, .inl (SqL.of (by rw [List.map_map]; exact hle)), ?_, ?_⟩
    · have : (([] ++ e.letters).map (fun c => (⟨#[c]⟩ : Str))).map Str.length = List.replicate e.places 1 := by
        rw [List.map_map, ← hcs, ← List.map_const']
        rfl
      show ((([] ++ e.letters).map (fun c => (⟨#[c]⟩ : Str))).map Str.length).sum + _ ≤ _
      rw [this, List.sum_replicate_nat, lE]
      omega
    have hz : (Txt.join sNo (([] ++ e.letters).map (fun c => (⟨#[c]⟩ : Str)))).cps.toList = e.letters := by
      rw [join_flat2, List.map_map, List.nil_append]
      generalize e.letters = cs
      induction cs with
      | nil => rfl
      | cons c cs ih =>
        rw [List.map_cons, List.flatten_cons, ih]
        rfl
    have hf3 := h1 _ _ hE.fst
    have hl3 := h1 _ _ hE.lst
    refine ⟨_, rfl, _, rfl, f0, _, rfl, .inl ⟨SqL.of hf3, fun ft hft => ⟨_, rfl, l0, _, rfl, .inl ⟨SqL.of ((same_upd hft) _ _ hl3), fun lt hlt => ⟨_, rfl, fun x dx hx hdx hdn => ?_⟩⟩⟩⟩⟩
    refine ⟨x, dx, _, _, _, _, _, rfl, upd_same, fun H' hH' kp => ⟨rfl, ?_⟩⟩
    have sft := same_upd (o := .tup (natsV (gl e 0).fst)) hft
    have slt := same_upd (o := .tup (natsV (gl e 0).lst)) hlt
    have keep : ∀ b o, (upd (upd H3 ft (.tup (natsV (gl e 0).fst))) lt (.tup (natsV (gl e 0).lst))) b = some o → H' b = some o := fun b o hb => kp b o (by rw [upd_ne (ne_of_none hb hx), upd_ne (ne_of_none hb hdx)]; exact hb) (ne_of_none hb hx)
    have S3 : Same H3 H' := fun b o hb => keep b o (slt _ _ (sft _ _ hb))
    refine q x H' ((hE.k0.trans h1).trans S3) ⟨dx, ft, lt, L, _, ts, hH', hz, keep _ _ (slt _ _ upd_same), keep _ _ upd_same, S3 _ _ h3, ?_, fun i t ht => ?_⟩
    · rw [h2, List.length_map, d2]
      show 0 + e.places = e.places
      omega
    · obtain ⟨q', a1, a2, a3⟩ := h4 i t ht
      exact ⟨q', a1, S3 _ _ a3⟩
end
end My
namespace My
open PySem PySem.Spec PyProof.Rows L2
structure Eok (e : E) : Prop where
  ok : e.ok = true
  dep : e.depth ≤ 20
  pl : e.places ≤ 40
  pt : e.parts ≤ 200
  sz : e.toD.size ≤ 1000000
theorem long_top {e : E} (h : Eok e) : (sizesOf (40, 40, 200) e.toD).isSome = true := by
  rw [sizes_ok h.ok (by decide), if_pos (within_iff.mpr ⟨h.pl, Nat.le_trans h.dep (by decide), h.pt⟩)]
  rfl
def spPlc (g : Gl → List Nat) : Sp := fun vs H Q _ => ∃ (v : V) (e : E), vs = [v] ∧ Eok e ∧ Rep H v e.toD ∧ ∀ p H', Same H H' → H' p = some (.tup (natsV (g (gl e 0)))) → Q (.ref p) H'
def spNum : Sp := fun vs H Q _ => ∃ (i a b : Int), vs = [.int i, .int a, .int b] ∧ Q (.bl (decide (a ≤ i ∧ i ≤ b))) H
def spIsPlace (C : Addr) : Sp := fun vs H Q _ => ∃ (p : Addr) (e : E) (i : Nat), vs = [.ref p, .int i] ∧ i < e.places ∧ e.places ≤ 40 ∧ StepsAt C H p e ∧ Q (.bl true) H
def spFolw : Sp := fun vs H Q _ => ∃ (v : V) (e : E) (i : Nat), vs = [v, .int i] ∧ Eok e ∧ i < e.places ∧ Rep H v e.toD ∧ ∀ p H', Same H H' → H' p = some (.tup (natsV (folAt e i))) → Q (.ref p) H'
section
variable {P : Program} {w : World} {K : PySem.W.Frag} {mg : Str → Option Value} {base : Heap} {a_BOUNDS a_LONG_BOUNDS : Addr} {tL tM : Tok}
end
end My
namespace My
open PySem PySem.Spec PyProof.Rows L2
theorem rep_catA {K : PySem.W.Frag} {H : Hp} {a b : Addr} {xs ys : List V} {Q : VK} (ha : H a = some (.tup xs)) (hb : H b = some (.tup ys)) (hz : xs.length + ys.length ≤ 1000) (q : ∀ p H', Same H H' → H' p = some (.tup (xs ++ ys)) → Q (.ref p) H') : rCatA K (.ref a) (.ref b) H Q := by
  refine ⟨a, b, xs, ys, rfl, rfl, SqT.of ha, SqT.of hb, Nat.le_trans hz (by decide), fun e => ?_, fun _ e => ?_, fun _ _ p hp => ?_⟩
  · subst e
    exact q b H (Same.refl _) hb
  · subst e
    exact q a H (Same.refl _) (by rw [List.append_nil]; exact ha)
  · exact q p _ (same_upd hp) upd_same
theorem row_word (b : Bool) {e : E} (h : isTup e.toD = true) : ∃ w y, e.toD = .tup [.str w, y] ∧ ((decide (V.str w = V.str (rowW b)) = true ∧ y = .tup ((kidsOf b e).map E.toD)) ∨ (decide (V.str w = V.str (rowW b)) = false ∧ kidsOf b e = [e])) := by
  have ne : ∀ {a c : Str}, ¬ a = c → decide (V.str a = V.str c) = false := fun h => decide_eq_false fun e => h (V.str.inj e)
  cases e with
  | eps => rw [E.toD] at h; cases h
  | sym c => rw [E.toD] at h; cases h
  | maybe k => exact ⟨sMaybe, k.toD, by rw [E.toD], .inr ⟨ne (by cases b; exact fun c => om c.symm; exact fun c => jm c.symm), by cases b <;> rfl⟩⟩
  | many k => exact ⟨sMany, k.toD, by rw [E.toD], .inr ⟨ne (by cases b; exact fun c => on c.symm; exact fun c => jn c.symm), by cases b <;> rfl⟩⟩
  | join es =>
    cases b
    · exact ⟨sJoin, .tup (es.map E.toD), by rw [E.toD, toDs_eq], .inr ⟨ne jo, rfl⟩⟩
    · exact ⟨sJoin, .tup (es.map E.toD), by rw [E.toD, toDs_eq], .inl ⟨decide_eq_true rfl, rfl⟩⟩
  | alt es =>
    cases b
    · exact ⟨sOr, .tup (es.map E.toD), by rw [E.toD, toDs_eq], .inl ⟨decide_eq_true rfl, rfl⟩⟩
    · exact ⟨sOr, .tup (es.map E.toD), by rw [E.toD, toDs_eq], .inr ⟨ne fun c => jo c.symm, rfl⟩⟩
theorem kids_flat (b : Bool) {e : E} (h : isTup e.toD = false) : kidsOf b e = [e] := by
  cases e with
  | eps => cases b <;> rfl
  | sym c => cases b <;> rfl
  | maybe k => rw [E.toD] at h; cases h
  | many k => rw [E.toD] at h; cases h
  | join k => rw [E.toD] at h; cases h
  | alt k => rw [E.toD] at h; cases h
theorem kids_len {b : Bool} {e : E} (h : e.ok = true) : (kidsOf b e).length ≤ e.leaves := by
  have k := kids_okB (b := b) h
  have k2 := (cnts (es := kidsOf b e) (by rw [oks_eq]; exact k.ok)).l
  rw [leavess_eq, kids_leaves] at k2
  exact k2
def spRow2 : Sp := fun vs H Q _ => ∃ (b : Bool) (u v : V) (x y : E), vs = [.str (rowW b), u, v] ∧ x.ok = true ∧ y.ok = true ∧ x.leaves ≤ 50 ∧ y.leaves ≤ 50 ∧ Rep H u x.toD ∧ Rep H v y.toD ∧ ∀ r H', Same H H' → Rep H' r (mkRow b x y).toD → Q r H'
section
variable {P : Program} {w : World} {K : PySem.W.Frag} {mg : Str → Option Value} {base : Heap} {a_BOUNDS a_LONG_BOUNDS : Addr} {tL tM : Tok}
abbrev N__law_row : List Str := ["word", "first", "second", "parts", "one"]
theorem sc__law_row : FnScope ["word", "first", "second", "parts", "one"] ["word", "first", "second"] (defScope s__law_row) := ⟨rfl, rfl, rfl, by decide +kernel, rfl, by decide +kernel, by decide +kernel⟩
theorem ok_row2 {f : Addr} {fd : FuncData} (B : Bt K mg a_BOUNDS a_LONG_BOUNDS tL tM) (Dd : Df K mg "_law_row" s__law_row ["word", "first", "second"] f fd) : FnOk P w K mg base CX0 1 f fd ["word", "first", "second"] spRow2 := by
  refine Dd.F.ok sc__law_row (fun vs H Q Ex h => ?_) (fun cdv A outer s H vs Q Ex hr h => ?_)
  · obtain ⟨b, u, v, x, y, rfl, _⟩ := h
    rfl
  obtain ⟨b, u, v, x, y, rfl, hx, hy, hlx, hly, hRx, hRy, q⟩ := h
  refine ⟨_, (pss_cons (ps_set (i := 3) sc__law_row.nd rfl (Or.inl rfl) (pe_tup pa_nil))
    (pss_cons (ps_for PassesOwn.never rfl (pi_list (pe_lst (pa_cons (pv 1) (pa_cons (pv 2) pa_nil)))) (pg_name (i := 4) sc__law_row.nd rfl (Or.inl rfl)) (pss_one (ps_if (PW.pt (pw_and (pt_val (pe_callB call_isi rfl B.b_isinstance boot_isinstance (pa_cons (pv 4) (pa_cons (pe_bltn (v := .ty "tuple") rfl B.b_tuple boot_tuple rfl) pa_nil)))) (pw_and1 (pt_cmpR op_eq (pe_ix (r := rIxT K) ix_tup (pv 4) pe_int (fun _ _ => rfl)) (pv 0) (nomark _))))) (pss_one (ps_set (i := 3) sc__law_row.nd rfl (Or.inl rfl) (pe_op op_catA (pv 3) (pe_ix (r := rIxT K) ix_tup (pv 4) pe_int (fun _ _ => rfl))))) (pss_one (ps_set (i := 3) sc__law_row.nd rfl (Or.inl rfl) (pe_op op_catA (pv 3) (pe_tup (pa_cons (pv 4) pa_nil))))))))
    (pss_one (ps_ret (pe_tup (pa_cons (pv 0) (pa_cons (pv 3) pa_nil))))))), ?_⟩
  refine ⟨Nat.zero_le _, fun t0 ht0 => ?_⟩
  have hu : ∀ i (e : E), ([x, y] : List E)[i]? = some e → e.ok = true ∧ e.leaves ≤ 50 := fun (i : Nat) e h => by
    rcases i with _ | _ | i
    · cases h
      exact ⟨hx, hlx⟩
    · cases h
      exact ⟨hy, hly⟩
    · simp at h
  have s0 := same_upd (o := .tup []) ht0
  refine ⟨_, rfl, _, rfl, (by show 2 ≤ sizeLine; decide), fun L hL => ?_⟩
  have s1 := s0.trans (same_upd (o := .lst [u, v]) hL)
  refine ⟨L, rfl, ⟨_, SqL.of upd_same⟩, for_list (K := K) (a := L) (xs := [u, v]) (fun i σ' H' => ∃ (t : Addr) (xs : List V) (o1 : Option V), σ' = [some (.str (rowW b)), some u, some v, some (.ref t), o1] ∧ Same (upd (upd H t0 (.tup [])) L (.lst [u, v])) H' ∧ H' t = some (.tup xs) ∧ Two (Rep H') xs ((([x, y].take i).map (kidsOf b)).flatten.map E.toD)) ?_ ?_ ?_ ?_⟩
  · exact ⟨t0, [], none, rfl, Same.refl _, (same_upd hL) _ _ upd_same, .nil⟩
  · rintro i σ' H' hi ⟨t, xs, o1, rfl, s2, _⟩
    exact SqL.of (s2 _ _ upd_same)
  · rintro i z σ' H' hz ⟨t, xs, o1, rfl, s2, ht, hX⟩
    have hRs : Two (Rep H') [u, v] ([x, y].map E.toD) := .cons (hRx.pers (Pers.same (s1.trans s2))) (.cons (hRy.pers (Pers.same (s1.trans s2))) .nil)
    obtain ⟨d, hd1, hzd⟩ := hRs.get hz
    rw [List.getElem?_map] at hd1
    obtain ⟨e, he, rfl⟩ := Option.map_eq_some_iff.mp hd1
    obtain ⟨hok, hle⟩ := hu i e he
    obtain ⟨ty, T1, k1, k2⟩ := hzd.ty (K := K)
    have hlen : xs.length ≤ 100 := by
      rw [hX.len, List.length_map]
      rcases i with _ | _ | i
      · exact Nat.zero_le _
      · show ((kidsOf b x) ++ []).length ≤ 100
        rw [List.append_nil]
        exact Nat.le_trans (kids_len hx) (by omega)
      · have : (i + 1 + 1) < 2 := (List.getElem?_eq_some_iff.mp hz).1
        omega
    have hkl : (kidsOf b e).length ≤ 50 := Nat.le_trans (kids_len hok) hle
    have fin : ∀ (p : Addr) (ys : List V) (H3 : Hp), Same H' H3 → H3 p = some (.tup (xs ++ ys)) → Two (Rep H3) ys ((kidsOf b e).map E.toD) → ∃ (t : Addr) (xs : List V) (o1 : Option V), ([some (.str (rowW b)), some u, some v, some (.ref p), some z] : L2.St) = [some (.str (rowW b)), some u, some v, some (.ref t), o1] ∧ Same (upd (upd H t0 (.tup [])) L (.lst [u, v])) H3 ∧ H3 t = some (.tup xs) ∧ Two (Rep H3) xs ((([x, y].take (i + 1)).map (kidsOf b)).flatten.map E.toD) := fun p ys H3 s3 hp hY => by
      refine ⟨p, _, _, rfl, s2.trans s3, hp, ?_⟩
      rw [take_snoc he, List.map_append, List.flatten_append, List.map_append]
      refine (Rep.pers2 (Pers.same s3) hX).app ?_
      show Two (Rep H3) ys (((kidsOf b e) ++ []).map E.toD)
      rw [List.append_nil]
      exact hY
    refine ⟨_, rfl, _, _, _, _, _, rfl, .ty _, T1, k2, _, rfl, ?_⟩
    have alone : kidsOf b e = [e] → ∀ p, H' p = none → ∀ (Q : VK), (∀ p' H3, (∃ (t : Addr) (xs : List V) (o1 : Option V), ([some (.str (rowW b)), some u, some v, some (.ref p'), some z] : L2.St) = [some (.str (rowW b)), some u, some v, some (.ref t), o1] ∧ Same (upd (upd H t0 (.tup [])) L (.lst [u, v])) H3 ∧ H3 t = some (.tup xs) ∧ Two (Rep H3) xs ((([x, y].take (i + 1)).map (kidsOf b)).flatten.map E.toD)) → Q (.ref p') H3) → rCatA K (.ref t) (.ref p) (upd H' p (.tup [z])) Q := fun hk p hp Q hQ => by
      refine rep_catA ((same_upd hp) _ _ ht) upd_same (by show xs.length + 1 ≤ 1000; omega) fun p3 H3 s3 hp3 => hQ p3 H3 ?_
      refine fin p3 [z] H3 ((same_upd hp).trans s3) hp3 ?_
      rw [hk]
      exact .cons (hzd.pers (Pers.same ((same_upd hp).trans s3))) .nil
    refine ite2 (fun c1 => ?_) (fun c1 => ?_)
    · obtain ⟨w', y', h1, h2⟩ := row_word b c1
      rw [h1] at hzd
      obtain ⟨pz, zs, rfl, hpz, hzz, hZ⟩ := hzd.untup
      match zs, hZ with
      | [_, x'], .cons (.str hw) (.cons hx' .nil) =>
      refine ⟨_, rfl, pz, _, 0, _, rfl, rfl, SqT.of hpz, at_zero, _, rfl, rfl, _, rfl, ite2 (fun c2 => ?_) (fun c2 => ?_)⟩
      · have h3 := h2.resolve_right fun c => by rw [c2] at c; cases c.1
        rw [h3.2] at hx'
        obtain ⟨pk, ks, rfl, hpk, hkz, hK⟩ := hx'.untup
        refine ⟨_, rfl, _, rfl, pz, _, 1, _, rfl, rfl, SqT.of hpz, at_one, ?_⟩
        refine rep_catA ht hpk ?_ fun p3 H3 s3 hp3 => fin p3 ks H3 s3 hp3 (Rep.pers2 (Pers.same s3) hK)
        have := hK.len
        rw [List.length_map] at this
        omega
      · have h3 := h2.resolve_left fun c => c2 c.1
        exact ⟨_, rfl, _, rfl, (by show 1 ≤ sizeLine; decide), fun p hp => alone h3.2 p hp _ fun p' H3 h => h⟩
    · exact ⟨_, rfl, _, rfl, (by show 1 ≤ sizeLine; decide), fun p hp => alone (kids_flat b (Bool.eq_false_iff.mpr c1)) p hp _ fun p' H3 h => h⟩
  · rintro σ' H' ⟨t, xs, o1, rfl, s2, ht, hX⟩
    refine ⟨_, rfl, _, rfl, (by show 2 ≤ sizeLine; decide), fun p hp => ?_⟩
    refine q _ _ ((s1.trans s2).trans (same_upd hp)) ?_
    have e1 : (([x, y].take [u, v].length).map (kidsOf b)).flatten = kidsOf b x ++ kidsOf b y := by
      show kidsOf b x ++ (kidsOf b y ++ []) = _
      rw [List.append_nil]
    rw [e1] at hX
    unfold mkRow
    rw [rowE_toD]
    refine Rep.tup2 upd_same (by show 2 ≤ 100000; decide) (.cons (.str (by cases b <;> decide +kernel)) (.cons (Rep.tup2 ((same_upd hp) _ _ ht) ?_ (Rep.pers2 (Pers.new hp) hX)) .nil))
    have := hX.len
    rw [List.length_map, List.length_append] at this
    have h1 := kids_len (b := b) hx
    have h2 := kids_len (b := b) hy
    omega
end
end My
namespace My
open PySem PySem.Spec PyProof.Rows L2
/-! ### drawn expressions -/
def outS : Option Bool → Str
  | none => sNo
  | some false => sJoin
  | some true => sOr
def rowOf : E → Option Bool
  | .join _ => some false
  | .alt _ => some true
  | _ => none
/-- the parts that a drawn expression of such a depth has at most -/
def pb : Nat → Nat
  | 0 => 1
  | n + 1 => 1 + 3 * pb n
theorem pb_mono {m n : Nat} (h : m ≤ n) : pb m ≤ pb n := by
  induction h with
  | refl => exact Nat.le_refl _
  | step _ ih =>
    refine Nat.le_trans ih ?_
    rw [pb]
    omega
structure Drawn (e : E) (room deep : Nat) (outer : Option Bool) : Prop where
  ok : e.ok = true
  pl : e.places ≤ room
  dp : e.depth ≤ deep
  pt : e.parts ≤ pb deep
  hd : rowOf e = none ∨ rowOf e ≠ outer
def Lets (z : Str) : Prop := 0 < z.length ∧ z.length ≤ 100 ∧ ∀ c ∈ z.cps.toList, 97 ≤ c ∧ c ≤ 100
def spGrown (n : Nat) : Sp := fun vs H Q _ => ∃ (a : Addr) (z : Str) (room deep : Nat) (outer : Option Bool), vs = [.ref a, .str z, .int room, .int deep, .str (outS outer)] ∧ Strm H a ∧ Lets z ∧ room ≤ 100 ∧ deep < n ∧
  ∀ v H' e, Go a H H' → Rep H' v e.toD → Drawn e room deep outer → Q v H'
section
variable {P : Program} {w : World} {K : PySem.W.Frag} {mg : Str → Option Value} {base : Heap} {a_BOUNDS a_LONG_BOUNDS : Addr} {tL tM : Tok}
theorem none_left {f : Addr} {fd : FuncData} {k : Nat} {ps : List Str} {sp : Sp} (no : ∀ vs H Q E, ¬ sp vs H Q E) : FnOk P w K mg base CX0 k f fd ps sp :=
  ⟨fun vs H Q E h => absurd h (no vs H Q E), fun A outer s H args us vs Q E _ _ _ _ h => absurd h (no vs H Q E)⟩
theorem mem_signs {v : V} {z : Str} (h : v ∈ signsV z) : ∃ c ∈ z.cps.toList, v = .str ⟨#[c]⟩ := by
  unfold signsV at h
  rw [List.mem_map] at h
  obtain ⟨c, hc, rfl⟩ := h
  exact ⟨c, hc, rfl⟩
theorem rep_sym {H : Hp} (c : Nat) : Rep H (.str ⟨#[c]⟩) (E.sym c).toD := by
  rw [E.toD]
  exact .str (by show 1 ≤ 1000; decide)
theorem rep_eps {H : Hp} : Rep H (.str sNo) E.eps.toD := by
  rw [E.toD]
  exact .str (by rw [lE]; decide)
theorem drawn_sym {c room deep : Nat} {outer : Option Bool} (h : 97 ≤ c ∧ c ≤ 100) (hr : 0 < room) : Drawn (.sym c) room deep outer where
  ok := by
    rw [E.ok, decide_eq_true h.1, decide_eq_true h.2]
    rfl
  pl := by rw [E.places]; omega
  dp := by rw [E.depth]; omega
  pt := by rw [E.parts]; exact Nat.le_trans (by decide) (pb_mono (Nat.zero_le deep))
  hd := .inl rfl
theorem drawn_eps {room deep : Nat} {outer : Option Bool} : Drawn .eps room deep outer where
  ok := rfl
  pl := by rw [E.places]; omega
  dp := by rw [E.depth]; omega
  pt := by rw [E.parts]; exact Nat.le_trans (by decide) (pb_mono (Nat.zero_le deep))
  hd := .inl rfl
theorem signs_len (z : Str) : (signsV z).length = z.length := by
  unfold signsV
  rw [List.length_map, Array.length_toList]
  rfl
theorem outS_inj {x y : Option Bool} (h : outS x = outS y) : x = y := by
  match x, y, h with
  | none, none, _ => rfl
  | none, some false, h => exact absurd h.symm je
  | none, some true, h => exact absurd h.symm oe
  | some false, none, h => exact absurd h je
  | some true, none, h => exact absurd h oe
  | some false, some false, _ => rfl
  | some true, some true, _ => rfl
  | some false, some true, h => exact absurd h jo
  | some true, some false, h => exact absurd h.symm jo
theorem any_no {α : Type} {p : α → Bool} {xs : List α} (h : ∀ x ∈ xs, p x = false) : xs.any p = false := by
  rw [List.any_eq_false]
  intro x hx c
  rw [h x hx] at c
  cases c
theorem sum_le_mul {es : List E} {f : E → Nat} {n : Nat} (h : ∀ e ∈ es, f e ≤ n) : (es.map f).sum ≤ es.length * n := by
  induction es with
  | nil => exact Nat.zero_le _
  | cons e es ih =>
    have h1 := h e (List.mem_cons_self ..)
    have h2 := ih fun x hx => h x (List.mem_cons_of_mem _ hx)
    rw [List.map_cons, List.sum_cons, List.length_cons, Nat.succ_mul]
    omega
end
end My
namespace My
open PySem PySem.Spec PyProof.Rows L2
def spEqual (n : Nat) : Sp := fun vs H Q _ => ∃ (x y : V) (j : J) (k : Nat), vs = [x, y] ∧ k < n ∧ RepJ H x j k ∧ RepJ H y j k ∧ ∀ H', Same H H' → Q (.bl true) H'
section
variable {P : Program} {w : World} {K : PySem.W.Frag} {mg : Str → Option Value} {base : Heap} {a_BOUNDS a_LONG_BOUNDS : Addr} {tL tM : Tok}
theorem lets_by {z : Str} (h : (decide (0 < z.length) && decide (z.length ≤ 100) && z.cps.toList.all fun c => decide (97 ≤ c) && decide (c ≤ 100)) = true) : Lets z := by
  simp only [Bool.and_eq_true, decide_eq_true_eq, List.all_eq_true] at h
  exact ⟨h.1.1, h.1.2, h.2⟩
theorem sum_cast (es : List E) (f : E → Nat) : (es.map fun k => ((f k : Nat) : Int)).sum = (((es.map f).sum : Nat) : Int) := by
  induction es with
  | nil => rfl
  | cons e es ih =>
    rw [List.map_cons, List.sum_cons, List.map_cons, List.sum_cons, ih]
    omega
/-! ### the law's own comparison, of equal data -/
def SeqV (K : PySem.W.Frag) (H : Hp) (p : Addr) (xs : List V) : Prop := SqL K H p xs ∨ SqT K H p xs
theorem SeqV.len {K : PySem.W.Frag} {H : Hp} {p : Addr} {xs : List V} (h : SeqV K H p xs) {n : Nat} (e : n = xs.length) : LenV K (.ref p) H n := by
  rcases h with h | h
  · exact .inl ⟨xs, h, e⟩
  · exact .inr ⟨xs, h, e⟩
theorem SeqV.ix {K : PySem.W.Frag} {H : Hp} {p : Addr} {xs : List V} (h : SeqV K H p xs) {i : Int} {v : V} {Q : VK} (hi : atI xs i = some v) (q : Q v H) : rIx K (.ref p) (.int i) H Q := by
  rcases h with h | h
  · exact .inl ⟨p, xs, i, v, rfl, rfl, h, hi, q⟩
  · exact .inr (.inl ⟨p, xs, i, v, rfl, rfl, h, hi, q⟩)
theorem SeqV.same {K : PySem.W.Frag} {H H' : Hp} {p : Addr} {xs : List V} (s : Same H H') (h : SeqV K H p xs) : SeqV K H' p xs := by
  rcases h with h | h
  · exact .inl (s.seq h)
  · rcases h with (h | ⟨o, h⟩) | h
    · exact .inr (.inl (.inl (s _ _ h)))
    · exact .inr (.inl (.inr ⟨o, s _ _ h⟩))
    · exact .inr (.inr h)
theorem RepJ.both {K : PySem.W.Frag} {H : Hp} {x y : V} {j : J} {k : Nat} (hx : RepJ H x j k) (hy : RepJ H y j k) : (x = .non ∧ y = .non) ∨ (∃ b, x = .bl b ∧ y = .bl b) ∨ (∃ i, x = .int i ∧ y = .int i) ∨ (∃ z, x = .str z ∧ y = .str z) ∨
    ∃ (isT : Bool) (p q : Addr) (xs ys : List V) (js : List J) (k' : Nat), k = k' + 1 ∧ x = .ref p ∧ y = .ref q ∧ TyX K H x (.type (if isT then "tuple" else "list")) ∧ TyX K H y (.type (if isT then "tuple" else "list")) ∧ SeqV K H p xs ∧ SeqV K H q ys ∧ xs.length ≤ 100000 ∧ xs.length = js.length ∧ ys.length = js.length ∧
      (∀ (i : Nat) (x : V) (j : J), xs[i]? = some x → js[i]? = some j → RepJ H x j k') ∧ (∀ (i : Nat) (x : V) (j : J), ys[i]? = some x → js[i]? = some j → RepJ H x j k') := by
  cases hx with
  | non => cases hy; exact .inl ⟨rfl, rfl⟩
  | bl b => cases hy; exact .inr (.inl ⟨b, rfl, rfl⟩)
  | int i => cases hy; exact .inr (.inr (.inl ⟨i, rfl, rfl⟩))
  | str z => cases hy; exact .inr (.inr (.inr (.inl ⟨z, rfl, rfl⟩)))
  | @tup n p xs js h z l r =>
    cases hy with
    | @tup _ q ys _ h' z' l' r' => exact .inr (.inr (.inr (.inr ⟨true, p, q, xs, ys, js, n, rfl, rfl, rfl, .base (.tup h), .base (.tup h'), .inr (SqT.of h), .inr (SqT.of h'), z, l, l', r, r'⟩)))
  | @lst n p xs js h z l r =>
    cases hy with
    | @lst _ q ys _ h' z' l' r' => exact .inr (.inr (.inr (.inr ⟨false, p, q, xs, ys, js, n, rfl, rfl, rfl, .base (.lst h), .base (.lst h'), .inl (SqL.of h), .inl (SqL.of h'), z, l, l', r, r'⟩)))
def spIsInt : Sp := fun vs H Q _ => ∃ i : Int, vs = [.int i] ∧ Q (.bl true) H
abbrev N__law_is_integer : List Str := ["actual"]
theorem sc__law_is_integer : FnScope ["actual"] ["actual"] (defScope s__law_is_integer) := ⟨rfl, rfl, rfl, by decide +kernel, rfl, by decide +kernel, by decide +kernel⟩
theorem ok_isint {f : Addr} {fd : FuncData} (B : Bt K mg a_BOUNDS a_LONG_BOUNDS tL tM) (Dd : Df K mg "_law_is_integer" s__law_is_integer ["actual"] f fd) : FnOk P w K mg base CX0 1 f fd ["actual"] spIsInt := by
  refine Dd.F.ok sc__law_is_integer (fun vs H Q Ex h => ?_) (fun cdv A outer s H vs Q Ex hr h => ?_)
  · obtain ⟨i, rfl, _⟩ := h
    rfl
  obtain ⟨i, rfl, q⟩ := h
  refine ⟨_, (pss_one (ps_ret (pe_and (pe_callB call_isi rfl B.b_isinstance boot_isinstance (pa_cons (pv 0) (pa_cons (pe_bltn (v := .ty "int") rfl B.b_int boot_int rfl) pa_nil))) (pe_one (pe_not (pe_callB call_isi rfl B.b_isinstance boot_isinstance (pa_cons (pv 0) (pa_cons (pe_bltn (v := .ty "bool") rfl B.b_bool boot_bool rfl) pa_nil)))))))), ?_⟩
  have T : TyX K H (.int i) (.type "int") := .base (.int i)
  exact ⟨_, rfl, _, _, _, _, _, rfl, .ty _, T, kit_ty (r := true) (by decide +kernel), _, rfl, iteT ⟨_, rfl, _, _, _, _, _, rfl, .ty _, T, kit_ty (r := false) (by decide +kernel), _, rfl, q⟩⟩
abbrev N__law_equal : List Str := ["actual", "due", "at"]
theorem sc__law_equal : FnScope ["actual", "due", "at"] ["actual", "due"] (defScope s__law_equal) := ⟨rfl, rfl, rfl, by decide +kernel, rfl, by decide +kernel, by decide +kernel⟩
theorem ok_equal_step {f : Addr} {fd : FuncData} (B : Bt K mg a_BOUNDS a_LONG_BOUNDS tL tM) (Dd : Df K mg "_law_equal" s__law_equal ["actual", "due"] f fd) (G_law_is_integer : Cl P w K mg base 1 "_law_is_integer" ["actual"] spIsInt) (n : Nat)
    (G_law_equal : Cl P w K mg base (n + 1) "_law_equal" ["actual", "due"] (spEqual n)) : FnOk P w K mg base CX0 (n + 2) f fd ["actual", "due"] (spEqual (n + 1)) := by
  refine Dd.F.ok sc__law_equal (fun vs H Q Ex h => ?_) (fun cdv A outer s H vs Q Ex hr h => ?_)
  · obtain ⟨x, y, j, k, rfl, _⟩ := h
    rfl
  obtain ⟨x, y, j, k, rfl, hk, hx, hy, q⟩ := h
  refine ⟨_, (pss_cons (ps_if (pt_cmpR op_isN (pv 1) pe_non (nomark _)) (pss_one (ps_ret (pe_cmpR op_isN (pv 0) pe_non (nomark _)))) pss_nil)
    (pss_cons (ps_if (pt_val (pe_callB call_isi rfl B.b_isinstance boot_isinstance (pa_cons (pv 1) (pa_cons (pe_bltn (v := .ty "bool") rfl B.b_bool boot_bool rfl) pa_nil)))) (pss_one (ps_ret (pe_and (pe_callB call_isi rfl B.b_isinstance boot_isinstance (pa_cons (pv 0) (pa_cons (pe_bltn (v := .ty "bool") rfl B.b_bool boot_bool rfl) pa_nil))) (pe_one (pe_cmpR op_eq (pv 0) (pv 1) (nomark _)))))) pss_nil)
    (pss_cons (ps_if (pt_val (pe_callB call_isi rfl B.b_isinstance boot_isinstance (pa_cons (pv 1) (pa_cons (pe_bltn (v := .ty "int") rfl B.b_int boot_int rfl) pa_nil)))) (pss_one (ps_ret (pe_and (pe_cl G_law_is_integer (hr.mono (by omega)) rfl (pa_cons (pv 0) pa_nil)) (pe_one (pe_cmpR op_eq (pv 0) (pv 1) (nomark _)))))) pss_nil)
    (pss_cons (ps_if (pt_val (pe_callB call_isi rfl B.b_isinstance boot_isinstance (pa_cons (pv 1) (pa_cons (pe_bltn (v := .ty "str") rfl B.b_str boot_str rfl) pa_nil)))) (pss_one (ps_ret (pe_and (pe_callB call_isi rfl B.b_isinstance boot_isinstance (pa_cons (pv 0) (pa_cons (pe_bltn (v := .ty "str") rfl B.b_str boot_str rfl) pa_nil))) (pe_one (pe_cmpR op_eq (pv 0) (pv 1) (nomark _)))))) pss_nil)
    (C8.pss_cut (ps_if (PW.pt (pw_and (pt_val (pe_callB call_isi rfl B.b_isinstance boot_isinstance (pa_cons (pv 1) (pa_cons (pe_bltn (v := .ty "tuple") rfl B.b_tuple boot_tuple rfl) pa_nil)))) (pw_and1 (pt_not (pt_val (pe_callB call_isi rfl B.b_isinstance boot_isinstance (pa_cons (pv 0) (pa_cons (pe_bltn (v := .ty "tuple") rfl B.b_tuple boot_tuple rfl) pa_nil)))))))) (pss_one (ps_ret pe_bl)) pss_nil)
    (C8.pss_cut (ps_if (PW.pt (pw_and (pt_val (pe_callB call_isi rfl B.b_isinstance boot_isinstance (pa_cons (pv 1) (pa_cons (pe_bltn (v := .ty "list") rfl B.b_list boot_list rfl) pa_nil)))) (pw_and1 (pt_not (pt_val (pe_callB call_isi rfl B.b_isinstance boot_isinstance (pa_cons (pv 0) (pa_cons (pe_bltn (v := .ty "list") rfl B.b_list boot_list rfl) pa_nil)))))))) (pss_one (ps_ret pe_bl)) pss_nil)
    (pss_cons (ps_if (pt_cmpR op_ne (pe_callB call_len rfl B.b_len boot_len (pa_cons (pv 0) pa_nil)) (pe_callB call_len rfl B.b_len boot_len (pa_cons (pv 1) pa_nil)) (nomark _)) (pss_one (ps_ret pe_bl)) pss_nil)
    (pss_one (ps_ret (pe_callB (cr_all rfl) rfl B.b_all boot_all (pa_cons (pe_lc (own := [("at", 2)]) (g := gName 2) (tt := tYes) rfl sc__law_equal.nd (pi_range1 rfl B.b_range (pa_cons (pe_callB call_len rfl B.b_len boot_len (pa_cons (pv 1) pa_nil)) pa_nil)) (blkOk_by (N := N__law_equal) (sc := defScope s__law_equal) (by decide +kernel)) (fun _ _ _ _ _ => pg_name (i := 2) sc__law_equal.nd rfl (Or.inl rfl)) (fun _ _ _ _ _ => pts_nil) (fun _ _ _ _ _ => (pe_cl G_law_equal (hr.mono (by omega)) rfl (pa_cons (pe_ix (r := rIx K) ix_seq (pv 0) (pv 2) (fun _ _ => rfl)) (pa_cons (pe_ix (r := rIx K) ix_seq (pv 1) (pv 2) (fun _ _ => rfl)) pa_nil))))) pa_nil))))))))))), ?_⟩
  rcases hx.both (K := K) hy with ⟨rfl, rfl⟩ | ⟨b, rfl, rfl⟩ | ⟨i, rfl, rfl⟩ | ⟨z, rfl, rfl⟩ | ⟨isT, p, p', xs, ys, js, k', rfl, rfl, rfl, T, T', S, S', hz, l, l', r, r'⟩
  · exact ⟨_, rfl, rfl, _, rfl, iteT ⟨_, rfl, rfl, q _ (Same.refl _)⟩⟩
  · have T : TyX K H (.bl b) (.type "bool") := .base (.bl b)
    refine ⟨_, rfl, rfl, _, rfl, iteF ⟨_, rfl, _, _, _, _, _, rfl, .ty _, T, kit_ty (r := true) (by decide +kernel), _, rfl, iteT ⟨_, rfl, _, _, _, _, _, rfl, .ty _, T, kit_ty (r := true) (by decide +kernel), _, rfl, iteT ⟨_, rfl, _, rfl, rfl, ?_⟩⟩⟩⟩
    rw [decide_eq_true rfl]
    exact q _ (Same.refl _)
  · have T : TyX K H (.int i) (.type "int") := .base (.int i)
    refine ⟨_, rfl, rfl, _, rfl, iteF ⟨_, rfl, _, _, _, _, _, rfl, .ty _, T, kit_ty (r := false) (by decide +kernel), _, rfl, iteF ⟨_, rfl, _, _, _, _, _, rfl, .ty _, T, kit_ty (r := true) (by decide +kernel), _, rfl, iteT ⟨_, rfl, i, rfl, _, rfl, iteT ⟨_, rfl, _, rfl, rfl, ?_⟩⟩⟩⟩⟩
    rw [decide_eq_true rfl]
    exact q _ (Same.refl _)
  · have T : TyX K H (.str z) (.type "str") := .base (.str z)
    refine ⟨_, rfl, rfl, _, rfl, iteF ⟨_, rfl, _, _, _, _, _, rfl, .ty _, T, kit_ty (r := false) (by decide +kernel), _, rfl, iteF ⟨_, rfl, _, _, _, _, _, rfl, .ty _, T, kit_ty (r := false) (by decide +kernel), _, rfl, iteF ⟨_, rfl, _, _, _, _, _, rfl, .ty _, T, kit_ty (r := true) (by decide +kernel), _, rfl,
      iteT ⟨_, rfl, _, _, _, _, _, rfl, .ty _, T, kit_ty (r := true) (by decide +kernel), _, rfl, iteT ⟨_, rfl, _, rfl, rfl, ?_⟩⟩⟩⟩⟩⟩
    rw [decide_eq_true rfl]
    exact q _ (Same.refl _)
  · have kb : PySem.W.kitOne K (.type (if isT then "tuple" else "list")) (.type "bool") = some false := by cases isT <;> exact kit_ty (r := false) (by decide +kernel)
    have ki : PySem.W.kitOne K (.type (if isT then "tuple" else "list")) (.type "int") = some false := by cases isT <;> exact kit_ty (r := false) (by decide +kernel)
    have ks : PySem.W.kitOne K (.type (if isT then "tuple" else "list")) (.type "str") = some false := by cases isT <;> exact kit_ty (r := false) (by decide +kernel)
    have kt : PySem.W.kitOne K (.type (if isT then "tuple" else "list")) (.type "tuple") = some isT := by
      cases isT
      · exact kit_ty (r := false) (by decide +kernel)
      · exact kit_ty (r := true) (by decide +kernel)
    have kl : PySem.W.kitOne K (.type (if isT then "tuple" else "list")) (.type "list") = some (!isT) := by
      cases isT
      · exact kit_ty (r := true) (by decide +kernel)
      · exact kit_ty (r := false) (by decide +kernel)
    refine ⟨_, rfl, rfl, _, rfl, iteF ⟨_, rfl, _, _, _, _, _, rfl, .ty _, T', kb, _, rfl, iteF ⟨_, rfl, _, _, _, _, _, rfl, .ty _, T', ki, _, rfl, iteF ⟨_, rfl, _, _, _, _, _, rfl, .ty _, T', ks, _, rfl, iteF ?_⟩⟩⟩⟩
    refine ⟨fun σ' H' => σ' = [some (.ref p), some (.ref p'), none] ∧ H = H', ?_, ?_⟩
    · refine ⟨_, rfl, _, _, _, _, _, rfl, .ty _, T', kt, _, rfl, ite2 (fun e => ?_) (fun e => iteF ⟨rfl, rfl⟩)⟩
      refine ⟨_, rfl, _, _, _, _, _, rfl, .ty _, T, kt, _, rfl, ?_⟩
      rw [e]
      exact iteF ⟨rfl, rfl⟩
    rintro σ' H' ⟨rfl, rfl⟩
    refine ⟨fun σ' H' => σ' = [some (.ref p), some (.ref p'), none] ∧ H = H', ?_, ?_⟩
    · refine ⟨_, rfl, _, _, _, _, _, rfl, .ty _, T', kl, _, rfl, ite2 (fun e => ?_) (fun e => iteF ⟨rfl, rfl⟩)⟩
      refine ⟨_, rfl, _, _, _, _, _, rfl, .ty _, T, kl, _, rfl, ?_⟩
      rw [e]
      exact iteF ⟨rfl, rfl⟩
    rintro σ' H' ⟨rfl, rfl⟩
    refine ⟨_, rfl, _, js.length, rfl, S.len l.symm, _, rfl, _, js.length, rfl, S'.len l'.symm, rfl, _, rfl, ?_⟩
    have e0 : (!decide (V.int ((js.length : Nat) : Int) = V.int ((js.length : Nat) : Int))) = false := by
      rw [decide_eq_true rfl]
      rfl
    refine ite2 (fun e => ?_) (fun _ => ?_)
    · have e1 : (!decide (V.int ((js.length : Nat) : Int) = V.int ((js.length : Nat) : Int))) = true := e
      rw [e0] at e1
      cases e1
    refine ⟨_, rfl, _, js.length, rfl, S'.len l'.symm, _, rfl, by omega, by omega, fun L hL => ?_⟩
    refine lc_range (lo := 0) (n := js.length) (fun i H2 => Same H H2 ∧ H2 L = some (.lst ((List.replicate i true).map V.bl))) ⟨same_upd hL, upd_same⟩ (fun i H2 hi h => ?_) (fun H2 h => ?_)
    · have ix : xs[i]? = some xs[i] := List.getElem?_eq_getElem (by omega)
      have iy : ys[i]? = some ys[i] := List.getElem?_eq_getElem (by omega)
      have ij : js[i]? = some js[i] := List.getElem?_eq_getElem hi
      refine ⟨rfl, tyes ⟨_, rfl, _, rfl, (S.same h.1).ix (at_of (j := i) (by omega) ix) ⟨_, rfl, _, rfl, (S'.same h.1).ix (at_of (j := i) (by omega) iy) ⟨_, _, _, _, rfl, by omega, (r i _ _ ix ij).same h.1, (r' i _ _ iy ij).same h.1, fun H3 s3 => ⟨_, s3 _ _ h.2, ?_, ?_, ?_⟩⟩⟩⟩⟩
      · rw [List.length_map, List.length_replicate]
        exact Nat.lt_of_le_of_lt (m := 100000) (by omega) (by decide)
      · exact fun b o e => by rw [upd_ne (ne_of_none e hL)]; exact s3 _ _ (h.1 b o e)
      · rw [upd_same, List.replicate_succ', List.map_append]
        rfl
    · obtain ⟨h1, h2⟩ := h
      refine ⟨L, _, rfl, SqL.of h2, ?_⟩
      have e1 : (List.replicate js.length true).all id = true := by
        rw [List.all_eq_true]
        intro x hx
        rw [(List.mem_replicate.mp hx).2]
        rfl
      rw [e1]
      exact q _ h1
end
end My
namespace My
open PySem PySem.Spec PyProof.Rows L2
def rLenOf (K : PySem.W.Frag) : List V → Hp → VK → Prop := fun xs H Q => ∃ x n, xs = [x] ∧ LenV K x H n ∧ Q (.int n) H
theorem call_lenK {X : Cx} : CallR X (.builtin "len") (rLenOf X.K) := call_len
def wrapE (b : Bool) (e : E) : E := if b then .many e else .maybe e
theorem wrap_ok (b : Bool) (e : E) : (wrapE b e).ok = e.ok := by
  cases b
  · show E.ok (.maybe e) = _
    rw [E.ok]
  · show E.ok (.many e) = _
    rw [E.ok]
theorem wrap_places (b : Bool) (e : E) : (wrapE b e).places = e.places := by
  cases b
  · show E.places (.maybe e) = _
    rw [E.places]
  · show E.places (.many e) = _
    rw [E.places]
theorem wrap_leaves (b : Bool) (e : E) : (wrapE b e).leaves = e.leaves := by
  cases b
  · show E.leaves (.maybe e) = _
    rw [E.leaves]
  · show E.leaves (.many e) = _
    rw [E.leaves]
theorem wrap_wr (b : Bool) (e : E) : (wrapE b e).wr = e.wr + 1 := by
  cases b
  · show E.wr (.maybe e) = _
    rw [E.wr]
  · show E.wr (.many e) = _
    rw [E.wr]
def wrapW (b : Bool) : Str := if b then sMany else sMaybe
theorem wrap_rep {H : Hp} {p : Addr} {v : V} {b : Bool} {e : E} (h : H p = some (.tup [.str (wrapW b), v])) (r : Rep H v e.toD) : Rep H (.ref p) (wrapE b e).toD := by
  cases b
  · show Rep H _ (E.toD (.maybe e))
    rw [E.toD]
    exact Rep.tup2 h (by show 2 ≤ 100000; decide) (.cons (.str (by show sMaybe.length ≤ 1000; rw [lM]; decide)) (.cons r .nil))
  · show Rep H _ (E.toD (.many e))
    rw [E.toD]
    exact Rep.tup2 h (by show 2 ≤ 100000; decide) (.cons (.str (by show sMany.length ≤ 1000; rw [lN]; decide)) (.cons r .nil))
theorem wrap_at (c : Bool) : atI [V.str sMaybe, V.str sMany] (if c = true then 1 else 0) = some (.str (wrapW c)) := by
  cases c
  · exact at_zero
  · exact at_one
theorem erase_mid {α : Type} (A : List α) (x : α) (B : List α) : (A ++ x :: B).eraseIdx A.length = A ++ B := by
  induction A with
  | nil => rfl
  | cons a A ih => rw [List.cons_append, List.length_cons, List.eraseIdx_cons_succ, ih]; rfl
theorem get_mid {α : Type} (A : List α) (x : α) (B : List α) : (A ++ x :: B)[A.length]? = some x := by simp
theorem split_two {α : Type} : ∀ (l : List α) (k : Nat), k + 1 < l.length → ∃ A x y B, l = A ++ x :: y :: B ∧ A.length = k
  | x :: y :: B, 0, _ => ⟨[], x, y, B, rfl, rfl⟩
  | [], k, h => by simp at h
  | [x], 0, h => by simp at h
  | x :: l, k + 1, h => by
    obtain ⟨A, a, b, B, e, el⟩ := split_two l k (by rw [List.length_cons] at h; omega)
    exact ⟨x :: A, a, b, B, by rw [e]; rfl, by rw [List.length_cons, el]⟩
theorem Two.uncons {α β : Type} {R : α → β → Prop} {as : List α} {b : β} {bs : List β} (h : Two R as (b :: bs)) : ∃ a as', as = a :: as' ∧ R a b ∧ Two R as' bs := by
  cases h with
  | cons h t => exact ⟨_, _, rfl, h, t⟩
theorem Two.split {α β : Type} {R : α → β → Prop} : ∀ {as : List α} {bs cs : List β}, Two R as (bs ++ cs) → ∃ as1 as2, as = as1 ++ as2 ∧ as1.length = bs.length ∧ Two R as1 bs ∧ Two R as2 cs
  | as, [], cs, h => ⟨[], as, rfl, rfl, .nil, h⟩
  | as, b :: bs, cs, h => by
    obtain ⟨a, as', rfl, ha, ht⟩ := Two.uncons (bs := bs ++ cs) h
    obtain ⟨a1, a2, e, el, h1, h2⟩ := ht.split
    exact ⟨a :: a1, a2, by rw [e]; rfl, by rw [List.length_cons, List.length_cons, el], .cons ha h1, h2⟩
theorem seqIx {k n : Nat} (h : k < n) : seqIndex? (k : Int) n = some k := by
  unfold seqIndex?
  have h1 : ¬ (k : Int) < 0 := by omega
  rw [if_neg h1]
  have h2 : (decide (0 ≤ (k : Int)) && decide ((k : Int) < (n : Int))) = true := by
    rw [Bool.and_eq_true, decide_eq_true_eq, decide_eq_true_eq]
    omega
  rw [if_pos h2]
  rfl
def sumB (g : E → Nat) (es : List E) : Nat := (es.map g).sum
theorem sumB_app (g : E → Nat) (es fs : List E) : sumB g (es ++ fs) = sumB g es + sumB g fs := by
  unfold sumB
  rw [List.map_append, List.sum_append]
theorem sumB_cons (g : E → Nat) (e : E) (fs : List E) : sumB g (e :: fs) = g e + sumB g fs := by
  unfold sumB
  rw [List.map_cons, List.sum_cons]
/-- what the parts are while they are put together -/
structure Bld (H : Hp) (L : Addr) (es : List E) (most wraps : Nat) : Prop where
  ls : ∃ xs, H L = some (.lst xs) ∧ Two (Rep H) xs (es.map E.toD)
  ok : ∀ e ∈ es, e.ok = true
  p1 : 1 ≤ sumB E.places es
  p2 : sumB E.places es ≤ most
  lv : sumB E.leaves es ≤ most + 1
  wr : sumB E.wr es + wraps ≤ 2
theorem len_leaves {es : List E} (h : ∀ e ∈ es, e.ok = true) : es.length ≤ sumB E.leaves es := by
  have := (cnts (es := es) (by rw [oks_eq]; exact List.all_eq_true.mpr h)).l
  rw [leavess_eq] at this
  exact this
def symsE (cs : List Nat) : List E := cs.map E.sym
theorem syms_sum (g : E → Nat) (k : Nat) (h : ∀ c, g (.sym c) = k) : ∀ cs : List Nat, sumB g (symsE cs) = cs.length * k
  | [] => by rw [List.length_nil, Nat.zero_mul]; rfl
  | c :: cs => by
    show sumB g (.sym c :: symsE cs) = _
    rw [sumB_cons, h, syms_sum g k h cs, List.length_cons, Nat.succ_mul, Nat.add_comm]
theorem syms_rep {H : Hp} : ∀ cs : List Nat, Two (Rep H) (cs.map fun c => V.str ⟨#[c]⟩) ((symsE cs).map E.toD)
  | [] => .nil
  | c :: cs => .cons (rep_sym c) (syms_rep cs)
def spExp2 : Sp := fun vs H Q _ => ∃ (a : Addr) (most : Nat) (z : Str), vs = [.ref a, .int most, .str z] ∧ Strm H a ∧ 0 < most ∧ most ≤ 24 ∧ Lets z ∧
  ∀ v H' (e : E), Go a H H' → Rep H' v e.toD → e.ok = true → 1 ≤ e.places → e.places ≤ most → e.leaves ≤ most + 1 → e.wr ≤ 2 → Q v H'
section
variable {P : Program} {w : World} {K : PySem.W.Frag} {mg : Str → Option Value} {base : Heap} {a_BOUNDS a_LONG_BOUNDS : Addr} {tL tM : Tok}
abbrev N__law_expression : List Str := ["stream", "most", "letters", "parts", "wraps", "turn", "at", "first", "second", "one", "k"]
theorem sc__law_expression : FnScope ["stream", "most", "letters", "parts", "wraps", "turn", "at", "first", "second", "one", "k"] ["stream", "most", "letters"] (defScope s__law_expression) := ⟨rfl, rfl, rfl, by decide +kernel, rfl, by decide +kernel, by decide +kernel⟩
theorem ok_expr2 {f : Addr} {fd : FuncData} (B : Bt K mg a_BOUNDS a_LONG_BOUNDS tL tM) (Dd : Df K mg "_law_expression" s__law_expression ["stream", "most", "letters"] f fd) (G_law_next : Cl P w K mg base 1 "_law_next" ["stream", "many"] spNext) (G_law_row : Cl P w K mg base 1 "_law_row" ["word", "first", "second"] spRow2) : FnOk P w K mg base CX0 2 f fd ["stream", "most", "letters"] spExp2 := by
  refine Dd.F.ok sc__law_expression (fun vs H Q Ex h => ?_) (fun cdv A outer s H vs Q Ex hr h => ?_)
  · obtain ⟨a, most, z, rfl, _⟩ := h
    rfl
  obtain ⟨a, most, z, rfl, hS, hm0, hm, hz, q⟩ := h
  refine ⟨_, (pss_cons (ps_setLc (i := 3) (own := [("k", 10)]) (g := gName 10) (tt := tYes) rfl sc__law_expression.nd rfl rfl (sw_true rfl rfl rfl (by decide +kernel)) (pi_range1 rfl B.b_range (pa_cons (pe_op op_add pe_int (pe_cl G_law_next (hr.mono (by omega)) rfl (pa_cons (pv 0) (pa_cons (pv 1) pa_nil)))) pa_nil)) (blkOk_by (N := N__law_expression) (sc := defScope s__law_expression) (by decide +kernel)) (fun _ _ _ _ _ => pg_name (i := 10) sc__law_expression.nd rfl (Or.inl rfl)) (fun _ _ _ _ _ => pts_nil) (fun _ _ _ _ _ => (pe_ix ix_str (pv 2) (pe_cl G_law_next (hr.mono (by omega)) rfl (pa_cons (pv 0) (pa_cons (pe_callB (r := rLenOf K) call_lenK rfl B.b_len boot_len (pa_cons (pv 2) pa_nil)) pa_nil))) (fun _ _ => rfl))))
    (C8.pss_cut (ps_if (pt_cmpR op_eq (pe_cl G_law_next (hr.mono (by omega)) rfl (pa_cons (pv 0) (pa_cons pe_int pa_nil))) pe_int (nomark _)) (pss_one (ps_expr (pe_bm PySem.F.plainAttrs_list PySem.F.slot_list_append PySem.F.type_list_append mt_append (pv 3) (pa_cons pe_str pa_nil)))) pss_nil)
    (pss_cons (ps_set (i := 4) sc__law_expression.nd rfl (Or.inl rfl) pe_int)
    (pss_cons (ps_for PassesOwn.never rfl (pi_range1 rfl B.b_range (pa_cons (pe_op op_sub (pe_callB call_len rfl B.b_len boot_len (pa_cons (pv 3) pa_nil)) pe_int) pa_nil)) (pg_name (i := 5) sc__law_expression.nd rfl (Or.inl rfl)) (pss_cons (ps_set (i := 6) sc__law_expression.nd rfl (Or.inl rfl) (pe_cl G_law_next (hr.mono (by omega)) rfl (pa_cons (pv 0) (pa_cons (pe_op op_sub (pe_callB call_len rfl B.b_len boot_len (pa_cons (pv 3) pa_nil)) pe_int) pa_nil))))
    (pss_cons (ps_set (i := 7) sc__law_expression.nd rfl (Or.inl rfl) (pe_bm PySem.F.plainAttrs_list PySem.F.slot_list_pop PySem.F.type_list_pop mt_popAt (pv 3) (pa_cons (pv 6) pa_nil)))
    (pss_cons (ps_set (i := 8) sc__law_expression.nd rfl (Or.inl rfl) (pe_bm PySem.F.plainAttrs_list PySem.F.slot_list_pop PySem.F.type_list_pop mt_popAt (pv 3) (pa_cons (pv 6) pa_nil)))
    (pss_cons (ps_set (i := 9) sc__law_expression.nd rfl (Or.inl rfl) (pe_cl G_law_row (hr.mono (by omega)) rfl (pa_cons (pe_ix (r := rIxL K) ix_list (pe_lst (pa_cons pe_str (pa_cons pe_str pa_nil))) (pe_cl G_law_next (hr.mono (by omega)) rfl (pa_cons (pv 0) (pa_cons pe_int pa_nil))) (fun _ _ => rfl)) (pa_cons (pv 7) (pa_cons (pv 8) pa_nil)))))
    (C8.pss_cut (ps_if (PW.pt (pw_and (pt_cmpR op_gt (pv 4) pe_int (nomark _)) (pw_and1 (pt_cmpR op_eq (pe_cl G_law_next (hr.mono (by omega)) rfl (pa_cons (pv 0) (pa_cons pe_int pa_nil))) pe_int (nomark _))))) (pss_cons (ps_set (i := 4) sc__law_expression.nd rfl (Or.inl rfl) (pe_op op_sub (pv 4) pe_int))
    (pss_one (ps_set (i := 9) sc__law_expression.nd rfl (Or.inl rfl) (pe_tup (pa_cons (pe_ix (r := rIxL K) ix_list (pe_lst (pa_cons pe_str (pa_cons pe_str pa_nil))) (pe_callTy call_int1 rfl B.b_int boot_int (pa_cons (pe_cmpR op_gt (pe_cl G_law_next (hr.mono (by omega)) rfl (pa_cons (pv 0) (pa_cons pe_int pa_nil))) pe_int (nomark _)) pa_nil)) (fun _ _ => rfl)) (pa_cons (pv 9) pa_nil)))))) pss_nil)
    (pss_one (ps_expr (pe_bm PySem.F.plainAttrs_list PySem.F.slot_list_insert PySem.F.type_list_insert mt_insert (pv 3) (pa_cons (pv 6) (pa_cons (pv 9) pa_nil)))))))))))
    (C8.pss_cut (ps_if (PW.pt (pw_and (pt_cmpR op_gt (pv 4) pe_int (nomark _)) (pw_and1 (pt_cmpR op_eq (pe_cl G_law_next (hr.mono (by omega)) rfl (pa_cons (pv 0) (pa_cons pe_int pa_nil))) pe_int (nomark _))))) (pss_one (ps_ret (pe_tup (pa_cons (pe_ix (r := rIxL K) ix_list (pe_lst (pa_cons pe_str (pa_cons pe_str pa_nil))) (pe_callTy call_int1 rfl B.b_int boot_int (pa_cons (pe_cmpR op_gt (pe_cl G_law_next (hr.mono (by omega)) rfl (pa_cons (pv 0) (pa_cons pe_int pa_nil))) pe_int (nomark _)) pa_nil)) (fun _ _ => rfl)) (pa_cons (pe_ix (r := rIxL K) ix_list (pv 3) pe_int (fun _ _ => rfl)) pa_nil))))) pss_nil)
    (pss_one (ps_ret (pe_ix (r := rIxL K) ix_list (pv 3) pe_int (fun _ _ => rfl))))))))), ?_⟩
  refine ⟨_, rfl, _, rfl, a, most, rfl, hS, by omega, by omega, fun d0 H1 d00 d01 g1 => ?_⟩
  refine ⟨_, _, rfl, rfl, _, rfl, by omega, by omega, fun L hL => ?_⟩
  have hLa : L ≠ a := (g1.st.ne hL).symm
  have nH : H L = none := by
    cases c : H L with
    | none => rfl
    | some o =>
      have := g1.keep _ _ c hLa
      rw [hL] at this
      cases this
  refine lc_range (lo := 0) (n := (1 + d0).toNat) (fun i H' => Go a H H' ∧ ∃ cs : List Nat, H' L = some (.lst (cs.map fun c => V.str ⟨#[c]⟩)) ∧ cs.length = i ∧ ∀ c ∈ cs, 97 ≤ c ∧ c ≤ 100) ⟨g1.trans (Go.new g1.st hL), [], upd_same, rfl, fun c h => by cases h⟩ (fun i H2 hi h => ?_) (fun H2 h => ?_)
  · obtain ⟨G2, cs, h2, hl, hc⟩ := h
    refine ⟨rfl, tyes ⟨_, rfl, _, rfl, _, rfl, _, z.length, rfl, ⟨Nat.le_trans hz.2.1 (by decide), rfl⟩, a, z.length, rfl, G2.st, by have := hz.1; omega, by have := hz.2.1; omega, fun d H3 d0 d1 g3 => ?_⟩⟩
    obtain ⟨c, hcz⟩ : ∃ c, z.cps.toList[d.toNat]? = some c := ⟨_, List.getElem?_eq_getElem (by rw [len_toList2]; omega)⟩
    refine ⟨z, d, c, rfl, rfl, Nat.le_trans hz.2.1 (by decide), ?_, cs.map (fun c => V.str ⟨#[c]⟩), g3.keep _ _ h2 hLa, ?_, ?_, cs ++ [c], ?_, ?_, ?_⟩
    · have e1 : d = ((d.toNat : Nat) : Int) := by omega
      rw [e1]
      exact atI_nat hcz
    · rw [List.length_map, hl]
      exact Nat.lt_of_le_of_lt (m := 24) (by omega) (by decide)
    · exact (G2.trans g3).loc nH
    · rw [upd_same, List.map_append]
      rfl
    · rw [List.length_append, hl]
      rfl
    · intro c' hc'
      rcases List.mem_append.mp hc' with h | h
      · exact hc c' h
      · rw [List.mem_singleton] at h
        subst h
        exact hz.2.2 _ (List.mem_of_getElem? hcz)
  obtain ⟨G2, cs, h2, hl, hc⟩ := h
  refine ⟨fun σ' H' => ∃ es, σ' = [some (.ref a), some (.int most), some (.str z), some (.ref L), none, none, none, none, none, none, none] ∧ Go a H H' ∧ Bld H' L es most 2, ?_, ?_⟩
  · have b0 : ∀ H', H' L = some (.lst (cs.map fun c => V.str ⟨#[c]⟩)) → Bld H' L (symsE cs) most 2 := fun H' h => by
      refine ⟨⟨_, h, syms_rep cs⟩, fun e he => ?_, ?_, ?_, ?_, ?_⟩
      · obtain ⟨c, hc', rfl⟩ := List.mem_map.mp he
        rw [E.ok, decide_eq_true (hc c hc').1, decide_eq_true (hc c hc').2]
        rfl
      · rw [syms_sum E.places 1 (fun c => rfl)]; omega
      · rw [syms_sum E.places 1 (fun c => rfl)]; omega
      · rw [syms_sum E.leaves 1 (fun c => rfl)]; omega
      · rw [syms_sum E.wr 0 (fun c => rfl)]; omega
    refine ⟨_, rfl, a, 4, rfl, G2.st, by decide, by decide, fun d H3 d0' d1 g3 => ⟨rfl, _, rfl, ite2 (fun _ => ?_) (fun _ => ?_)⟩⟩
    · have h3 := g3.keep _ _ h2 hLa
      refine ⟨_, rfl, .inl ⟨rfl, _, SqL.of h3⟩, L, _, _, rfl, rfl, h3, ?_, ?_⟩
      · rw [List.length_map, hl]
        exact Nat.lt_of_le_of_lt (m := 24) (by omega) (by decide)
      obtain ⟨_, b2, b3, b4, b5, b6⟩ := b0 H2 h2
      refine ⟨symsE cs ++ [.eps], rfl, (G2.trans g3).loc nH, ⟨_, upd_same, ?_⟩, ?_, ?_, ?_, ?_, ?_⟩
      · rw [List.map_append]
        exact (syms_rep cs).app (.cons rep_eps .nil)
      · intro e he
        rcases List.mem_append.mp he with he | he
        · exact b2 e he
        · rw [List.mem_singleton] at he
          subst he
          rfl
      · rw [sumB_app]; omega
      · rw [sumB_app]; show _ + 0 ≤ _; omega
      · rw [sumB_app, syms_sum E.leaves 1 (fun c => rfl)]; show _ + 1 ≤ _; omega
      · rw [sumB_app]; show _ + 0 + _ ≤ _; omega
    · exact ⟨symsE cs, rfl, G2.trans g3, b0 H3 (g3.keep _ _ h2 hLa)⟩
  rintro σ' H3 ⟨es0, rfl, G3, B3⟩
  obtain ⟨xs0, hx0, hX0⟩ := B3.ls
  have hl0 := hX0.len
  rw [List.length_map] at hl0
  have hn0 : 0 < es0.length := by
    rcases es0 with _ | ⟨e, r⟩
    · have := B3.p1
      have e : sumB E.places [] = 0 := rfl
      omega
    · exact Nat.succ_pos _
  have hb0 := len_leaves B3.ok
  have hv0 := B3.lv
  refine ⟨_, rfl, _, xs0.length, rfl, .inl ⟨_, SqL.of hx0, rfl⟩, _, _, rfl, rfl, _, rfl, by omega, by omega, for_range (lo := 0) (n := (((xs0.length : Nat) : Int) - 1).toNat) (fun i σ' H' => ∃ (es : List E) (wraps : Nat) (o5 o6 o7 o8 o9 : Option V), σ' = [some (.ref a), some (.int most), some (.str z), some (.ref L), some (.int wraps), o5, o6, o7, o8, o9, none] ∧ Go a H H' ∧ Bld H' L es most wraps ∧ es.length + i = es0.length) ?_ ?_ ?_⟩
  · exact ⟨es0, 2, none, none, none, none, none, rfl, G3, B3, rfl⟩
  · rintro i σ' H4 hi ⟨es, wraps, o5, o6, o7, o8, o9, rfl, G4, B4, hle⟩
    obtain ⟨⟨xs, hx, hX⟩, b2, b3, b4, b5, b6⟩ := B4
    have hlx := hX.len
    rw [List.length_map] at hlx
    have hbe := len_leaves b2
    refine ⟨_, rfl, _, rfl, _, xs.length, rfl, .inl ⟨_, SqL.of hx, rfl⟩, _, _, rfl, rfl, a, ((xs.length : Nat) : Int) - 1, rfl, G4.st, by omega, by omega, fun d H5 d0 d1 g5 => ?_⟩
    obtain ⟨k, rfl⟩ : ∃ k : Nat, d = (k : Int) := ⟨d.toNat, by omega⟩
    obtain ⟨Es, x, y, Fs, rfl, hEl⟩ := split_two es k (by omega)
    rw [List.map_append] at hX
    obtain ⟨As, r1, rfl, hAl, hA, hr1⟩ := hX.split
    rw [List.map_cons] at hr1
    obtain ⟨u, r2, rfl, hu, hr2⟩ := hr1.uncons
    rw [List.map_cons] at hr2
    obtain ⟨v, Bs, rfl, hv, hB⟩ := hr2.uncons
    rw [List.length_map, hEl] at hAl
    subst hAl
    have hx5 := g5.keep _ _ hx hLa
    have hAB : As.length + Bs.length + 2 ≤ 25 := by
      have h1 : (As ++ u :: v :: Bs).length = As.length + Bs.length + 2 := by
        rw [List.length_append, List.length_cons, List.length_cons]
        omega
      omega
    refine ⟨_, rfl, .inl ⟨rfl, _, SqL.of hx5⟩, _, rfl, L, _, _, As.length, u, rfl, rfl, hx5, by omega, by omega, seqIx (by rw [List.length_append, List.length_cons]; omega), get_mid _ _ _, ?_⟩
    rw [erase_mid]
    refine ⟨_, rfl, .inl ⟨rfl, _, SqL.of upd_same⟩, _, rfl, L, _, _, As.length, v, rfl, rfl, upd_same, by omega, by omega, seqIx (by rw [List.length_append, List.length_cons]; omega), get_mid _ _ _, ?_⟩
    rw [erase_mid]
    have P5 : Pers H4 (upd (upd H5 L (.lst (As ++ v :: Bs))) L (.lst (As ++ Bs))) := (g5.pers.trans (Pers.store hx5)).trans (Pers.store upd_same)
    have G5 : Go a H (upd (upd H5 L (.lst (As ++ v :: Bs))) L (.lst (As ++ Bs))) := ((G4.trans g5).loc nH).loc nH
    have hx7 : (upd (upd H5 L (.lst (As ++ v :: Bs))) L (.lst (As ++ Bs))) L = some (.lst (As ++ Bs)) := upd_same
    revert P5 G5 hx7
    generalize (upd (upd H5 L (.lst (As ++ v :: Bs))) L (.lst (As ++ Bs))) = H7
    intro P7 G7 hx7
    have bok : x.ok = true ∧ y.ok = true := ⟨b2 x (by simp), b2 y (by simp)⟩
    have bs : ∀ g : E → Nat, sumB g (Es ++ x :: y :: Fs) = sumB g Es + (g x + (g y + sumB g Fs)) := fun g => by rw [sumB_app, sumB_cons, sumB_cons]
    rw [bs] at b3 b4 b5 b6
    -- the row of the two
    refine ⟨(by show 2 ≤ sizeLine; decide), fun l hl => ?_⟩
    have hla : l ≠ a := (G7.st.ne hl).symm
    refine ⟨_, rfl, a, 2, rfl, G7.st.same (same_upd hl), by decide, by decide, fun d H8 d0' d1' g8 => ?_⟩
    obtain ⟨b, hb⟩ : ∃ b, atI [V.str sJoin, V.str sOr] d = some (.str (rowW b)) := by
      have : d = 0 ∨ d = 1 := by omega
      rcases this with rfl | rfl
      · exact ⟨true, at_zero⟩
      · exact ⟨false, at_one⟩
    have g78 : Go a H7 H8 := (Go.new G7.st hl).trans g8
    have P8 : Pers H4 H8 := P7.trans g78.pers
    refine ⟨l, _, d, _, rfl, rfl, SqL.of (g8.keep _ _ upd_same hla), hb, _, rfl, _, rfl, b, u, v, x, y, rfl, bok.1, bok.2, by omega, by omega, hu.pers P8, hv.pers P8, fun r H9 s9 hr9 => ?_⟩
    have hx9 := s9 _ _ (g78.keep _ _ hx7 hLa)
    have G9 : Go a H H9 := G7.trans (g78.trans (Go.same g78.st s9))
    have P9 : Pers H4 H9 := P8.trans (Pers.same s9)
    refine ⟨fun σ' H' => ∃ (r' : V) (e' : E) (wraps' : Nat), σ' = [some (.ref a), some (.int most), some (.str z), some (.ref L), some (.int wraps'), some (.int (0 + (i : Int))), some (.int As.length), some u, some v, some r', none] ∧ Go a H9 H' ∧ Rep H' r' e'.toD ∧ e'.ok = true ∧ e'.places = x.places + y.places ∧ e'.leaves = x.leaves + y.leaves ∧ e'.wr + wraps' = x.wr + y.wr + wraps, ?_, ?_⟩
    · have keep0 : ∀ H', Go a H9 H' → ∃ (r' : V) (e' : E) (wraps' : Nat), ([some (.ref a), some (.int most), some (.str z), some (.ref L), some (.int wraps), some (.int (0 + (i : Int))), some (.int As.length), some u, some v, some r, none] : L2.St) = [some (.ref a), some (.int most), some (.str z), some (.ref L), some (.int wraps'), some (.int (0 + (i : Int))), some (.int As.length), some u, some v, some r', none] ∧ Go a H9 H' ∧ Rep H' r' e'.toD ∧ e'.ok = true ∧ e'.places = x.places + y.places ∧ e'.leaves = x.leaves + y.leaves ∧ e'.wr + wraps' = x.wr + y.wr + wraps := fun H' g => ⟨r, mkRow b x y, wraps, rfl, g, hr9.pers g.pers, ok_mkRow bok.1 bok.2, mkRow_places b x y, mkRow_leaves b x y, by rw [mkRow_wr]⟩
      refine ⟨_, rfl, _, _, rfl, rfl, _, rfl, ite2 (fun c1 => ?_) (fun c1 => ?_)⟩
      · have hw0 : 0 < wraps := by
          have : (0 : Int) < (wraps : Int) := of_decide_eq_true c1
          omega
        refine ⟨_, rfl, a, 3, rfl, G9.st, by decide, by decide, fun d2 H10 d20 d21 g10 => ⟨rfl, _, rfl, ite2 (fun c2 => ?_) (fun c2 => keep0 H10 g10)⟩⟩
        refine ⟨_, rfl, _, _, rfl, rfl, ?_⟩
        refine ⟨(by show 2 ≤ sizeLine; decide), fun l2 hl2 => ?_⟩
        have hl2a : l2 ≠ a := (g10.st.ne hl2).symm
        refine ⟨_, rfl, a, 3, rfl, g10.st.same (same_upd hl2), by decide, by decide, fun d3 H11 d30 d31 g11 => ?_⟩
        refine ⟨_, _, rfl, rfl, .inr ⟨_, rfl, l2, _, _, _, rfl, rfl, SqL.of (g11.keep _ _ upd_same hl2a), wrap_at _, _, rfl, (by show 2 ≤ sizeLine; decide), fun p hp => ?_⟩⟩
        have ew : (wraps : Int) - 1 = ((wraps - 1 : Nat) : Int) := by omega
        have gA := g10.trans ((Go.new g10.st hl2).trans g11)
        refine ⟨_, wrapE (decide (0 < d3)) (mkRow b x y), wraps - 1, by rw [← ew]; rfl, gA.trans (Go.new g11.st hp), wrap_rep upd_same (hr9.pers (gA.pers.trans (Pers.new hp))), by rw [wrap_ok]; exact ok_mkRow bok.1 bok.2, by rw [wrap_places]; exact mkRow_places b x y, by rw [wrap_leaves]; exact mkRow_leaves b x y, ?_⟩
        rw [wrap_wr, mkRow_wr]
        omega
      · exact keep0 H9 (Go.refl G9.st)
    rintro σ' H10 ⟨r', e', wraps', rfl, g10, hr', e1, e2, e3, e4⟩
    have hx10 := g10.keep _ _ hx9 hLa
    refine ⟨_, rfl, .inl ⟨rfl, _, SqL.of hx10⟩, _, rfl, _, rfl, L, _, _, r', rfl, rfl, hx10, ?_, by omega, by omega, ?_⟩
    · rw [List.length_append]
      exact Nat.lt_of_le_of_lt (m := 25) (by omega) (by decide)
    have em : (As ++ Bs).take ((As.length : Nat) : Int).toNat ++ [r'] ++ (As ++ Bs).drop ((As.length : Nat) : Int).toNat = As ++ r' :: Bs := by
      show (As ++ Bs).take As.length ++ [r'] ++ (As ++ Bs).drop As.length = _
      rw [List.take_left, List.drop_left, List.append_assoc]
      rfl
    rw [em]
    have P10 : Pers H4 (upd H10 L (.lst (As ++ r' :: Bs))) := (P9.trans g10.pers).trans (Pers.store hx10)
    have bs2 : ∀ g : E → Nat, sumB g (Es ++ e' :: Fs) = sumB g Es + (g e' + sumB g Fs) := fun g => by rw [sumB_app, sumB_cons]
    refine ⟨Es ++ e' :: Fs, wraps', _, _, _, _, _, rfl, (G9.trans g10).loc nH, ⟨⟨_, upd_same, ?_⟩, ?_, ?_, ?_, ?_, ?_⟩, ?_⟩
    · rw [List.map_append, List.map_cons]
      exact (Rep.pers2 P10 hA).app (.cons (hr'.pers (Pers.store hx10)) (Rep.pers2 P10 hB))
    · intro e he
      rcases List.mem_append.mp he with he | he
      · exact b2 e (List.mem_append_left _ he)
      · rcases List.mem_cons.mp he with rfl | he
        · exact e1
        · exact b2 e (List.mem_append_right _ (List.mem_cons_of_mem _ (List.mem_cons_of_mem _ he)))
    · rw [bs2]; omega
    · rw [bs2]; omega
    · rw [bs2]; omega
    · rw [bs2]; omega
    · rw [List.length_append, List.length_cons]
      rw [List.length_append, List.length_cons, List.length_cons] at hle
      omega
  · rintro σ' H4 ⟨es, wraps, o5, o6, o7, o8, o9, rfl, G4, B4, hle⟩
    obtain ⟨⟨xs, hx, hX⟩, b2, b3, b4, b5, b6⟩ := B4
    obtain ⟨e, rfl⟩ : ∃ e, es = [e] := by
      match es, hle with
      | [e], _ => exact ⟨e, rfl⟩
      | [], h => rw [List.length_nil] at h; omega
      | e :: e2 :: r, h => rw [List.length_cons, List.length_cons] at h; omega
    match xs, hX with
    | [v], .cons hv .nil =>
    have s1 : ∀ g : E → Nat, sumB g [e] = g e := fun g => by
      show (g e) + 0 = _
      omega
    rw [s1] at b3 b4 b5 b6
    have hok := b2 e (List.mem_singleton.mpr rfl)
    refine ⟨fun σ' H' => σ' = [some (.ref a), some (.int most), some (.str z), some (.ref L), some (.int wraps), o5, o6, o7, o8, o9, none] ∧ Go a H4 H', ?_, ?_⟩
    · refine ⟨_, rfl, _, _, rfl, rfl, _, rfl, ite2 (fun c1 => ?_) (fun c1 => ⟨rfl, Go.refl G4.st⟩)⟩
      refine ⟨_, rfl, a, 3, rfl, G4.st, by decide, by decide, fun d2 H10 d20 d21 g10 => ⟨rfl, _, rfl, ite2 (fun c2 => ?_) (fun c2 => ⟨rfl, g10⟩)⟩⟩
      refine ⟨(by show 2 ≤ sizeLine; decide), fun l2 hl2 => ?_⟩
      have hl2a : l2 ≠ a := (g10.st.ne hl2).symm
      refine ⟨_, rfl, a, 3, rfl, g10.st.same (same_upd hl2), by decide, by decide, fun d3 H11 d30 d31 g11 => ?_⟩
      have gA := g10.trans ((Go.new g10.st hl2).trans g11)
      refine ⟨_, _, rfl, rfl, .inr ⟨_, rfl, l2, _, _, _, rfl, rfl, SqL.of (g11.keep _ _ upd_same hl2a), wrap_at _, _, rfl, L, _, 0, v, rfl, rfl, SqL.of (gA.keep _ _ hx hLa), at_zero, (by show 2 ≤ sizeLine; decide), fun p hp => ?_⟩⟩
      have hw0 : 0 < wraps := by
        have : (0 : Int) < (wraps : Int) := of_decide_eq_true c1
        omega
      exact q _ _ (wrapE (decide (0 < d3)) e) ((G4.trans gA).trans (Go.new g11.st hp)) (wrap_rep upd_same (hv.pers (gA.pers.trans (Pers.new hp)))) (by rw [wrap_ok]; exact hok) (by rw [wrap_places]; exact b3) (by rw [wrap_places]; exact b4) (by rw [wrap_leaves]; exact b5) (by rw [wrap_wr]; omega)
    · rintro σ' H5 ⟨rfl, g5⟩
      exact ⟨_, rfl, L, _, 0, v, rfl, rfl, SqL.of (g5.keep _ _ hx hLa), at_zero, q v H5 e (G4.trans g5) (hv.pers g5.pers) hok b3 b4 b5 (by omega)⟩
end
end My
namespace My
open PySem PySem.Spec PyProof.Rows L2
theorem row_kids (b : Bool) (es : List E) : (rowE b es).kids = es := by cases b <;> rfl
theorem wrap_kids (b : Bool) (e : E) : (wrapE b e).kids = [e] := by cases b <;> rfl
theorem row_places (b : Bool) (es : List E) : (rowE b es).places = E.places.placess es := by
  cases b
  · show E.places (.alt es) = _
    rw [E.places]
  · show E.places (.join es) = _
    rw [E.places]
theorem row_letters (b : Bool) (es : List E) : (rowE b es).letters = E.letters.letterss es := by
  cases b
  · show E.letters (.alt es) = _
    rw [E.letters]
  · show E.letters (.join es) = _
    rw [E.letters]
theorem wrap_letters (b : Bool) (e : E) : (wrapE b e).letters = e.letters := by
  cases b
  · show E.letters (.maybe e) = _
    rw [E.letters]
  · show E.letters (.many e) = _
    rw [E.letters]
theorem node2 {H : Hp} {v : V} {e : E} (hok : e.ok = true) (hR : Rep H v e.toD) (hs : ¬ isStr e.toD = true) : ∃ (w : Str) (p : Addr) (x : V), v = .ref p ∧ H p = some (.tup [.str w, x]) ∧ w.length ≤ 1000 ∧
    ((inV (V.str w) [V.str sMaybe, V.str sMany] = true ∧ ∃ b k, w = wrapW b ∧ e = wrapE b k ∧ Rep H x k.toD ∧ k.ok = true ∧ k.depth + 1 ≤ e.depth) ∨
     (inV (V.str w) [V.str sMaybe, V.str sMany] = false ∧ ∃ b es p2 xs, w = rowW b ∧ e = rowE b es ∧ x = .ref p2 ∧ H p2 = some (.tup xs) ∧ xs.length ≤ 100000 ∧ Two (Rep H) xs (es.map E.toD) ∧ ∀ k ∈ es, k.ok = true ∧ k.depth + 1 ≤ e.depth)) := by
  obtain ⟨w, y, p, x, hw, hv, hp, hx, h⟩ := node_of hok hR hs
  refine ⟨w, p, x, hv, hp, hw, ?_⟩
  have kd : ∀ k ∈ e.kids, k.ok = true ∧ k.depth + 1 ≤ e.depth := fun k hk => ⟨ok_kids hok k hk, depth_kids e k hk⟩
  rcases h with (⟨rfl, k, rfl, rfl⟩ | ⟨rfl, k, rfl, rfl⟩) | (⟨rfl, es, rfl, h2, rfl⟩ | ⟨rfl, es, rfl, h2, rfl⟩)
  · exact .inl ⟨by decide +kernel, false, k, rfl, rfl, hx, kd k (by rw [E.kids]; exact List.mem_singleton.mpr rfl)⟩
  · exact .inl ⟨by decide +kernel, true, k, rfl, rfl, hx, kd k (by rw [E.kids]; exact List.mem_singleton.mpr rfl)⟩
  · obtain ⟨p2, xs, h3, h4, h5, h6⟩ := hx.untup
    exact .inr ⟨by decide +kernel, true, es, p2, xs, rfl, rfl, h3, h4, h5, h6, kd⟩
  · obtain ⟨p2, xs, h3, h4, h5, h6⟩ := hx.untup
    exact .inr ⟨by decide +kernel, false, es, p2, xs, rfl, rfl, h3, h4, h5, h6, kd⟩
/-- a leaf is its letters -/
theorem leaf2 {H : Hp} {v : V} {e : E} (hR : Rep H v e.toD) (hs : isStr e.toD = true) : ∃ z : Str, v = .str z ∧ z.cps.toList = e.letters ∧ z.length = e.places ∧ ((z = sNo ∧ e = .eps) ∨ ∃ c, z = ⟨#[c]⟩ ∧ e = .sym c) := by
  cases e with
  | eps =>
    rw [E.toD] at hR
    cases hR with
    | str h => exact ⟨_, rfl, by decide +kernel, by decide +kernel, .inl ⟨rfl, rfl⟩⟩
  | sym c =>
    rw [E.toD] at hR
    cases hR with
    | str h => exact ⟨_, rfl, rfl, rfl, .inr ⟨c, rfl, rfl⟩⟩
  | maybe k => exact absurd hs (by rw [E.toD]; intro c; cases c)
  | many k => exact absurd hs (by rw [E.toD]; intro c; cases c)
  | join es => exact absurd hs (by rw [E.toD]; intro c; cases c)
  | alt es => exact absurd hs (by rw [E.toD]; intro c; cases c)
def spLet2 (n : Nat) : Sp := fun vs H Q _ => ∃ (v : V) (e : E), vs = [v] ∧ e.ok = true ∧ e.depth < n ∧ e.places ≤ 1000 ∧ Rep H v e.toD ∧ ∀ (z : Str) H', Same H H' → z.cps.toList = e.letters → z.length = e.places → Q (.str z) H'
theorem len_toL (z : Str) : z.cps.toList.length = z.length := Array.length_toList
section
variable {P : Program} {w : World} {K : PySem.W.Frag} {mg : Str → Option Value} {base : Heap} {a_BOUNDS a_LONG_BOUNDS : Addr} {tL tM : Tok}
abbrev N__law_letters : List Str := ["expression", "part"]
theorem sc__law_letters : FnScope ["expression", "part"] ["expression"] (defScope s__law_letters) := ⟨rfl, rfl, rfl, by decide +kernel, rfl, by decide +kernel, by decide +kernel⟩
theorem ok_letters2_step {f : Addr} {fd : FuncData} (B : Bt K mg a_BOUNDS a_LONG_BOUNDS tL tM) (Dd : Df K mg "_law_letters" s__law_letters ["expression"] f fd) (n : Nat)
    (G_law_letters : Cl P w K mg base n "_law_letters" ["expression"] (spLet2 n)) : FnOk P w K mg base CX0 (n + 1) f fd ["expression"] (spLet2 (n + 1)) := by
  refine Dd.F.ok sc__law_letters (fun vs H Q Ex h => ?_) (fun cdv A outer s H vs Q Ex hr h => ?_)
  · obtain ⟨v, e, rfl, _⟩ := h
    rfl
  obtain ⟨v, e, rfl, hok, hd, hpl, hR, q⟩ := h
  refine ⟨_, (pss_cons (ps_if (pt_val (pe_callB call_isi rfl B.b_isinstance boot_isinstance (pa_cons (pv 0) (pa_cons (pe_bltn (v := .ty "str") rfl B.b_str boot_str rfl) pa_nil)))) (pss_one (ps_ret (pv 0))) pss_nil)
    (pss_cons (ps_if (pt_cmpR op_in_seq (pe_ix (r := rIxT K) ix_tup (pv 0) pe_int (fun _ _ => rfl)) (pe_lst (pa_cons pe_str (pa_cons pe_str pa_nil))) rfl) (pss_one (ps_ret (pe_cl G_law_letters (hr.mono (by omega)) rfl (pa_cons (pe_ix (r := rIxT K) ix_tup (pv 0) pe_int (fun _ _ => rfl)) pa_nil)))) pss_nil)
    (pss_one (ps_ret (pe_join pe_str (pe_lc (own := [("part", 1)]) (g := gName 1) (tt := tYes) rfl sc__law_letters.nd (pi_tup (pe_ix (r := rIxT K) ix_tup (pv 0) pe_int (fun _ _ => rfl))) (blkOk_by (N := N__law_letters) (sc := defScope s__law_letters) (by decide +kernel)) (fun _ _ _ _ _ => pg_name (i := 1) sc__law_letters.nd rfl (Or.inl rfl)) (fun _ _ _ _ _ => pts_nil) (fun _ _ _ _ _ => (pe_cl G_law_letters (hr.mono (by omega)) rfl (pa_cons (pv 1) pa_nil))))))))), ?_⟩
  obtain ⟨t, ht, k1, _⟩ := hR.ty (K := K)
  refine ⟨_, rfl, _, _, _, _, _, rfl, .ty _, ht, k1, _, rfl, ite2 (fun e1 => ?_) (fun e1 => ?_)⟩
  · obtain ⟨z, rfl, h1, h2, _⟩ := leaf2 hR e1
    exact ⟨_, rfl, q z H (Same.refl H) h1 h2⟩
  obtain ⟨w', p, x, rfl, hp, hw, hk⟩ := node2 hok hR e1
  refine ⟨_, rfl, p, _, 0, _, rfl, rfl, SqT.of hp, at_zero, (by show 2 ≤ sizeLine; decide), fun l hl => ⟨l, _, rfl, .inl (SqL.of upd_same), rfl, rfl, _, rfl, ?_⟩⟩
  have hp2 : (upd H l (.lst [V.str sMaybe, V.str sMany])) p = some (.tup [.str w', x]) := (same_upd hl) _ _ hp
  refine ite2 (fun e2 => ?_) (fun e2 => ?_)
  · obtain ⟨_, b, k, rfl, rfl, hx, hko, hkd⟩ := hk.resolve_right fun c => by
      have e3 : inV (V.str w') [V.str sMaybe, V.str sMany] = true := e2
      rw [c.1] at e3
      cases e3
    rw [wrap_places] at hpl
    refine ⟨_, rfl, p, _, 1, x, rfl, rfl, SqT.of hp2, at_one, x, k, rfl, hko, by omega, hpl, hx.pers (Pers.new hl), fun z H3 s3 h1 h2 => q z H3 ((same_upd hl).trans s3) ?_ ?_⟩
    · rw [wrap_letters]; exact h1
    · rw [wrap_places]; exact h2
  · obtain ⟨_, b, es, p2, xs, rfl, rfl, rfl, h4, h5, hX, hks⟩ := hk.resolve_left fun c => e2 c.1
    rw [row_places] at hpl
    have hl2 := hX.len
    rw [List.length_map] at hl2
    have hX1 : Two (Rep (upd H l (.lst [V.str sMaybe, V.str sMany]))) xs (es.map E.toD) := Rep.pers2 (Pers.new hl) hX
    have h41 := (same_upd (o := .lst [V.str sMaybe, V.str sMany]) hl) _ _ h4
    refine ⟨⟨_, rfl⟩, _, rfl, p, _, 1, _, rfl, rfl, SqT.of hp2, at_one, p2, rfl, ⟨_, SqT.of h41⟩, fun L hL => ?_⟩
    refine lc_tup (K := K) (a := p2) (xs := xs) (fun i H2 => Same (upd H l (.lst [V.str sMaybe, V.str sMany])) H2 ∧ ∃ zs : List Str, (zs.map fun z => z.cps.toList).flatten = E.letters.letterss (es.take i) ∧ zs.length = i ∧ H2 L = some (.lst (zs.map V.str))) ⟨same_upd hL, [], rfl, rfl, upd_same⟩ (fun i H2 _ h => SqT.of (h.1 _ _ h41)) (fun i x H2 hx h => ?_) (fun H2 h => ?_)
    · obtain ⟨h0, zs, hzs, hzl, h2⟩ := h
      obtain ⟨d, hd1, hxd⟩ := hX1.get hx
      rw [List.getElem?_map] at hd1
      obtain ⟨k, hk, rfl⟩ := Option.map_eq_some_iff.mp hd1
      have hmem := List.mem_of_getElem? hk
      have hkp : k.places ≤ E.places.placess es := by
        have := placess_take es (i + 1)
        rw [take_snoc hk, placess_snoc] at this
        omega
      have hix : i < xs.length := (List.getElem?_eq_some_iff.mp hx).1
      obtain ⟨hk1, hk2⟩ := hks k hmem
      refine ⟨rfl, tyes ⟨_, rfl, x, k, rfl, hk1, by omega, by omega, hxd.pers (Pers.same h0), fun z H3 s3 hz3 hz4 => ⟨_, s3 _ _ h2, ?_, ?_, zs ++ [z], ?_, ?_, ?_⟩⟩⟩
      · rw [List.length_map]
        exact Nat.lt_of_le_of_lt (m := 100000) (by omega) (by decide)
      · exact fun b o e => by rw [upd_ne (ne_of_none e hL)]; exact s3 _ _ (h0 b o e)
      · rw [take_snoc hk, letterss_snoc, List.map_append, List.flatten_append, hzs, ← hz3]
        simp
      · rw [List.length_append, hzl]
        rfl
      · rw [upd_same, List.map_append]
        rfl
    · obtain ⟨h0, zs, hzs, hzl, h2⟩ := h
      rw [hl2, List.take_length] at hzs
      have hlen : (Txt.join sNo zs).cps.toList = E.letters.letterss es := by rw [join_flat2, hzs]
      have hsz : (zs.map Str.length).sum = E.places.placess es := by
        rw [← letterss_len, ← hzs, List.length_flatten, List.map_map]
        congr 1
      refine ⟨sNo, L, zs, rfl, rfl, .inl (SqL.of h2), ?_, q _ H2 ((same_upd hl).trans h0) ?_ ?_⟩
      · rw [hsz, lE]
        exact Nat.le_trans (m := 1000) (by omega) (by decide)
      · rw [row_letters]; exact hlen
      · rw [row_places, ← letterss_len, ← hlen, len_toL]
end
end My
namespace My
open PySem PySem.Spec PyProof.Rows L2
theorem _root_.L2.Room.u65 {k : Nat} {A : Around} (r : Room k A) : A.units + 65 < cLine := by
  have := r.un
  omega
def PairsL (H : Hp) (vs : List V) (ij : List (Nat × Nat)) : Prop := Two (fun v x => ∃ q : Addr, v = V.ref q ∧ H q = some (.tup [.int ((x.1 : Nat) : Int), .int ((x.2 : Nat) : Int)])) vs ij
theorem PairsL.same {H H' : Hp} {vs : List V} {ij : List (Nat × Nat)} (s : Same H H') (h : PairsL H vs ij) : PairsL H' vs ij := h.mono fun v x ⟨q, e, h⟩ => ⟨q, e, s _ _ h⟩
theorem PairsL.upd {H : Hp} {vs : List V} {ij : List (Nat × Nat)} {L : Addr} {zs ys : List V} (hL : H L = some (.lst zs)) (h : PairsL H vs ij) : PairsL (upd H L (.lst ys)) vs ij := h.mono fun v x ⟨q, e, h⟩ => ⟨q, e, by rw [upd_ne fun c => by rw [c, hL] at h; cases h]; exact h⟩
structure PairsAt (H : Hp) (p : Addr) (ij : List (Nat × Nat)) : Prop where
  ex : ∃ vs : List V, H p = some (.lst vs) ∧ PairsL H vs ij
theorem PairsAt.same {H H' : Hp} {p : Addr} {ij : List (Nat × Nat)} (s : Same H H') (h : PairsAt H p ij) : PairsAt H' p ij := by
  obtain ⟨vs, h1, h2⟩ := h.ex
  exact ⟨vs, s _ _ h1, h2.same s⟩
theorem PairsL.push {H : Hp} {L q : Addr} {acc : List V} {ij : List (Nat × Nat)} {x : Nat × Nat} (h1 : H L = some (.lst acc)) (h2 : PairsL H acc ij) (hq : H q = some (.tup [.int ((x.1 : Nat) : Int), .int ((x.2 : Nat) : Int)])) : PairsAt (L2.upd H L (.lst (acc ++ [.ref q]))) L (ij ++ [x]) :=
  ⟨_, upd_same, Two.app (PairsL.upd h1 h2) (.cons ⟨q, rfl, by rw [upd_ne fun c => by rw [c, h1] at hq; cases hq]; exact hq⟩ .nil)⟩
theorem PairsL.cat {H : Hp} {p : Addr} {vs ws : List V} {ij kl : List (Nat × Nat)} (hp : H p = none) (h1 : PairsL H vs ij) (h2 : PairsL H ws kl) : PairsAt (L2.upd H p (.lst (vs ++ ws))) p (ij ++ kl) :=
  ⟨_, upd_same, Two.app (h1.same (same_upd hp)) (h2.same (same_upd hp))⟩
theorem natsV_get {xs : List Nat} {m : Nat} {y : V} (h : (natsV xs)[m]? = some y) : ∃ i, xs[m]? = some i ∧ y = .int (i : Int) := by
  unfold natsV at h
  rw [List.getElem?_map] at h
  obtain ⟨i, h1, rfl⟩ := Option.map_eq_some_iff.mp h
  exact ⟨i, h1, rfl⟩
theorem prodL_snoc {xs ys : List Nat} {m i : Nat} (h : xs[m]? = some i) : prodL (xs.take (m + 1)) ys = prodL (xs.take m) ys ++ ys.map fun j => (i, j) := by
  unfold prodL
  rw [take_snoc h, List.map_append, List.flatten_append]
  simp
def pd (x : Nat × Nat) : PyData := .tuple [.int ((x.1 : Nat) : Int), .int ((x.2 : Nat) : Int)]
theorem pd_dp {K : PySem.W.Frag} {H : Hp} {q : Addr} {x : Nat × Nat} (h : H q = some (.tup [.int ((x.1 : Nat) : Int), .int ((x.2 : Nat) : Int)])) : Dp K H (.ref q) (pd x) := .tup (SqT.of h) (.cons (.int _) (.cons (.int _) .nil))
theorem PairsL.dp {K : PySem.W.Frag} {H : Hp} {vs : List V} {ij : List (Nat × Nat)} (h : PairsL H vs ij) : DpAll K H vs (ij.map pd) := by
  induction h with
  | nil => exact .nil
  | cons h _ ih =>
    obtain ⟨q, rfl, hq⟩ := h
    exact .cons (pd_dp hq) ih
theorem PairsAt.dp {K : PySem.W.Frag} {H : Hp} {p : Addr} {ij : List (Nat × Nat)} (h : PairsAt H p ij) : Dp K H (.ref p) (.list (ij.map pd)) := by
  obtain ⟨vs, h1, h2⟩ := h.ex
  exact .lst (SqL.of h1) h2.dp
theorem pd_shaped (x : Nat × Nat) : SeqAt.shaped (pd x) = true := by
  unfold SeqAt.shaped pd
  simp [PyData.canLay0, PyData.canLayAll0, PyData.depth, PyData.depthAll]
theorem pds_lay : ∀ ij : List (Nat × Nat), PyData.canLayAll0 (ij.map pd) = true ∧ PyData.depthAll (ij.map pd) ≤ 1
  | [] => ⟨rfl, Nat.zero_le _⟩
  | x :: ij => by
    obtain ⟨h1, h2⟩ := pds_lay ij
    rw [List.map_cons, PyData.canLayAll0, PyData.depthAll, h1]
    refine ⟨?_, Nat.max_le.mpr ⟨?_, h2⟩⟩
    · unfold pd
      simp [PyData.canLay0, PyData.canLayAll0]
    · unfold pd
      simp [PyData.depth, PyData.depthAll]
theorem pds_shaped (ij : List (Nat × Nat)) : SeqAt.shaped (.list (ij.map pd)) = true := by
  obtain ⟨h1, h2⟩ := pds_lay ij
  unfold SeqAt.shaped
  rw [PyData.canLay0, PyData.depth, h1, decide_eq_true (by omega)]
  rfl
theorem pd_eqv (x y : Nat × Nat) : PyData.eqv (pd y) (pd x) = decide (x = y) := by
  obtain ⟨a, b⟩ := x
  obtain ⟨c, d⟩ := y
  unfold pd
  simp only [PyData.eqv, PyData.eqvAll, Bool.and_true]
  rw [Bool.eq_iff_iff]
  simp only [Bool.and_eq_true, beq_iff_eq, decide_eq_true_eq, Prod.mk.injEq]
  omega
theorem pd_any (x : Nat × Nat) (ij : List (Nat × Nat)) : ((ij.map pd).any fun z => PyData.eqv z (pd x)) = decide (x ∈ ij) := by
  induction ij with
  | nil => rfl
  | cons y ij ih =>
    rw [List.map_cons, List.any_cons, ih, pd_eqv, ← Bool.decide_or]
    exact decide_eq_decide.mpr List.mem_cons.symm
theorem rg_leaf0 (o : Nat) : rgV (o : Int) ((o : Int) + ((0 : Nat) : Int)) = [] := by
  simp [rgV]
theorem rg_leaf1 (o : Nat) : rgV (o : Int) ((o : Int) + ((1 : Nat) : Int)) = [V.int (o : Int)] := by
  have e : ((o : Int) + ((1 : Nat) : Int) - (o : Int)).toNat = 1 := by omega
  simp [rgV, e]
def gR (b : Bool) (es : List E) (o : Nat) : Gl := if b then gl.glJ es o else gl.glA es o
theorem gl_row (b : Bool) (es : List E) (o : Nat) : gl (rowE b es) o = gR b es o := by
  cases b
  · show gl (.alt es) o = gl.glA es o
    rw [gl]
  · show gl (.join es) o = gl.glJ es o
    rw [gl]
def gStep (b : Bool) (x y : Gl) : Gl := if b then x.seq y else x.par y
theorem gR_snoc (b : Bool) (es : List E) (e : E) (o : Nat) : Eqv (gR b (es ++ [e]) o) (gStep b (gR b es o) (gl e (o + E.places.placess es))) := by
  cases b
  · show Eqv (gl.glA (es ++ [e]) o) ((gl.glA es o).par (gl e (o + E.places.placess es)))
    rw [glA_snoc, ← placess_eq]
    exact Eqv.refl _
  · show Eqv (gl.glJ (es ++ [e]) o) ((gl.glJ es o).seq (gl e (o + E.places.placess es)))
    rw [placess_eq]
    exact glJ_snoc es e o
theorem gR_len (b : Bool) (es : List E) (o : Nat) : Short (gR b es o) (E.places.placess es) := by
  cases b
  · exact glA_len es o
  · exact glJ_len es o
theorem sq_bound {W a b x y z : Nat} (h1 : x ≤ (W + 1) * (a * a)) (h2 : y ≤ (W + 1) * (b * b)) (h3 : z ≤ a * b) : x + y + z ≤ (W + 1) * ((a + b) * (a + b)) := by
  have e : (W + 1) * ((a + b) * (a + b)) = (W + 1) * (a * a) + (W + 1) * (a * b) + ((W + 1) * (b * a) + (W + 1) * (b * b)) := by
    rw [Nat.add_mul a b, Nat.mul_add a, Nat.mul_add b, Nat.mul_add, Nat.mul_add, Nat.mul_add]
  have h4 : a * b ≤ (W + 1) * (a * b) := Nat.le_mul_of_pos_left _ (Nat.succ_pos _)
  rw [e]
  omega
theorem row_wr (b : Bool) (es : List E) : (rowE b es).wr = E.wr.wrs es := by
  cases b
  · show E.wr (.alt es) = _
    rw [E.wr]
  · show E.wr (.join es) = _
    rw [E.wr]
theorem wrs_mem {k : E} : ∀ {es : List E}, k ∈ es → k.wr ≤ E.wr.wrs es
  | e :: es, h => by
    rw [E.wr.wrs]
    rcases List.mem_cons.mp h with rfl | h
    · omega
    · have := wrs_mem h
      omega
def spTab (n : Nat) : Sp := fun vs H Q _ => ∃ (v : V) (e : E) (o : Nat), vs = [v, .int o] ∧ e.ok = true ∧ e.depth < n ∧ e.places ≤ 24 ∧ e.wr ≤ 9 ∧ o + e.places ≤ 1000 ∧ Rep H v e.toD ∧
  ∀ (t f l p : Addr) (ij : List (Nat × Nat)) H', Same H H' → H' t = some (.lst [.ref f, .ref l, .ref p, .bl (gl e o).nul]) → H' f = some (.lst (natsV (gl e o).fst)) → H' l = some (.lst (natsV (gl e o).lst)) → PairsAt H' p ij → (∀ x, x ∈ ij ↔ x ∈ (gl e o).fol) → ij.length ≤ (e.wr + 1) * (e.places * e.places) → Q (.ref t) H'
section
variable {P : Program} {w : World} {K : PySem.W.Frag} {mg : Str → Option Value} {base : Heap} {a_BOUNDS a_LONG_BOUNDS : Addr} {tL tM : Tok}
abbrev N__law_tables : List Str := ["expression", "shift", "places", "first", "last", "pairs", "empty", "one", "part", "ahead", "behind", "own", "none", "other"]
theorem sc__law_tables : FnScope ["expression", "shift", "places", "first", "last", "pairs", "empty", "one", "part", "ahead", "behind", "own", "none", "other"] ["expression", "shift"] (defScope s__law_tables) := ⟨rfl, rfl, rfl, by decide +kernel, rfl, by decide +kernel, by decide +kernel⟩
theorem ok_tables_step {f : Addr} {fd : FuncData} (B : Bt K mg a_BOUNDS a_LONG_BOUNDS tL tM) (Dd : Df K mg "_law_tables" s__law_tables ["expression", "shift"] f fd) (n : Nat)
    (G_law_letters : Cl P w K mg base n "_law_letters" ["expression"] (spLet2 n)) (G_law_tables : Cl P w K mg base n "_law_tables" ["expression", "shift"] (spTab n)) : FnOk P w K mg base CX0 (n + 1) f fd ["expression", "shift"] (spTab (n + 1)) := by
  refine Dd.F.ok sc__law_tables (fun vs H Q Ex h => ?_) (fun cdv A outer s H vs Q Ex hr h => ?_)
  · obtain ⟨v, e, o, rfl, _⟩ := h
    rfl
  obtain ⟨v, e, o, rfl, hok, hd, hpl, hwr, ho, hR, q⟩ := h
  refine ⟨_, (pss_cons (ps_if (pt_val (pe_callB call_isi rfl B.b_isinstance boot_isinstance (pa_cons (pv 0) (pa_cons (pe_bltn (v := .ty "str") rfl B.b_str boot_str rfl) pa_nil)))) (pss_cons (ps_set (i := 2) sc__law_tables.nd rfl (Or.inl rfl) (pe_listRg rfl rfl B.b_list (prg_2 rfl B.b_range (pv 1) (pe_op op_add (pv 1) (pe_callB call_len rfl B.b_len boot_len (pa_cons (pv 0) pa_nil))))))
    (pss_one (ps_ret (pe_lst (pa_cons (pv 2) (pa_cons (pv 2) (pa_cons (pe_lst pa_nil) (pa_cons (pe_cmpR op_eq (pv 0) pe_str (nomark _)) pa_nil)))))))) pss_nil)
    (pss_cons (ps_if (pt_cmpR op_in_seq (pe_ix (r := rIxT K) ix_tup (pv 0) pe_int (fun _ _ => rfl)) (pe_lst (pa_cons pe_str (pa_cons pe_str pa_nil))) rfl) (pss_cons (ps_asg (pe_cl G_law_tables (hr.mono (by omega)) rfl (pa_cons (pe_ix (r := rIxT K) ix_tup (pv 0) pe_int (fun _ _ => rfl)) (pa_cons (pv 1) pa_nil))) (pg_lst rfl (pgs_cons (pg_name (i := 3) sc__law_tables.nd rfl (Or.inl rfl)) (pgs_cons (pg_name (i := 4) sc__law_tables.nd rfl (Or.inl rfl)) (pgs_cons (pg_name (i := 5) sc__law_tables.nd rfl (Or.inr rfl)) (pgs_cons (pg_name (i := 6) sc__law_tables.nd rfl (Or.inl rfl)) pgs_nil))))))
    (C8.pss_cut (ps_if (pt_cmpR op_eq (pe_ix (r := rIxT K) ix_tup (pv 0) pe_int (fun _ _ => rfl)) pe_str (nomark _)) (pss_one (ps_for PassesOwn.never rfl (pi_list (pv 4)) (pg_name (i := 7) sc__law_tables.nd rfl (Or.inr rfl)) (pss_one (ps_set (i := 5) sc__law_tables.nd rfl (Or.inr rfl) (pe_op op_cat (pv 5) (pe_lc (own := [("other", 13)]) (g := gName 13) rfl sc__law_tables.nd (pi_list (pv 3)) (blkOk_by (N := N__law_tables) (sc := defScope s__law_tables) (by decide +kernel)) (fun _ _ _ _ _ => pg_name (i := 13) sc__law_tables.nd rfl (Or.inl rfl)) (fun _ _ _ _ _ => pts_one (pt_cmpR (r := rNotInD K) (op_notInD hr.u65) (pe_tup (pa_cons (pv 7) (pa_cons (pv 13) pa_nil))) (pv 5) rfl)) (fun _ _ _ _ _ => (pe_tup (pa_cons (pv 7) (pa_cons (pv 13) pa_nil)))))))))) pss_nil)
    (pss_one (ps_ret (pe_lst (pa_cons (pv 3) (pa_cons (pv 4) (pa_cons (pv 5) (pa_cons pe_bl pa_nil))))))))) pss_nil)
    (pss_cons (ps_set (i := 3) sc__law_tables.nd rfl (Or.inl rfl) (pe_lst pa_nil))
    (pss_cons (ps_set (i := 4) sc__law_tables.nd rfl (Or.inl rfl) (pe_lst pa_nil))
    (pss_cons (ps_set (i := 5) sc__law_tables.nd rfl (Or.inr rfl) (pe_lst pa_nil))
    (pss_cons (ps_set (i := 6) sc__law_tables.nd rfl (Or.inl rfl) (pe_cmpR op_eq (pe_ix (r := rIxT K) ix_tup (pv 0) pe_int (fun _ _ => rfl)) pe_str (nomark _)))
    (pss_cons (ps_for PassesOwn.never rfl (pi_tup (pe_ix (r := rIxT K) ix_tup (pv 0) pe_int (fun _ _ => rfl))) (pg_name (i := 8) sc__law_tables.nd rfl (Or.inl rfl)) (pss_cons (ps_asg (pe_cl G_law_tables (hr.mono (by omega)) rfl (pa_cons (pv 8) (pa_cons (pv 1) pa_nil))) (pg_lst rfl (pgs_cons (pg_name (i := 9) sc__law_tables.nd rfl (Or.inl rfl)) (pgs_cons (pg_name (i := 10) sc__law_tables.nd rfl (Or.inl rfl)) (pgs_cons (pg_name (i := 11) sc__law_tables.nd rfl (Or.inl rfl)) (pgs_cons (pg_name (i := 12) sc__law_tables.nd rfl (Or.inl rfl)) pgs_nil))))))
    (pss_cons (ps_set (i := 1) sc__law_tables.nd rfl (Or.inl rfl) (pe_op op_add (pv 1) (pe_callB call_len rfl B.b_len boot_len (pa_cons (pe_cl G_law_letters (hr.mono (by omega)) rfl (pa_cons (pv 8) pa_nil)) pa_nil))))
    (pss_cons (ps_set (i := 5) sc__law_tables.nd rfl (Or.inr rfl) (pe_op op_cat (pv 5) (pv 11)))
    (pss_one (ps_if (pt_cmpR op_eq (pe_ix (r := rIxT K) ix_tup (pv 0) pe_int (fun _ _ => rfl)) pe_str (nomark _)) (pss_cons (ps_set (i := 3) sc__law_tables.nd rfl (Or.inl rfl) (pe_op op_cat (pv 3) (pv 9)))
    (pss_cons (ps_set (i := 4) sc__law_tables.nd rfl (Or.inl rfl) (pe_op op_cat (pv 4) (pv 10)))
    (pss_one (ps_set (i := 6) sc__law_tables.nd rfl (Or.inl rfl) (pe_or (pv 6) (pe_one (pv 12))))))) (pss_cons (ps_for PassesOwn.never rfl (pi_list (pv 4)) (pg_name (i := 7) sc__law_tables.nd rfl (Or.inr rfl)) (pss_one (ps_set (i := 5) sc__law_tables.nd rfl (Or.inr rfl) (pe_op op_cat (pv 5) (pe_lc (own := [("other", 13)]) (g := gName 13) (tt := tYes) rfl sc__law_tables.nd (pi_list (pv 9)) (blkOk_by (N := N__law_tables) (sc := defScope s__law_tables) (by decide +kernel)) (fun _ _ _ _ _ => pg_name (i := 13) sc__law_tables.nd rfl (Or.inl rfl)) (fun _ _ _ _ _ => pts_nil) (fun _ _ _ _ _ => (pe_tup (pa_cons (pv 7) (pa_cons (pv 13) pa_nil)))))))))
    (C8.pss_cut (ps_if (pt_truth (pv 6) (by intro _; rfl)) (pss_one (ps_set (i := 3) sc__law_tables.nd rfl (Or.inl rfl) (pe_op op_cat (pv 3) (pv 9)))) pss_nil)
    (C8.pss_cut (ps_if (pt_truth (pv 12) (by intro _; rfl)) (pss_one (ps_set (i := 4) sc__law_tables.nd rfl (Or.inl rfl) (pe_op op_cat (pv 4) (pv 10)))) (pss_one (ps_set (i := 4) sc__law_tables.nd rfl (Or.inl rfl) (pv 10))))
    (pss_one (ps_set (i := 6) sc__law_tables.nd rfl (Or.inl rfl) (pe_and (pv 6) (pe_one (pv 12))))))))))))))
    (pss_one (ps_ret (pe_lst (pa_cons (pv 3) (pa_cons (pv 4) (pa_cons (pv 5) (pa_cons (pv 6) pa_nil)))))))))))))), ?_⟩
  obtain ⟨t, ht, k1, _⟩ := hR.ty (K := K)
  refine ⟨_, rfl, _, _, _, _, _, rfl, .ty _, ht, k1, _, rfl, ite2 (fun e1 => ?_) (fun e1 => ?_)⟩
  · obtain ⟨z, rfl, h1, h2, h3⟩ := leaf2 hR e1
    have hz1 : z.length ≤ 1 := by
      rcases h3 with ⟨rfl, _⟩ | ⟨c, rfl, _⟩
      · rw [lE]; omega
      · exact Nat.le_refl _
    refine ⟨_, rfl, _, rfl, _, rfl, _, z.length, rfl, ⟨Nat.le_trans hz1 (by decide), rfl⟩, _, _, rfl, rfl, _, _, rfl, rfl, ?_, fun pl hpl => ⟨_, rfl, _, rfl, (by show 0 ≤ sizeLine; decide), fun pr hpr => ⟨_, rfl, rfl, (by show 4 ≤ sizeLine; decide), fun t2 ht2 => ?_⟩⟩⟩
    · unfold RgOk
      omega
    have sA := (same_upd (o := .lst (rgV (o : Int) ((o : Int) + ((z.length : Nat) : Int)))) hpl)
    have sB := (same_upd (o := .lst []) hpr)
    have sC := same_upd (o := .lst [.ref pl, .ref pl, .ref pr, .bl (decide (V.str z = V.str sNo))]) ht2
    have hpl2 := sC _ _ (sB _ _ (upd_same (H := H) (a := pl) (o := .lst (rgV (o : Int) ((o : Int) + ((z.length : Nat) : Int))))))
    have hnr : PairsAt (upd (upd (upd H pl (.lst (rgV (o : Int) ((o : Int) + ((z.length : Nat) : Int))))) pr (.lst [])) t2 (.lst [.ref pl, .ref pl, .ref pr, .bl (decide (V.str z = V.str sNo))])) pr [] := ⟨[], sC _ _ upd_same, .nil⟩
    rcases h3 with ⟨rfl, rfl⟩ | ⟨c, rfl, rfl⟩
    · have e0 : rgV (o : Int) ((o : Int) + ((sNo.length : Nat) : Int)) = [] := by
        rw [lE]
        exact rg_leaf0 o
      refine q t2 pl pl pr [] _ (sA.trans (sB.trans sC)) ?_ (hpl2.trans (by rw [e0]; rfl)) (hpl2.trans (by rw [e0]; rfl)) hnr (fun x => Iff.rfl) (Nat.zero_le _)
      rw [upd_same, decide_eq_true rfl]
      rfl
    · have e0 : rgV (o : Int) ((o : Int) + (((⟨#[c]⟩ : Str).length : Nat) : Int)) = [V.int (o : Int)] := rg_leaf1 o
      refine q t2 pl pl pr [] _ (sA.trans (sB.trans sC)) ?_ (hpl2.trans (by rw [e0]; rfl)) (hpl2.trans (by rw [e0]; rfl)) hnr (fun x => Iff.rfl) (Nat.zero_le _)
      rw [upd_same]
      have : decide (V.str (⟨#[c]⟩ : Str) = V.str sNo) = false := decide_eq_false fun h => by
        have := congrArg Str.length (V.str.inj h)
        rw [lE] at this
        cases this
      rw [this]
      rfl
  obtain ⟨w', p, x, rfl, hp, hw, hk⟩ := node2 hok hR e1
  refine ⟨_, rfl, p, _, 0, _, rfl, rfl, SqT.of hp, at_zero, (by show 2 ≤ sizeLine; decide), fun l hl => ⟨l, _, rfl, .inl (SqL.of upd_same), rfl, rfl, _, rfl, ?_⟩⟩
  have sl := same_upd (o := .lst [V.str sMaybe, V.str sMany]) hl
  have hp2 := sl _ _ hp
  refine ite2 (fun e2 => ?_) (fun e2 => ?_)
  · obtain ⟨_, b, k, rfl, rfl, hx, hko, hkd⟩ := hk.resolve_right fun c => by
      have e3 : inV (V.str w') [V.str sMaybe, V.str sMany] = true := e2
      rw [c.1] at e3
      cases e3
    rw [wrap_places] at hpl ho
    rw [wrap_wr] at hwr
    have hx1 := hx.pers (Pers.new (o := .lst [V.str sMaybe, V.str sMany]) hl)
    refine ⟨_, rfl, p, _, 1, x, rfl, rfl, SqT.of hp2, at_one, _, rfl, x, k, o, rfl, hko, by omega, hpl, by omega, ho, hx1, fun t2 f2 l2 pr ij H3 s3 ht2 hf2 hl2 hP hmem hlen => ?_⟩
    have hS := gl_len k o
    have hSf : (gl k o).fst.length ≤ k.places := hS.fst
    have hSl : (gl k o).lst.length ≤ k.places := hS.lst
    have hpp : (gl k o).lst.length * (gl k o).fst.length ≤ k.places * k.places := Nat.mul_le_mul hSl hSf
    have hp24 : k.places * k.places ≤ 576 := Nat.mul_le_mul hpl hpl
    have hbig : (k.wr + 1) * (k.places * k.places) ≤ 9 * 576 := Nat.mul_le_mul (by omega) hp24
    refine ⟨t2, _, rfl, SqL.of ht2, rfl, _, _, rfl, _, _, rfl, _, _, rfl, _, _, rfl, rfl, ?_⟩
    refine ⟨fun σ' H' => ∃ (pr' : Addr) (ij' : List (Nat × Nat)) (o7 : Option V), σ' = [some (.ref p), some (.int o), none, some (.ref f2), some (.ref l2), some (.ref pr'), some (.bl (gl k o).nul), o7, none, none, none, none, none, none] ∧ Same H3 H' ∧ PairsAt H' pr' ij' ∧ (∀ x, x ∈ ij' ↔ x ∈ (gl (wrapE b k) o).fol) ∧ ij'.length ≤ ((wrapE b k).wr + 1) * ((wrapE b k).places * (wrapE b k).places), ?_, ?_⟩
    · refine ⟨_, rfl, p, _, 0, _, rfl, rfl, SqT.of (s3 _ _ hp2), at_zero, rfl, _, rfl, ite2 (fun e3 => ?_) (fun e3 => ?_)⟩
      · have hb : b = true := by
          cases b
          · exact absurd (vstr e3) mn
          · rfl
        subst hb
        refine ⟨_, rfl, l2, rfl, ⟨_, SqL.of hl2⟩, for_list (K := K) (a := l2) (xs := natsV (gl k o).lst) (fun m σ' H' => ∃ (pr' : Addr) (ij' : List (Nat × Nat)) (o7 : Option V), σ' = [some (.ref p), some (.int o), none, some (.ref f2), some (.ref l2), some (.ref pr'), some (.bl (gl k o).nul), o7, none, none, none, none, none, none] ∧ Same H3 H' ∧ PairsAt H' pr' ij' ∧ (∀ x, x ∈ ij' ↔ x ∈ ij ∨ x ∈ prodL ((gl k o).lst.take m) (gl k o).fst) ∧ ij'.length ≤ ij.length + m * (gl k o).fst.length) ?_ ?_ ?_ ?_⟩
        · exact ⟨pr, ij, none, rfl, Same.refl _, hP, fun x => ⟨.inl, fun h => h.elim id fun h => by cases h⟩, by omega⟩
        · rintro m σ' H4 hm ⟨pr', ij', o7, rfl, s4, _⟩
          exact SqL.of (s4 _ _ hl2)
        · rintro m y σ' H4 hy ⟨pr', ij', o7, rfl, s4, hP4, hm4, hl4⟩
          obtain ⟨i, hi, rfl⟩ := natsV_get hy
          have hml : m < (gl k o).lst.length := (List.getElem?_eq_some_iff.mp hi).1
          have hmul : (m + 1) * (gl k o).fst.length ≤ k.places * k.places := Nat.le_trans (Nat.mul_le_mul hml (Nat.le_refl _)) hpp
          rw [Nat.succ_mul] at hmul
          refine ⟨_, rfl, _, rfl, f2, rfl, ⟨_, SqL.of (s4 _ _ hf2)⟩, fun L hL => ?_⟩
          refine lc_list (K := K) (a := f2) (xs := natsV (gl k o).fst) (fun c H5 => Same H4 H5 ∧ ∃ new, PairsAt H5 L new ∧ (∀ x, x ∈ new ↔ x ∈ (((gl k o).fst.take c).map fun j => (i, j)) ∧ x ∉ ij') ∧ new.length ≤ c) ⟨same_upd hL, [], ⟨[], upd_same, .nil⟩, fun x => ⟨(fun h => by cases h), fun h => by cases h.1⟩, Nat.le_refl _⟩ (fun c H5 _ h => SqL.of (h.1 _ _ (s4 _ _ hf2))) (fun c z H5 hz h => ?_) (fun H5 h => ?_)
          · obtain ⟨s5, new, hN, hNm, hNl⟩ := h
            obtain ⟨j, hj, rfl⟩ := natsV_get hz
            refine ⟨rfl, _, rfl, _, rfl, (by show 2 ≤ sizeLine; decide), fun q1 hq1 => ?_⟩
            have s6 := same_upd (o := .tup [V.int (i : Int), V.int (j : Int)]) hq1
            refine ⟨_, rfl, pd (i, j), ij'.map pd, pd_dp upd_same, ((hP4.same s5).same s6).dp, pd_shaped _, pds_shaped _, _, rfl, ?_⟩
            rw [pd_any]
            refine ite2 (fun c1 => ?_) (fun c1 => ?_)
            · have hno : (i, j) ∉ ij' := fun h => by
                rw [decide_eq_true h] at c1
                cases c1
              refine ⟨_, rfl, _, rfl, (by show 2 ≤ sizeLine; decide), fun q2 hq2 => ?_⟩
              have s7 := same_upd (o := .tup [V.int (i : Int), V.int (j : Int)]) hq2
              obtain ⟨acc, a1, a2⟩ := ((hN.same s6).same s7).ex
              have hal := a2.len
              refine ⟨acc, a1, ?_, ?_, new ++ [(i, j)], PairsL.push (x := (i, j)) a1 a2 upd_same, fun x => ?_, ?_⟩
              · have hc : c < (gl k o).fst.length := (List.getElem?_eq_some_iff.mp hj).1
                exact Nat.lt_of_le_of_lt (m := 24) (by omega) (by decide)
              · exact fun b' o' hb' => by rw [upd_ne (ne_of_none hb' hL)]; exact s7 _ _ (s6 _ _ (s5 _ _ hb'))
              · rw [List.mem_append, List.mem_singleton, hNm, take_snoc hj, List.map_append, List.mem_append]
                constructor
                · rintro (⟨h1, h2⟩ | rfl)
                  · exact ⟨.inl h1, h2⟩
                  · exact ⟨.inr (List.mem_singleton.mpr rfl), hno⟩
                · rintro ⟨h1 | h1, h2⟩
                  · exact .inl ⟨h1, h2⟩
                  · exact .inr (List.mem_singleton.mp h1)
              · rw [List.length_append]
                exact Nat.succ_le_succ hNl
            · have hyes : (i, j) ∈ ij' := Classical.byContradiction fun h => c1 (by rw [decide_eq_false h]; rfl)
              refine ⟨s5.trans s6, new, hN.same s6, fun x => ?_, Nat.le_succ_of_le hNl⟩
              rw [hNm, take_snoc hj, List.map_append, List.mem_append]
              constructor
              · rintro ⟨h1, h2⟩
                exact ⟨.inl h1, h2⟩
              · rintro ⟨h1 | h1, h2⟩
                · exact ⟨h1, h2⟩
                · rw [List.map_cons, List.map_nil, List.mem_singleton] at h1
                  subst h1
                  exact absurd hyes h2
          · obtain ⟨s5, new, hN, hNm, hNl⟩ := h
            have hfl : (natsV (gl k o).fst).length = (gl k o).fst.length := natsV_len _
            rw [hfl] at hNm hNl
            obtain ⟨vs1, v1, v2⟩ := (hP4.same s5).ex
            obtain ⟨vs2, v3, v4⟩ := hN.ex
            have vl1 := v2.len
            have vl2 := v4.len
            refine ⟨pr', L, vs1, vs2, rfl, rfl, v1, v3, ?_, fun p3 hp3 => ⟨p3, ij' ++ new, _, rfl, (s4.trans s5).trans (same_upd hp3), PairsL.cat hp3 v2 v4, fun x => ?_, ?_⟩⟩
            · exact Nat.le_trans (m := 10000) (by omega) (by decide)
            · rw [List.mem_append, hNm, hm4, prodL_snoc hi, List.mem_append, List.take_length]
              constructor
              · rintro ((h | h) | ⟨h, _⟩)
                · exact .inl h
                · exact .inr (.inl h)
                · exact .inr (.inr h)
              · rintro (h | h | h)
                · exact .inl (.inl h)
                · exact .inl (.inr h)
                · by_cases c : x ∈ ij'
                  · exact .inl ((hm4 x).mp c)
                  · exact .inr ⟨h, fun h' => c ((hm4 x).mpr h')⟩
            · rw [List.length_append, Nat.succ_mul]
              omega
        · rintro σ' H4 ⟨pr', ij', o7, rfl, s4, hP4, hm4, hl4⟩
          have hll : (natsV (gl k o).lst).length = (gl k o).lst.length := natsV_len _
          rw [hll, List.take_length] at hm4
          rw [hll] at hl4
          refine ⟨pr', ij', o7, rfl, s4, hP4, fun x => ?_, ?_⟩
          · rw [hm4, hmem]
            show _ ↔ x ∈ (gl (.many k) o).fol
            rw [gl]
            exact List.mem_append.symm
          · rw [wrap_wr, wrap_places, Nat.succ_mul]
            omega
      · have hb : b = false := by
          cases b
          · rfl
          · exact absurd rfl (vstrN e3)
        subst hb
        refine ⟨pr, ij, none, rfl, Same.refl _, hP, fun x => ?_, ?_⟩
        · rw [hmem]
          show _ ↔ x ∈ (gl (.maybe k) o).fol
          rw [gl]
        · rw [wrap_wr, wrap_places, Nat.succ_mul]
          omega
    rintro σ' H5 ⟨pr', ij', o7, rfl, s5, hP5, hm5, hl5⟩
    refine ⟨_, rfl, _, rfl, _, rfl, (by show 4 ≤ sizeLine; decide), fun t3 ht3 => ?_⟩
    have s6 := same_upd (o := .lst [.ref f2, .ref l2, .ref pr', .bl true]) ht3
    refine q t3 f2 l2 pr' ij' _ (((sl.trans s3).trans s5).trans s6) ?_ ?_ ?_ (hP5.same s6) hm5 hl5
    · rw [upd_same]
      cases b
      · show _ = some (HO.lst [.ref f2, .ref l2, .ref pr', .bl (gl (.maybe k) o).nul])
        rw [gl]
      · show _ = some (HO.lst [.ref f2, .ref l2, .ref pr', .bl (gl (.many k) o).nul])
        rw [gl]
    · rw [s6 _ _ (s5 _ _ hf2)]
      cases b
      · show _ = some (HO.lst (natsV (gl (.maybe k) o).fst))
        rw [gl]
      · show _ = some (HO.lst (natsV (gl (.many k) o).fst))
        rw [gl]
    · rw [s6 _ _ (s5 _ _ hl2)]
      cases b
      · show _ = some (HO.lst (natsV (gl (.maybe k) o).lst))
        rw [gl]
      · show _ = some (HO.lst (natsV (gl (.many k) o).lst))
        rw [gl]
  · obtain ⟨_, b, es, p2, xs, rfl, rfl, rfl, h4, h5, hX, hks⟩ := hk.resolve_left fun c => e2 c.1
    rw [row_places] at hpl ho
    rw [row_wr] at hwr
    have hX1 : Two (Rep (L2.upd H l (.lst [V.str sMaybe, V.str sMany]))) xs (es.map E.toD) := Rep.pers2 (Pers.new hl) hX
    have h41 := sl _ _ h4
    have hlx := hX.len
    rw [List.length_map] at hlx
    refine ⟨(by show 0 ≤ sizeLine; decide), fun f0 hf0 => ⟨(by show 0 ≤ sizeLine; decide), fun l0 hl0 => ⟨(by show 0 ≤ sizeLine; decide), fun r0 hr0 => ?_⟩⟩⟩
    have sf := same_upd (o := .lst []) hf0
    have s2 := same_upd (o := .lst []) hl0
    have s3 := same_upd (o := .lst []) hr0
    have hf1 := s3 _ _ (s2 _ _ (upd_same (a := f0) (o := .lst [])))
    have hl1 := s3 _ _ (upd_same (a := l0) (o := .lst []))
    have hr1 := upd_same (H := L2.upd (L2.upd (L2.upd H l (.lst [V.str sMaybe, V.str sMany])) f0 (.lst [])) l0 (.lst [])) (a := r0) (o := .lst [])
    have S := sf.trans (s2.trans s3)
    revert hf1 hl1 hr1 S
    generalize L2.upd (L2.upd (L2.upd (L2.upd H l (.lst [V.str sMaybe, V.str sMany])) f0 (.lst [])) l0 (.lst [])) r0 (.lst []) = H0
    intro hf1 hl1 hr1 S
    have hp3 := S _ _ hp2
    have h42 := S _ _ h41
    have hX2 : Two (Rep H0) xs (es.map E.toD) := Rep.pers2 (Pers.same S) hX1
    have sH : Same H H0 := sl.trans S
    clear sf s2 s3 S hf0 hl0 hr0
    refine ⟨_, rfl, p, _, 0, _, rfl, rfl, SqT.of hp3, at_zero, rfl, ?_⟩
    have hnul : decide (V.str (rowW b) = V.str sJoin) = (gR b [] o).nul := by
      cases b
      · exact decide_eq_false fun c => jo (V.str.inj c).symm
      · exact decide_eq_true rfl
    refine ⟨_, rfl, p, _, 1, _, rfl, rfl, SqT.of hp3, at_one, p2, rfl, ⟨_, SqT.of h42⟩, for_tup (K := K) (a := p2) (xs := xs) (fun i σ' H' => ∃ (f l r : Addr) (ij : List (Nat × Nat)) (o7 o8 o9 o10 o11 o12 : Option V), σ' = [some (.ref p), some (.int ((o + E.places.placess (es.take i) : Nat) : Int)), none, some (.ref f), some (.ref l), some (.ref r), some (.bl (gR b (es.take i) o).nul), o7, o8, o9, o10, o11, o12, none] ∧ Same H0 H' ∧ H' f = some (.lst (natsV (gR b (es.take i) o).fst)) ∧ H' l = some (.lst (natsV (gR b (es.take i) o).lst)) ∧ PairsAt H' r ij ∧ (∀ x, x ∈ ij ↔ x ∈ (gR b (es.take i) o).fol) ∧ ij.length ≤ (E.wr.wrs es + 1) * (E.places.placess (es.take i) * E.places.placess (es.take i))) ?_ ?_ ?_ ?_⟩
    · refine ⟨f0, l0, r0, [], none, none, none, none, none, none, by rw [show (gR b (es.take 0) o).nul = decide (V.str (rowW b) = V.str sJoin) from hnul.symm]; rfl, Same.refl _, ?_, ?_, ⟨[], hr1, .nil⟩, fun x => ?_, Nat.zero_le _⟩
      · rw [hf1]; cases b <;> rfl
      · rw [hl1]; cases b <;> rfl
      · cases b <;> exact ⟨(fun h => by cases h), fun h => by cases h⟩
    · rintro i σ' H' hi ⟨f, l, r, ij, o7, o8, o9, o10, o11, o12, rfl, s4, _⟩
      exact SqT.of (s4 _ _ h42)
    · rintro i y σ' H4 hy ⟨f, l, r, ij, o7, o8, o9, o10, o11, o12, rfl, s4, hf, hl', hP, hm, hln⟩
      obtain ⟨d, hd1, hxd⟩ := hX2.get hy
      rw [List.getElem?_map] at hd1
      obtain ⟨k, hk, rfl⟩ := Option.map_eq_some_iff.mp hd1
      have hmem := List.mem_of_getElem? hk
      obtain ⟨hk1, hk2⟩ := hks k hmem
      have hpi : E.places.placess (es.take (i + 1)) = E.places.placess (es.take i) + k.places := by rw [take_snoc hk, placess_snoc]
      have hpt := placess_take es (i + 1)
      have hwk := wrs_mem hmem
      have hxk := hxd.pers (Pers.same s4)
      have hev : Eqv (gR b (es.take (i + 1)) o) (gStep b (gR b (es.take i) o) (gl k (o + E.places.placess (es.take i)))) := by
        rw [take_snoc hk]
        exact gR_snoc b _ k o
      have hSi := gR_len b (es.take i) o
      have hSk := gl_len k (o + E.places.placess (es.take i))
      rw [hpi]
      refine ⟨_, rfl, _, rfl, y, k, o + E.places.placess (es.take i), rfl, hk1, by omega, by omega, by omega, by omega, hxk, fun t2 f2 l2 r2 kl H5 s5 ht2 hf2 hl2 hP2 hm2 hln2 => ?_⟩
      refine ⟨t2, _, rfl, SqL.of ht2, rfl, _, _, rfl, _, _, rfl, _, _, rfl, _, _, rfl, rfl, ?_⟩
      refine ⟨_, rfl, _, rfl, y, k, rfl, hk1, by omega, by omega, hxk.pers (Pers.same s5), fun z H6 s6 hz1 hz2 => ⟨_, z.length, rfl, ⟨?_, rfl⟩, _, _, rfl, rfl, ?_⟩⟩
      · rw [hz2]
        exact Nat.le_trans (m := 24) (by omega) (by decide)
      have hsh : ((o + E.places.placess (es.take i) : Nat) : Int) + ((z.length : Nat) : Int) = ((o + (E.places.placess (es.take i) + k.places) : Nat) : Int) := by
        rw [hz2]
        omega
      show gName 1 (V.int (((o + E.places.placess (es.take i) : Nat) : Int) + ((z.length : Nat) : Int))) _ _ _
      rw [hsh]
      have S6 := s5.trans s6
      have hf6 := S6 _ _ hf
      have hl6 := S6 _ _ hl'
      have hf26 := s6 _ _ hf2
      have hl26 := s6 _ _ hl2
      obtain ⟨vs1, v1, v2⟩ := (hP.same S6).ex
      obtain ⟨vs2, v3, v4⟩ := (hP2.same s6).ex
      have vl1 := v2.len
      have vl2 := v4.len
      have hln2' : kl.length ≤ (E.wr.wrs es + 1) * (k.places * k.places) := Nat.le_trans hln2 (Nat.mul_le_mul (by omega) (Nat.le_refl _))
      have hbnd := sq_bound (z := E.places.placess (es.take i) * k.places) hln hln2' (Nat.le_refl _)
      have hPk : E.places.placess (es.take i) + k.places ≤ 24 := by omega
      have hb24 : (E.wr.wrs es + 1) * ((E.places.placess (es.take i) + k.places) * (E.places.placess (es.take i) + k.places)) ≤ 10 * 576 := Nat.mul_le_mul (by omega) (Nat.mul_le_mul hPk hPk)
      refine ⟨_, rfl, _, rfl, r, r2, vs1, vs2, rfl, rfl, v1, v3, Nat.le_trans (m := 10000) (by omega) (by decide), fun r3 hr3 => ?_⟩
      have s7 := same_upd (o := .lst (vs1 ++ vs2)) hr3
      have hP3 := PairsL.cat hr3 v2 v4
      have hm3 : ∀ x, x ∈ ij ++ kl ↔ x ∈ (gR b (es.take i) o).fol ∨ x ∈ (gl k (o + E.places.placess (es.take i))).fol := fun x => by rw [List.mem_append, hm, hm2]
      have hf7 := s7 _ _ hf6
      have hl7 := s7 _ _ hl6
      have hf27 := s7 _ _ hf26
      have hl27 := s7 _ _ hl26
      have S7 := s4.trans (S6.trans s7)
      revert hP3 hf7 hl7 hf27 hl27 S7
      generalize L2.upd H6 r3 (.lst (vs1 ++ vs2)) = H7
      intro hP3 hf7 hl7 hf27 hl27 S7
      refine ⟨_, rfl, p, _, 0, _, rfl, rfl, SqT.of (S7 _ _ hp3), at_zero, rfl, _, rfl, ite2 (fun e3 => ?_) (fun e3 => ?_)⟩
      · have hb : b = false := by
          cases b
          · rfl
          · exact absurd (vstr e3) jo
        subst hb
        obtain ⟨ev1, ev2, ev3, ev4⟩ := hev
        refine ⟨_, rfl, _, rfl, f, f2, _, _, rfl, rfl, hf7, hf27, ?_, fun f3 hf3 => ?_⟩
        · rw [natsV_len, natsV_len]
          have a1 := hSi.fst
          have a2 := hSk.fst
          exact Nat.le_trans (m := 24) (by omega) (by decide)
        have s8 := same_upd (o := .lst (natsV (gR false (es.take i) o).fst ++ natsV (gl k (o + E.places.placess (es.take i))).fst)) hf3
        refine ⟨_, rfl, _, rfl, l, l2, _, _, rfl, rfl, s8 _ _ hl7, s8 _ _ hl27, ?_, fun l3 hl3 => ?_⟩
        · rw [natsV_len, natsV_len]
          have a1 := hSi.lst
          have a2 := hSk.lst
          exact Nat.le_trans (m := 24) (by omega) (by decide)
        have s9 := same_upd (o := .lst (natsV (gR false (es.take i) o).lst ++ natsV (gl k (o + E.places.placess (es.take i))).lst)) hl3
        have hfin : ∀ v : Bool, v = (gR false (es.take (i + 1)) o).nul → ∃ (f l r : Addr) (ij' : List (Nat × Nat)) (o7' o8 o9 o10 o11 o12 : Option V), ([some (.ref p), some (.int ((o + (E.places.placess (es.take i) + k.places) : Nat) : Int)), none, some (.ref f3), some (.ref l3), some (.ref r3), some (.bl v), o7, some y, some (.ref f2), some (.ref l2), some (.ref r2), some (.bl (gl k (o + E.places.placess (es.take i))).nul), none] : L2.St) = [some (.ref p), some (.int ((o + (E.places.placess (es.take i) + k.places) : Nat) : Int)), none, some (.ref f), some (.ref l), some (.ref r), some (.bl (gR false (es.take (i + 1)) o).nul), o7', o8, o9, o10, o11, o12, none] ∧ Same H0 (L2.upd (L2.upd H7 f3 (.lst (natsV (gR false (es.take i) o).fst ++ natsV (gl k (o + E.places.placess (es.take i))).fst))) l3 (.lst (natsV (gR false (es.take i) o).lst ++ natsV (gl k (o + E.places.placess (es.take i))).lst))) ∧ (L2.upd (L2.upd H7 f3 (.lst (natsV (gR false (es.take i) o).fst ++ natsV (gl k (o + E.places.placess (es.take i))).fst))) l3 (.lst (natsV (gR false (es.take i) o).lst ++ natsV (gl k (o + E.places.placess (es.take i))).lst))) f = some (.lst (natsV (gR false (es.take (i + 1)) o).fst)) ∧ (L2.upd (L2.upd H7 f3 (.lst (natsV (gR false (es.take i) o).fst ++ natsV (gl k (o + E.places.placess (es.take i))).fst))) l3 (.lst (natsV (gR false (es.take i) o).lst ++ natsV (gl k (o + E.places.placess (es.take i))).lst))) l = some (.lst (natsV (gR false (es.take (i + 1)) o).lst)) ∧ PairsAt (L2.upd (L2.upd H7 f3 (.lst (natsV (gR false (es.take i) o).fst ++ natsV (gl k (o + E.places.placess (es.take i))).fst))) l3 (.lst (natsV (gR false (es.take i) o).lst ++ natsV (gl k (o + E.places.placess (es.take i))).lst))) r ij' ∧ (∀ x, x ∈ ij' ↔ x ∈ (gR false (es.take (i + 1)) o).fol) ∧ ij'.length ≤ (E.wr.wrs es + 1) * ((E.places.placess (es.take i) + k.places) * (E.places.placess (es.take i) + k.places)) := fun v hv => by
          subst hv
          refine ⟨f3, l3, r3, ij ++ kl, _, _, _, _, _, _, rfl, (S7.trans s8).trans s9, ?_, ?_, (hP3.same s8).same s9, fun x => ?_, ?_⟩
          · rw [s9 _ _ upd_same, natsV_app, ev2]
            rfl
          · rw [upd_same, natsV_app, ev3]
            rfl
          · rw [hm3, ev4]
            exact List.mem_append.symm
          · rw [List.length_append]
            omega
        refine ⟨_, rfl, _, rfl, ite2 (fun c1 => ?_) (fun c1 => ?_)⟩
        · refine hfin true ?_
          rw [ev1]
          show true = ((gR false (es.take i) o).nul || (gl k (o + E.places.placess (es.take i))).nul)
          rw [c1]
          rfl
        · refine ⟨_, rfl, hfin _ ?_⟩
          rw [ev1]
          show _ = ((gR false (es.take i) o).nul || (gl k (o + E.places.placess (es.take i))).nul)
          rw [Bool.eq_false_iff.mpr c1]
          rfl
      · have hb : b = true := by
          cases b
          · exact absurd rfl (vstrN e3)
          · rfl
        subst hb
        obtain ⟨ev1, ev2, ev3, ev4⟩ := hev
        have hgl : (gR true (es.take i) o).lst.length ≤ E.places.placess (es.take i) := hSi.lst
        have hgf : (gl k (o + E.places.placess (es.take i))).fst.length ≤ k.places := hSk.fst
        have hpp : (gR true (es.take i) o).lst.length * (gl k (o + E.places.placess (es.take i))).fst.length ≤ E.places.placess (es.take i) * k.places := Nat.mul_le_mul hgl hgf
        refine ⟨_, rfl, l, rfl, ⟨_, SqL.of hl7⟩, for_list (K := K) (a := l) (xs := natsV (gR true (es.take i) o).lst) (fun m σ' H' => ∃ (r' : Addr) (ij' : List (Nat × Nat)) (o7' : Option V), σ' = [some (.ref p), some (.int ((o + (E.places.placess (es.take i) + k.places) : Nat) : Int)), none, some (.ref f), some (.ref l), some (.ref r'), some (.bl (gR true (es.take i) o).nul), o7', some y, some (.ref f2), some (.ref l2), some (.ref r2), some (.bl (gl k (o + E.places.placess (es.take i))).nul), none] ∧ Same H7 H' ∧ PairsAt H' r' ij' ∧ (∀ x, x ∈ ij' ↔ x ∈ ij ++ kl ∨ x ∈ prodL ((gR true (es.take i) o).lst.take m) (gl k (o + E.places.placess (es.take i))).fst) ∧ ij'.length ≤ ij.length + kl.length + m * (gl k (o + E.places.placess (es.take i))).fst.length) ?_ ?_ ?_ ?_⟩
        · exact ⟨r3, ij ++ kl, _, rfl, Same.refl _, hP3, fun x => ⟨.inl, fun h => h.elim id fun h => by cases h⟩, by rw [List.length_append]; omega⟩
        · rintro m σ' H8 hm' ⟨r', ij', o7', rfl, s8, _⟩
          exact SqL.of (s8 _ _ hl7)
        · rintro m yy σ' H8 hyy ⟨r', ij', o7', rfl, s8, hP8, hm8, hl8⟩
          obtain ⟨a1, ha1, rfl⟩ := natsV_get hyy
          have hml : m < (gR true (es.take i) o).lst.length := (List.getElem?_eq_some_iff.mp ha1).1
          have hmul : (m + 1) * (gl k (o + E.places.placess (es.take i))).fst.length ≤ E.places.placess (es.take i) * k.places := Nat.le_trans (Nat.mul_le_mul hml (Nat.le_refl _)) hpp
          rw [Nat.succ_mul] at hmul
          refine ⟨_, rfl, _, rfl, f2, rfl, ⟨_, SqL.of (s8 _ _ hf27)⟩, fun L hL => ?_⟩
          refine lc_list (K := K) (a := f2) (xs := natsV (gl k (o + E.places.placess (es.take i))).fst) (fun c H9 => Same H8 H9 ∧ PairsAt H9 L (((gl k (o + E.places.placess (es.take i))).fst.take c).map fun j => (a1, j))) ⟨same_upd hL, ⟨[], upd_same, .nil⟩⟩ (fun c H9 _ h => SqL.of (h.1 _ _ (s8 _ _ hf27))) (fun c zz H9 hzz h => ?_) (fun H9 h => ?_)
          · obtain ⟨s9, hN⟩ := h
            obtain ⟨j, hj, rfl⟩ := natsV_get hzz
            refine ⟨rfl, tyes ⟨_, rfl, _, rfl, (by show 2 ≤ sizeLine; decide), fun q2 hq2 => ?_⟩⟩
            have s10 := same_upd (o := .tup [V.int (a1 : Int), V.int (j : Int)]) hq2
            obtain ⟨acc, b1, b2⟩ := (hN.same s10).ex
            have hal := b2.len
            rw [List.length_map, List.length_take] at hal
            have hc : c < (gl k (o + E.places.placess (es.take i))).fst.length := (List.getElem?_eq_some_iff.mp hj).1
            refine ⟨acc, b1, Nat.lt_of_le_of_lt (m := 24) (by omega) (by decide), fun b' o' hb' => by rw [upd_ne (ne_of_none hb' hL)]; exact s10 _ _ (s9 _ _ hb'), ?_⟩
            rw [take_snoc hj, List.map_append]
            exact PairsL.push (x := (a1, j)) b1 b2 upd_same
          · obtain ⟨s9, hN⟩ := h
            have hfl : (natsV (gl k (o + E.places.placess (es.take i))).fst).length = (gl k (o + E.places.placess (es.take i))).fst.length := natsV_len _
            rw [hfl, List.take_length] at hN
            obtain ⟨ws1, w1, w2⟩ := (hP8.same s9).ex
            obtain ⟨ws2, w3, w4⟩ := hN.ex
            have wl1 := w2.len
            have wl2 := w4.len
            rw [List.length_map] at wl2
            refine ⟨r', L, ws1, ws2, rfl, rfl, w1, w3, ?_, fun p3 hp3' => ⟨p3, _, _, rfl, (s8.trans s9).trans (same_upd hp3'), PairsL.cat hp3' w2 w4, fun x => ?_, ?_⟩⟩
            · exact Nat.le_trans (m := 10000) (by omega) (by decide)
            · rw [List.mem_append, hm8, prodL_snoc ha1, List.mem_append (s := prodL _ _), or_assoc]
            · rw [List.length_append, List.length_map, Nat.succ_mul]
              omega
        · rintro σ' H8 ⟨r', ij', o7', rfl, s8, hP8, hm8, hl8⟩
          have hll : (natsV (gR true (es.take i) o).lst).length = (gR true (es.take i) o).lst.length := natsV_len _
          rw [hll, List.take_length] at hm8
          rw [hll] at hl8
          have hf8 := s8 _ _ hf7
          have hl8' := s8 _ _ hl7
          have hf28 := s8 _ _ hf27
          have hl28 := s8 _ _ hl27
          refine ⟨fun σ' H' => ∃ f3 : Addr, σ' = [some (.ref p), some (.int ((o + (E.places.placess (es.take i) + k.places) : Nat) : Int)), none, some (.ref f3), some (.ref l), some (.ref r'), some (.bl (gR true (es.take i) o).nul), o7', some y, some (.ref f2), some (.ref l2), some (.ref r2), some (.bl (gl k (o + E.places.placess (es.take i))).nul), none] ∧ Same H8 H' ∧ H' f3 = some (.lst (natsV (gR true (es.take (i + 1)) o).fst)), ?_, ?_⟩
          · refine ⟨_, rfl, _, rfl, ite2 (fun c => ?_) (fun c => ?_)⟩
            · refine ⟨_, rfl, _, rfl, f, f2, _, _, rfl, rfl, hf8, hf28, ?_, fun f3 hf3 => ⟨f3, rfl, same_upd hf3, ?_⟩⟩
              · rw [natsV_len, natsV_len]
                have a1 := hSi.fst
                exact Nat.le_trans (m := 24) (by omega) (by decide)
              · rw [upd_same, natsV_app, ev2]
                show _ = some (HO.lst (natsV ((gR true (es.take i) o).fst ++ (if (gR true (es.take i) o).nul = true then (gl k (o + E.places.placess (es.take i))).fst else []))))
                rw [if_pos c]
            · refine ⟨f, rfl, Same.refl _, ?_⟩
              rw [hf8, ev2]
              show _ = some (HO.lst (natsV ((gR true (es.take i) o).fst ++ (if (gR true (es.take i) o).nul = true then (gl k (o + E.places.placess (es.take i))).fst else []))))
              rw [if_neg c, List.append_nil]
          rintro σ' H9 ⟨f3, rfl, s9, hf3⟩
          refine ⟨fun σ' H' => ∃ l3 : Addr, σ' = [some (.ref p), some (.int ((o + (E.places.placess (es.take i) + k.places) : Nat) : Int)), none, some (.ref f3), some (.ref l3), some (.ref r'), some (.bl (gR true (es.take i) o).nul), o7', some y, some (.ref f2), some (.ref l2), some (.ref r2), some (.bl (gl k (o + E.places.placess (es.take i))).nul), none] ∧ Same H9 H' ∧ H' l3 = some (.lst (natsV (gR true (es.take (i + 1)) o).lst)), ?_, ?_⟩
          · refine ⟨_, rfl, _, rfl, ite2 (fun c => ?_) (fun c => ?_)⟩
            · refine ⟨_, rfl, _, rfl, l, l2, _, _, rfl, rfl, s9 _ _ hl8', s9 _ _ hl28, ?_, fun l3 hl3 => ⟨l3, rfl, same_upd hl3, ?_⟩⟩
              · rw [natsV_len, natsV_len]
                have a1 := hSk.lst
                exact Nat.le_trans (m := 24) (by omega) (by decide)
              · rw [upd_same, natsV_app, ev3]
                show _ = some (HO.lst (natsV ((if (gl k (o + E.places.placess (es.take i))).nul = true then (gR true (es.take i) o).lst else []) ++ (gl k (o + E.places.placess (es.take i))).lst)))
                rw [if_pos c]
            · refine ⟨_, rfl, l2, rfl, Same.refl _, ?_⟩
              rw [s9 _ _ hl28, ev3]
              show _ = some (HO.lst (natsV ((if (gl k (o + E.places.placess (es.take i))).nul = true then (gR true (es.take i) o).lst else []) ++ (gl k (o + E.places.placess (es.take i))).lst)))
              rw [if_neg c, List.nil_append]
          rintro σ' H10 ⟨l3, rfl, s10, hl3⟩
          have hfin : ∀ v : Bool, v = (gR true (es.take (i + 1)) o).nul → ∃ (f l r : Addr) (ij' : List (Nat × Nat)) (o7 o8 o9 o10 o11 o12 : Option V), ([some (.ref p), some (.int ((o + (E.places.placess (es.take i) + k.places) : Nat) : Int)), none, some (.ref f3), some (.ref l3), some (.ref r'), some (.bl v), o7', some y, some (.ref f2), some (.ref l2), some (.ref r2), some (.bl (gl k (o + E.places.placess (es.take i))).nul), none] : L2.St) = [some (.ref p), some (.int ((o + (E.places.placess (es.take i) + k.places) : Nat) : Int)), none, some (.ref f), some (.ref l), some (.ref r), some (.bl (gR true (es.take (i + 1)) o).nul), o7, o8, o9, o10, o11, o12, none] ∧ Same H0 H10 ∧ H10 f = some (.lst (natsV (gR true (es.take (i + 1)) o).fst)) ∧ H10 l = some (.lst (natsV (gR true (es.take (i + 1)) o).lst)) ∧ PairsAt H10 r ij' ∧ (∀ x, x ∈ ij' ↔ x ∈ (gR true (es.take (i + 1)) o).fol) ∧ ij'.length ≤ (E.wr.wrs es + 1) * ((E.places.placess (es.take i) + k.places) * (E.places.placess (es.take i) + k.places)) := fun v hv => by
            subst hv
            refine ⟨f3, l3, r', ij', _, _, _, _, _, _, rfl, ((S7.trans s8).trans s9).trans s10, s10 _ _ hf3, hl3, (hP8.same s9).same s10, fun x => ?_, by omega⟩
            rw [hm8, hm3, ev4]
            show _ ↔ x ∈ (gR true (es.take i) o).fol ++ (prodL (gR true (es.take i) o).lst (gl k (o + E.places.placess (es.take i))).fst ++ (gl k (o + E.places.placess (es.take i))).fol)
            rw [List.mem_append, List.mem_append]
            constructor
            · rintro ((h | h) | h)
              · exact .inl h
              · exact .inr (.inr h)
              · exact .inr (.inl h)
            · rintro (h | h | h)
              · exact .inl (.inl h)
              · exact .inr h
              · exact .inl (.inr h)
          refine ⟨_, rfl, _, rfl, ite2 (fun c1 => ?_) (fun c1 => ?_)⟩
          · refine ⟨_, rfl, hfin _ ?_⟩
            rw [ev1]
            show _ = ((gR true (es.take i) o).nul && (gl k (o + E.places.placess (es.take i))).nul)
            rw [c1]
            rfl
          · refine hfin false ?_
            rw [ev1]
            show false = ((gR true (es.take i) o).nul && (gl k (o + E.places.placess (es.take i))).nul)
            rw [Bool.eq_false_iff.mpr c1]
            rfl
    · rintro σ' H4 ⟨f, l, r, ij, o7, o8, o9, o10, o11, o12, rfl, s4, hf, hl', hP, hm, hln⟩
      rw [hlx, List.take_length] at hf hl' hm hln
      refine ⟨_, rfl, _, rfl, _, rfl, _, rfl, (by show 4 ≤ sizeLine; decide), fun t3 ht3 => ?_⟩
      have s6 := same_upd (o := .lst [.ref f, .ref l, .ref r, .bl (gR b (es.take xs.length) o).nul]) ht3
      refine q t3 f l r ij _ ((sH.trans s4).trans s6) ?_ ?_ ?_ (hP.same s6) (fun x => ?_) ?_
      · rw [upd_same, gl_row, hlx, List.take_length]
      · rw [gl_row]; exact s6 _ _ hf
      · rw [gl_row]; exact s6 _ _ hl'
      · rw [gl_row]; exact hm x
      · rw [row_wr, row_places]; exact hln
end
end My
namespace My
open PySem PySem.Spec PyProof.Rows L2
def jN (xs : List Nat) : J := .tup (xs.map fun x => .int ((x : Nat) : Int))
def jRows (e : E) : J := .lst ((List.range e.places).map fun i => jN (folAt e i))
def jT (e : E) : J := .lst [jN (gl e 0).fst, jN (gl e 0).lst, jRows e]
theorem jN_rep {H : Hp} {p : Addr} {xs : List Nat} {n : Nat} (h : H p = some (.tup (natsV xs))) (hl : xs.length ≤ 100000) : RepJ H (.ref p) (jN xs) (n + 1) := by
  refine .tup h (by rw [natsV_len]; exact hl) (by rw [natsV_len, List.length_map]) fun i x j hx hj => ?_
  obtain ⟨k, hk, rfl⟩ := natsV_get hx
  rw [List.getElem?_map, hk] at hj
  cases hj
  exact .int _
theorem fol_len (e : E) (i : Nat) : (folAt e i).length ≤ e.places := by
  unfold folAt
  exact Nat.le_trans (List.length_filter_le _ _) (by rw [List.length_range]; exact Nat.le_refl _)
theorem jT_rep {H : Hp} {t p1 p2 L : Addr} {ts : List V} {e : E} (h40 : e.places ≤ 40) (ht : H t = some (.lst [.ref p1, .ref p2, .ref L])) (h1 : H p1 = some (.tup (natsV (gl e 0).fst))) (h2 : H p2 = some (.tup (natsV (gl e 0).lst))) (hL : H L = some (.lst ts)) (hl : ts.length = e.places) (hts : ∀ j x, ts[j]? = some x → ∃ q, x = .ref q ∧ H q = some (.tup (natsV (folAt e j)))) : RepJ H (.ref t) (jT e) 3 := by
  have S := gl_len e 0
  have S1 := S.fst
  have S2 := S.lst
  have r1 : RepJ H (.ref p1) (jN (gl e 0).fst) 2 := jN_rep h1 (by omega)
  have r2 : RepJ H (.ref p2) (jN (gl e 0).lst) 2 := jN_rep h2 (by omega)
  have r3 : RepJ H (.ref L) (jRows e) 2 := by
    refine .lst hL (by omega) (by rw [List.length_map, List.length_range]; exact hl) fun i x j hx hj => ?_
    obtain ⟨q, rfl, hq⟩ := hts i x hx
    have hi := (List.getElem?_eq_some_iff.mp hx).1
    rw [List.getElem?_map, List.getElem?_range (by omega)] at hj
    cases hj
    exact jN_rep hq (by have := fol_len e i; omega)
  refine .lst ht (by show 3 ≤ 100000; decide) rfl fun i x j hx hj => ?_
  match i, hx, hj with
  | 0, hx, hj => cases hx; cases hj; exact r1
  | 1, hx, hj => cases hx; cases hj; exact r2
  | 2, hx, hj => cases hx; cases hj; exact r3
/-! ### first and last places rise -/
theorem rise_app {xs ys : List Nat} {m : Nat} (h1 : xs.Pairwise (· < ·)) (h2 : ys.Pairwise (· < ·)) (h3 : ∀ x ∈ xs, x < m) (h4 : ∀ y ∈ ys, m ≤ y) : (xs ++ ys).Pairwise (· < ·) := by
  rw [List.pairwise_append]
  exact ⟨h1, h2, fun a ha b hb => Nat.lt_of_lt_of_le (h3 a ha) (h4 b hb)⟩
structure Rise (g : Gl) : Prop where
  fst : g.fst.Pairwise (· < ·)
  lst : g.lst.Pairwise (· < ·)
theorem Rise.seq {a b : Gl} {o n m : Nat} (x : Rise a) (y : Rise b) (wa : Within a o n) (wb : Within b (o + n) m) : Rise (a.seq b) where
  fst := by
    unfold Gl.seq
    refine rise_app (m := o + n) x.fst ?_ (fun i hi => (wa.fst i hi).2) fun i hi => ?_
    · split
      · exact y.fst
      · exact .nil
    · split at hi
      · exact (wb.fst i hi).1
      · cases hi
  lst := by
    unfold Gl.seq
    refine rise_app (m := o + n) ?_ y.lst (fun i hi => ?_) fun i hi => (wb.lst i hi).1
    · split
      · exact x.lst
      · exact .nil
    · split at hi
      · exact (wa.lst i hi).2
      · cases hi
theorem Rise.par {a b : Gl} {o n m : Nat} (x : Rise a) (y : Rise b) (wa : Within a o n) (wb : Within b (o + n) m) : Rise (a.par b) where
  fst := rise_app (m := o + n) x.fst y.fst (fun i hi => (wa.fst i hi).2) fun i hi => (wb.fst i hi).1
  lst := rise_app (m := o + n) x.lst y.lst (fun i hi => (wa.lst i hi).2) fun i hi => (wb.lst i hi).1
mutual
theorem gl_rise : ∀ (e : E) (o : Nat), Rise (gl e o)
  | .eps, o => by rw [gl]; exact ⟨.nil, .nil⟩
  | .sym c, o => by rw [gl]; exact ⟨List.pairwise_singleton _ _, List.pairwise_singleton _ _⟩
  | .maybe e, o => by rw [gl]; exact ⟨(gl_rise e o).fst, (gl_rise e o).lst⟩
  | .many e, o => by rw [gl]; exact ⟨(gl_rise e o).fst, (gl_rise e o).lst⟩
  | .join es, o => by rw [gl]; exact glJ_rise es o
  | .alt es, o => by rw [gl]; exact glA_rise es o
theorem glJ_rise : ∀ (es : List E) (o : Nat), Rise (gl.glJ es o)
  | [], o => by rw [gl.glJ]; exact ⟨.nil, .nil⟩
  | e :: es, o => by rw [gl.glJ]; exact (gl_rise e o).seq (glJ_rise es (o + e.places)) (gl_within e o) (glJ_within es (o + e.places))
theorem glA_rise : ∀ (es : List E) (o : Nat), Rise (gl.glA es o)
  | [], o => by rw [gl.glA]; exact ⟨.nil, .nil⟩
  | e :: es, o => by rw [gl.glA]; exact (gl_rise e o).par (glA_rise es (o + e.places)) (gl_within e o) (glA_within es (o + e.places))
end
end My
namespace My
open PySem PySem.Spec PyProof.Rows L2
def spWord : Sp := fun vs H Q _ => ∃ (a : Addr) (z : Str) (most : Nat), vs = [.ref a, .str z, .int most] ∧ Strm H a ∧ 0 < z.length ∧ z.length ≤ 100 ∧ most ≤ 100 ∧ ∀ (u : Str) H', Go a H H' → u.length ≤ most → (∀ c ∈ u.cps.toList, c ∈ z.cps.toList) → Q (.str u) H'
/-- the tables of an expression, kept by draws -/
structure Tabs (H : Hp) (a t : Addr) (g : Gl) : Prop where
  ex : ∃ (f l p : Addr) (ij : List (Nat × Nat)), H t = some (.lst [.ref f, .ref l, .ref p, .bl g.nul]) ∧ H f = some (.lst (natsV g.fst)) ∧ H l = some (.lst (natsV g.lst)) ∧ PairsAt H p ij ∧ (∀ x, x ∈ ij ↔ x ∈ g.fol) ∧ ij.length ≤ 10000 ∧ t ≠ a ∧ f ≠ a ∧ l ≠ a ∧ p ≠ a
theorem PairsL.keep {H H' : Hp} {a : Addr} {vs : List V} {ij : List (Nat × Nat)} (s : Keep a H H') (hs : Strm H a) (h : PairsL H vs ij) : PairsL H' vs ij := h.mono fun v x ⟨q, e, h⟩ => ⟨q, e, s _ _ h (hs.neT h)⟩
theorem Tabs.go {H H' : Hp} {a t : Addr} {g : Gl} (G : Go a H H') (h : Tabs H a t g) : Tabs H' a t g := by
  obtain ⟨f, l, p, ij, h1, h2, h3, h4, h5, h6, n1, n2, n3, n4⟩ := h.ex
  obtain ⟨vs, v1, v2⟩ := h4.ex
  exact ⟨f, l, p, ij, G.keep _ _ h1 n1, G.keep _ _ h2 n2, G.keep _ _ h3 n3, ⟨vs, G.keep _ _ v1 n4, v2.keep G.keep G.st0⟩, h5, h6, n1, n2, n3, n4⟩
def spWalked : Sp := fun vs H Q _ => ∃ (a t : Addr) (g : Gl) (z : Str) (most : Nat), vs = [.ref a, .ref t, .str z, .int most] ∧ Strm H a ∧ Tabs H a t g ∧ (∀ i ∈ g.fst, i < z.length) ∧ (∀ i j, (i, j) ∈ g.fol → j < z.length) ∧ g.fst.length ≤ 40 ∧ z.length ≤ 100 ∧ most ≤ 100 ∧ ∀ (u : Str) H', Go a H H' → u.length ≤ most → (∀ c ∈ u.cps.toList, c ∈ z.cps.toList) → Q (.str u) H'
theorem join_syms (cs : List Nat) : (Txt.join sNo (cs.map fun c => (⟨#[c]⟩ : Str))).cps.toList = cs := by
  rw [join_flat2, List.map_map]
  induction cs with
  | nil => rfl
  | cons c cs ih =>
    rw [List.map_cons, List.flatten_cons, ih]
    rfl
theorem syms_size (cs : List Nat) : ((cs.map fun c => (⟨#[c]⟩ : Str)).map Str.length).sum = cs.length := by
  induction cs with
  | nil => rfl
  | cons c cs ih =>
    rw [List.map_cons, List.map_cons, List.sum_cons, ih, List.length_cons]
    show 1 + cs.length = _
    omega
theorem PairsL.get {H : Hp} {vs : List V} {ij : List (Nat × Nat)} (h : PairsL H vs ij) {c : Nat} {v : V} (hv : vs[c]? = some v) : ∃ (q : Addr) (i j : Nat), (i, j) ∈ ij ∧ v = V.ref q ∧ H q = some (.tup [.int (i : Int), .int (j : Int)]) := by
  obtain ⟨x, h1, q, h2, h3⟩ := Two.get h hv
  exact ⟨q, x.1, x.2, List.mem_of_getElem? h1, h2, h3⟩
section
variable {P : Program} {w : World} {K : PySem.W.Frag} {mg : Str → Option Value} {base : Heap} {a_BOUNDS a_LONG_BOUNDS : Addr} {tL tM : Tok}
abbrev N__law_word : List Str := ["stream", "letters", "most", "k"]
theorem sc__law_word : FnScope ["stream", "letters", "most", "k"] ["stream", "letters", "most"] (defScope s__law_word) := ⟨rfl, rfl, rfl, by decide +kernel, rfl, by decide +kernel, by decide +kernel⟩
theorem ok_word2 {f : Addr} {fd : FuncData} (B : Bt K mg a_BOUNDS a_LONG_BOUNDS tL tM) (Dd : Df K mg "_law_word" s__law_word ["stream", "letters", "most"] f fd) (G_law_next : Cl P w K mg base 1 "_law_next" ["stream", "many"] spNext) : FnOk P w K mg base CX0 2 f fd ["stream", "letters", "most"] spWord := by
  refine Dd.F.ok sc__law_word (fun vs H Q Ex h => ?_) (fun cdv A outer s H vs Q Ex hr h => ?_)
  · obtain ⟨a, z, most, rfl, _⟩ := h
    rfl
  obtain ⟨a, z, most, rfl, hS, hz0, hz1, hm, q⟩ := h
  refine ⟨_, (pss_one (ps_ret (pe_join pe_str (pe_lc (own := [("k", 3)]) (g := gName 3) (tt := tYes) rfl sc__law_word.nd (pi_range1 rfl B.b_range (pa_cons (pe_cl G_law_next (hr.mono (by omega)) rfl (pa_cons (pv 0) (pa_cons (pe_op op_add (pv 2) pe_int) pa_nil))) pa_nil)) (blkOk_by (N := N__law_word) (sc := defScope s__law_word) (by decide +kernel)) (fun _ _ _ _ _ => pg_name (i := 3) sc__law_word.nd rfl (Or.inl rfl)) (fun _ _ _ _ _ => pts_nil) (fun _ _ _ _ _ => (pe_ix ix_str (pv 1) (pe_cl G_law_next (hr.mono (by omega)) rfl (pa_cons (pv 0) (pa_cons (pe_callB (r := rLenOf K) call_lenK rfl B.b_len boot_len (pa_cons (pv 1) pa_nil)) pa_nil))) (fun _ _ => rfl))))))), ?_⟩
  refine ⟨⟨_, rfl⟩, _, rfl, _, rfl, _, _, rfl, rfl, a, (most : Int) + 1, rfl, hS, by omega, by omega, fun d0 H1 d00 d01 g1 => ⟨_, rfl, by omega, by omega, fun L hL => ?_⟩⟩
  have hLa : L ≠ a := (g1.st.ne hL).symm
  have nH : H L = none := by
    cases c : H L with
    | none => rfl
    | some o =>
      have := g1.keep _ _ c hLa
      rw [hL] at this
      cases this
  refine lc_range (lo := 0) (n := d0.toNat) (fun i H' => Go a H H' ∧ ∃ cs : List Nat, H' L = some (.lst (cs.map fun c => V.str ⟨#[c]⟩)) ∧ cs.length = i ∧ ∀ c ∈ cs, c ∈ z.cps.toList) ⟨g1.trans (Go.new g1.st hL), [], upd_same, rfl, fun c h => by cases h⟩ (fun i H2 hi h => ?_) (fun H2 h => ?_)
  · obtain ⟨G2, cs, h2, hl, hc⟩ := h
    refine ⟨rfl, tyes ⟨_, rfl, _, rfl, _, rfl, _, z.length, rfl, ⟨Nat.le_trans hz1 (by decide), rfl⟩, a, z.length, rfl, G2.st, by omega, by omega, fun d H3 d0' d1 g3 => ?_⟩⟩
    obtain ⟨c, hcz⟩ : ∃ c, z.cps.toList[d.toNat]? = some c := ⟨_, List.getElem?_eq_getElem (by rw [len_toList2]; omega)⟩
    refine ⟨z, d, c, rfl, rfl, Nat.le_trans hz1 (by decide), ?_, cs.map (fun c => V.str ⟨#[c]⟩), g3.keep _ _ h2 hLa, ?_, (G2.trans g3).loc nH, cs ++ [c], ?_, ?_, ?_⟩
    · have e1 : d = ((d.toNat : Nat) : Int) := by omega
      rw [e1]
      exact atI_nat hcz
    · rw [List.length_map, hl]
      exact Nat.lt_of_le_of_lt (m := 100) (by omega) (by decide)
    · rw [upd_same, List.map_append]
      rfl
    · rw [List.length_append, hl]
      rfl
    · intro c' hc'
      rcases List.mem_append.mp hc' with h | h
      · exact hc c' h
      · rw [List.mem_singleton] at h
        subst h
        exact List.mem_of_getElem? hcz
  · obtain ⟨G2, cs, h2, hl, hc⟩ := h
    refine ⟨sNo, L, cs.map (fun c => (⟨#[c]⟩ : Str)), rfl, rfl, .inl (SqL.of (by rw [List.map_map]; exact h2)), ?_, q _ H2 G2 ?_ ?_⟩
    · show ((cs.map (fun c => (⟨#[c]⟩ : Str))).map Str.length).sum + _ ≤ _
      rw [syms_size, lE]
      omega
    · rw [← len_toList2, join_syms]
      omega
    · rw [join_syms]
      exact hc
abbrev N__law_walked : List Str := ["stream", "tables", "letters", "most", "word", "here", "k", "found", "one", "other"]
theorem sc__law_walked : FnScope ["stream", "tables", "letters", "most", "word", "here", "k", "found", "one", "other"] ["stream", "tables", "letters", "most"] (defScope s__law_walked) := ⟨rfl, rfl, rfl, by decide +kernel, rfl, by decide +kernel, by decide +kernel⟩
theorem ok_walked {f : Addr} {fd : FuncData} (B : Bt K mg a_BOUNDS a_LONG_BOUNDS tL tM) (Dd : Df K mg "_law_walked" s__law_walked ["stream", "tables", "letters", "most"] f fd) (G_law_next : Cl P w K mg base 1 "_law_next" ["stream", "many"] spNext) : FnOk P w K mg base CX0 2 f fd ["stream", "tables", "letters", "most"] spWalked := by
  refine Dd.F.ok sc__law_walked (fun vs H Q Ex h => ?_) (fun cdv A outer s H vs Q Ex hr h => ?_)
  · obtain ⟨a, t, g, z, most, rfl, _⟩ := h
    rfl
  obtain ⟨a, t, g, z, most, rfl, hS, hT, hf, hj, hf40, hz1, hm, q⟩ := h
  refine ⟨_, (pss_cons (ps_set (i := 4) sc__law_walked.nd rfl (Or.inl rfl) pe_str)
    (pss_cons (ps_set (i := 5) sc__law_walked.nd rfl (Or.inr rfl) pe_non)
    (pss_cons (ps_for PassesOwn.never rfl (pi_range1 rfl B.b_range (pa_cons (pe_cl G_law_next (hr.mono (by omega)) rfl (pa_cons (pv 0) (pa_cons (pe_op op_add (pv 3) pe_int) pa_nil))) pa_nil)) (pg_name (i := 6) sc__law_walked.nd rfl (Or.inl rfl)) (pss_cons (ps_set (i := 7) sc__law_walked.nd rfl (Or.inl rfl) (pe_callB cr_sortedI rfl B.b_sorted boot_sorted (pa_cons (pe_ix (r := rIxL K) ix_list (pv 1) pe_int (fun _ _ => rfl)) pa_nil)))
    (C8.pss_cut (ps_if (pt_cmpR op_notN (pv 5) pe_non (nomark _)) (pss_one (ps_set (i := 7) sc__law_walked.nd rfl (Or.inl rfl) (pe_callB cr_sortedI rfl B.b_sorted boot_sorted (pa_cons (pe_lc (own := [("one", 8), ("other", 9)]) (g := gTup K 2 (gCons (gName 8) (gCons (gName 9) gNil))) rfl sc__law_walked.nd (pi_list (pe_ix (r := rIxL K) ix_list (pv 1) pe_int (fun _ _ => rfl))) (blkOk_by (N := N__law_walked) (sc := defScope s__law_walked) (by decide +kernel)) (fun _ _ _ _ _ => pg_tup rfl (pgs_cons (pg_name (i := 8) sc__law_walked.nd rfl (Or.inl rfl)) (pgs_cons (pg_name (i := 9) sc__law_walked.nd rfl (Or.inl rfl)) pgs_nil))) (fun _ _ _ _ _ => pts_one (pt_cmpR op_eq (pv 8) (pv 5) (nomark _))) (fun _ _ _ _ _ => (pv 9))) pa_nil)))) pss_nil)
    (pss_one (ps_if (pt_truth (pv 7) (by intro _; rfl)) (pss_cons (ps_set (i := 5) sc__law_walked.nd rfl (Or.inr rfl) (pe_ix (r := rIxL K) ix_list (pv 7) (pe_cl G_law_next (hr.mono (by omega)) rfl (pa_cons (pv 0) (pa_cons (pe_callB call_len rfl B.b_len boot_len (pa_cons (pv 7) pa_nil)) pa_nil))) (fun _ _ => rfl)))
    (pss_one (ps_set (i := 4) sc__law_walked.nd rfl (Or.inl rfl) (pe_op op_add_str (pv 4) (pe_ix ix_str (pv 2) (pv 5) (fun _ _ => rfl)))))) pss_nil)))))
    (pss_one (ps_ret (pv 4)))))), ?_⟩
  refine ⟨_, rfl, _, rfl, _, _, rfl, rfl, a, (most : Int) + 1, rfl, hS, by omega, by omega, fun d0 H1 d00 d01 g1 => ⟨_, rfl, by omega, by omega, ?_⟩⟩
  refine for_range (lo := 0) (n := d0.toNat) (fun i σ' H' => ∃ (u : Str) (hv : V) (o6 o7 : Option V), σ' = [some (.ref a), some (.ref t), some (.str z), some (.int most), some (.str u), some hv, o6, o7, none, none] ∧ Go a H H' ∧ (hv = .non ∨ ∃ i : Int, hv = .int i) ∧ u.length ≤ i ∧ ∀ c ∈ u.cps.toList, c ∈ z.cps.toList) ?_ ?_ ?_
  · exact ⟨sNo, .non, none, none, rfl, g1, .inl rfl, by rw [lE]; omega, fun c h => by
      have e : sNo.cps.toList = [] := by decide +kernel
      rw [e] at h
      cases h⟩
  · rintro i σ' H2 hi ⟨u, hv, o6, o7, rfl, G2, hhv, hul, huc⟩
    obtain ⟨f, l, p, ij, ht, hf', hl', hP, hm', hn, n1, n2, n3, n4⟩ := (hT.go G2).ex
    refine ⟨_, rfl, t, _, 0, _, rfl, rfl, SqL.of ht, at_zero, f, _, rfl, SqL.of (by rw [← natsV_int]; exact hf'), fun ys p1 hp _ hp1 => ?_⟩
    have s3 := same_upd (o := .lst (ys.map V.int)) hp1
    have hp1a : p1 ≠ a := (G2.st.ne hp1).symm
    refine ⟨fun σ' H' => ∃ (pf : Addr) (ks : List Int), σ' = [some (.ref a), some (.ref t), some (.str z), some (.int most), some (.str u), some hv, some (.int (0 + (i : Int))), some (.ref pf), none, none] ∧ Same H2 H' ∧ H' pf = some (.lst (ks.map V.int)) ∧ ks.length ≤ 10000 ∧ (∀ y ∈ ks, 0 ≤ y ∧ y < z.length) ∧ pf ≠ a, ?_, ?_⟩
    · refine ⟨_, rfl, rfl, _, rfl, ite2 (fun c1 => ?_) (fun c1 => ?_)⟩
      · obtain ⟨i0, rfl⟩ : ∃ i : Int, hv = .int i := by
          rcases hhv with rfl | h
          · cases c1
          · exact h
        obtain ⟨vs, v1, v2⟩ := (hP.same s3).ex
        have vl := v2.len
        refine ⟨_, rfl, t, _, 2, _, rfl, rfl, SqL.of (s3 _ _ ht), at_of (j := 2) rfl rfl, p, rfl, ⟨_, SqL.of v1⟩, fun L hL => ?_⟩
        have hLa : L ≠ a := ((G2.st.same s3).ne hL).symm
        refine lc_list (K := K) (a := p) (xs := vs) (fun c H3 => Same (upd H2 p1 (.lst (ys.map V.int))) H3 ∧ ∃ ks : List Int, H3 L = some (.lst (ks.map V.int)) ∧ ks.length ≤ c ∧ ∀ y ∈ ks, 0 ≤ y ∧ y < z.length) ⟨same_upd hL, [], upd_same, Nat.le_refl _, fun y h => by cases h⟩ (fun c H3 _ h => SqL.of (h.1 _ _ v1)) (fun c x H3 hx h => ?_) (fun H3 h => ?_)
        · obtain ⟨s4, ks, hk, hkl, hkb⟩ := h
          obtain ⟨q1, i1, j1, hmem, rfl, hq⟩ := v2.get hx
          have hc := (List.getElem?_eq_some_iff.mp hx).1
          have hjz := hj i1 j1 ((hm' _).mp hmem)
          refine ⟨q1, _, rfl, SqT.of (s4 _ _ hq), rfl, _, _, rfl, _, _, rfl, rfl, rfl, _, rfl, _, rfl, rfl, _, rfl, ite2 (fun c2 => ?_) (fun c2 => ?_)⟩
          · refine ⟨_, rfl, ks.map V.int, hk, ?_, fun b o hb => by rw [upd_ne (ne_of_none hb hL)]; exact s4 _ _ hb, ks ++ [(j1 : Int)], ?_, ?_, fun y hy => ?_⟩
            · rw [List.length_map]
              exact Nat.lt_of_le_of_lt (m := 10000) (by omega) (by decide)
            · rw [upd_same, List.map_append]
              rfl
            · rw [List.length_append]
              exact Nat.succ_le_succ hkl
            · rcases List.mem_append.mp hy with h | h
              · exact hkb y h
              · rw [List.mem_singleton] at h
                omega
          · exact ⟨s4, ks, hk, Nat.le_succ_of_le hkl, hkb⟩
        · obtain ⟨s4, ks, hk, hkl, hkb⟩ := h
          refine ⟨L, ks, rfl, SqL.of hk, fun ys' p2 hp' _ hp2 => ⟨p2, ys', rfl, (s3.trans s4).trans (same_upd hp2), upd_same, ?_, fun y hy => hkb y (hp'.mem_iff.mp hy), ?_⟩⟩
          · rw [hp'.length_eq]
            omega
          · exact ((G2.st.same (s3.trans s4)).ne hp2).symm
      · refine ⟨p1, ys, rfl, s3, upd_same, ?_, fun y hy => ?_, hp1a⟩
        · rw [hp.length_eq, List.length_map]
          omega
        · obtain ⟨k, hk, rfl⟩ := List.mem_map.mp (hp.mem_iff.mp hy)
          have := hf k hk
          omega
    rintro σ' H3 ⟨pf, ks, rfl, s4, hk, hkl, hkb, hpa⟩
    have st3 := G2.st.same s4
    have G3 := G2.trans (Go.same G2.st s4)
    refine ⟨_, rfl, _, .inl ⟨_, SqL.of hk, rfl⟩, ite2 (fun c3 => ?_) (fun c3 => ?_)⟩
    · have hne : 0 < ks.length := by
        rcases ks with _ | ⟨y, r⟩
        · cases c3
        · exact Nat.succ_pos _
      refine ⟨_, rfl, _, rfl, _, rfl, _, ks.length, rfl, .inl ⟨_, SqL.of hk, by rw [List.length_map]⟩, a, ks.length, rfl, st3, by omega, by omega, fun d H4 d0' d1' g4 => ?_⟩
      obtain ⟨y, hy⟩ : ∃ y, ks[d.toNat]? = some y := ⟨_, List.getElem?_eq_getElem (by omega)⟩
      obtain ⟨hy0, hy1⟩ := hkb y (List.mem_of_getElem? hy)
      obtain ⟨c, hcz⟩ : ∃ c, z.cps.toList[y.toNat]? = some c := ⟨_, List.getElem?_eq_getElem (by rw [len_toList2]; omega)⟩
      have hyv : (ks.map V.int)[d.toNat]? = some (.int y) := by rw [List.getElem?_map, hy]; rfl
      refine ⟨pf, _, d, .int y, rfl, rfl, SqL.of (g4.keep _ _ hk hpa), at_of (j := d.toNat) (by omega) hyv, ?_⟩
      have hyz : atI z.cps.toList y = some c := by
        have e1 : y = ((y.toNat : Nat) : Int) := by omega
        rw [e1]
        exact atI_nat hcz
      refine ⟨_, rfl, _, rfl, _, rfl, z, y, c, rfl, rfl, Nat.le_trans hz1 (by decide), hyz, u, ⟨#[c]⟩, rfl, rfl, ?_, ?_⟩
      · show u.length + 1 ≤ _
        exact Nat.le_trans (m := 101) (by omega) (by decide)
      · have el : (u ++ (⟨#[c]⟩ : Str)).cps.toList = u.cps.toList ++ [c] := by
          show (u.cps ++ #[c]).toList = _
          simp
        refine ⟨u ++ ⟨#[c]⟩, .int y, _, _, rfl, G3.trans g4, .inr ⟨y, rfl⟩, ?_, fun c' hc' => ?_⟩
        · rw [← len_toList2, el, List.length_append, len_toList2]
          exact Nat.succ_le_succ hul
        · rw [el] at hc'
          rcases List.mem_append.mp hc' with h | h
          · exact huc c' h
          · rw [List.mem_singleton] at h
            subst h
            exact List.mem_of_getElem? hcz
    · exact ⟨u, hv, _, _, rfl, G3, hhv, Nat.le_succ_of_le hul, huc⟩
  · rintro σ' H2 ⟨u, hv, o6, o7, rfl, G2, hhv, hul, huc⟩
    exact ⟨_, rfl, q u H2 G2 (by omega) huc⟩
end
end My
namespace My
open PySem PySem.Spec PyProof.Rows L2
theorem isWord_ok {z : Str} (h : z.length ≤ 24) (l : LetW z) : isWord (.str z) = true := by
  show (decide (z.length ≤ 24) && z.cps.toList.all fun c => decide (c ∈ (Str.ofString "abcd").cps.toList)) = true
  rw [decide_eq_true h, Bool.true_and, List.all_eq_true]
  exact fun c hc => decide_eq_true ((abcd_in c).mpr (l c hc))
def spCheckW : Sp := fun vs H Q _ => ∃ (v : V) (d : My.D), vs = [v] ∧ Rep H v d ∧ isWord d = true ∧ ∀ H', Same H H' → Q .non H'
theorem natsV_getB {xs : List Nat} {i : Nat} {v : V} (h : (natsV xs)[i]? = some v) : ∃ x, xs[i]? = some x ∧ v = V.int (x : Int) := by
  unfold natsV at h
  rw [List.getElem?_map] at h
  obtain ⟨x, hx, rfl⟩ := Option.map_eq_some_iff.mp h
  exact ⟨x, hx, rfl⟩
theorem mem_fol (e : E) (x y : Nat) : y ∈ folAt e x ↔ (x, y) ∈ (gl e 0).fol := by
  unfold folAt
  rw [List.mem_filter, List.mem_range, decide_eq_true_eq]
  exact ⟨fun h => h.2, fun h => ⟨by have := ((gl_within e 0).fol x y h).2; omega, h⟩⟩
theorem stF_emptyC (z b f l o : V) : (stF z b f l o).lookup ("empty" : Str) = some b := by
  unfold stF
  rw [lookup_putF, if_neg n7, lookup_putF, if_neg n6, lookup_putF, if_neg n5, lookup_putF, if_pos rfl]
theorem in_nats (x : Nat) (ys : List Nat) : inV (V.int (x : Int)) (natsV ys) = decide (x ∈ ys) := by
  unfold inV natsV
  rw [Bool.eq_iff_iff]
  simp [eqV]
  constructor
  · rintro ⟨y, hy, h⟩
    have e : y = x := by omega
    rw [← e]
    exact hy
  · exact fun h => ⟨x, h, rfl⟩
theorem flat_nats (ys : List Nat) : (natsV ys).all flatV = true := by
  rw [List.all_eq_true]
  intro v hv
  obtain ⟨i, _, rfl⟩ := List.mem_map.mp hv
  rfl
def rInB (K : PySem.W.Frag) : R2 := rIn K false
theorem op_in_seqB {X : Cx} {K : PySem.W.Frag} (hK : X.K = K) : OpR X (compareOp .In) (rInB K) := by
  subst hK
  exact op_in_seq
def rNotInB (K : PySem.W.Frag) : R2 := rIn K true
theorem op_notin_seqB {X : Cx} {K : PySem.W.Frag} (hK : X.K = K) : OpR X (compareOp .NotIn) (rNotInB K) := by
  subst hK
  exact op_notIn_seq
section
variable {P : Program} {w : World} {K : PySem.W.Frag} {mg : Str → Option Value} {base : Heap} {a_BOUNDS a_LONG_BOUNDS : Addr} {tL tM : Tok}
end
end My
namespace My
open PySem PySem.Spec PyProof.Rows L2
theorem boot_set : bootBuiltins "set" = some (.type "set") := by decide +kernel
theorem boot_sorted2 : bootBuiltins "sorted" = some (.builtin "sorted") := by decide +kernel
def spBehind (C : Addr) : Sp := fun vs H Q _ => ∃ (p r : Addr) (e : E) (xs : List Nat), vs = [.ref p, .ref r] ∧ StepsAt C H p e ∧ e.places ≤ 40 ∧ H r = some (.tup (natsV xs)) ∧ (∀ x ∈ xs, x < e.places) ∧ xs.length ≤ 1000 ∧
  ∀ (q : Addr) (ys : List Nat) H', Same H H' → H q = none → H' q = some (.lst (natsV ys)) → ys.Pairwise (· < ·) → (∀ y, y ∈ ys ↔ ∃ x ∈ xs, (x, y) ∈ (gl e 0).fol) → Q (.ref q) H'
/-- a set of places, told by a list of its members -/
def SetM (w : World) (H : Hp) (S : Addr) (ms : List Int) : Prop := ∃ (Sf : Int → Bool) (n : Nat), H S = some (SetO w S Sf n) ∧ (∀ k, Sf k = decide (k ∈ ms)) ∧ n = ms.length ∧ ms.Nodup
section
variable {P : Program} {w : World} {K : PySem.W.Frag} {mg : Str → Option Value} {base : Heap} {a_BOUNDS a_LONG_BOUNDS : Addr} {tL tM : Tok}
end
end My
namespace My
open PySem PySem.Spec PyProof.Rows L2
theorem for_strB {z : Str} {g : TG} {tb : TS} {D : Ends} {σ : L2.St} {H : Hp} (Pv : Nat → L2.St → Hp → Prop) (h0 : Pv 0 σ H)
    (hs : ∀ i c σ H, z.cps[i]? = some c → Pv i σ H → g (.str ⟨#[c]⟩) σ H fun σ2 H2 => tb { D with nx := Pv (i + 1), ct := Pv (i + 1), bk := D.nx } σ2 H2) (hd : ∀ σ H, Pv z.cps.size σ H → D.nx σ H) :
    ∃ W : Nat → Nat → L2.St → Hp → Prop, (∃ m, W 0 m σ H) ∧ ∀ i m σ H, W i m σ H →
      ((Its z).stop i H ∧ D.nx σ H) ∨ ((Its z).go i H ∧ ∃ N : L2.St → Hp → Prop, (∀ σ' H', N σ' H' → ∃ m', m' < m ∧ W (i + 1) m' σ' H') ∧ ∀ x H', (Its z).yld i H x H' → g x σ H' fun σ2 H2 => tb { D with nx := N, ct := N, bk := D.nx } σ2 H2) := by
  refine ⟨fun i m σ H => m = z.cps.size - i ∧ i ≤ z.cps.size ∧ Pv i σ H, ⟨z.cps.size, by simp, Nat.zero_le _, h0⟩, ?_⟩
  rintro i m σ H ⟨rfl, hi, p⟩
  by_cases hlt : i < z.cps.size
  · refine .inr ⟨hlt, Pv (i + 1), fun σ' H' p' => ⟨z.cps.size - (i + 1), by omega, rfl, hlt, p'⟩, fun x H' y => ?_⟩
    obtain ⟨rfl, c, hc, rfl⟩ := y
    exact hs i c σ _ hc p
  · have e : i = z.cps.size := by omega
    subst e
    exact .inl ⟨Nat.le_refl _, hd σ H p⟩
theorem pe_fldB {X : Cx} {K : PySem.W.Frag} {o : Expr} {f : Str} {pos : Pos} {ta : TE} (hK : X.K = K) (ha : PE X o ta) (hb : attributeBase o f X.env (eval o X.env) = eval o X.env) : PE X (.Attribute o f pos) (tFld K ta f) := by
  subst hK
  exact pe_fld ha hb
/-- over a list or a tuple -/
def iSeqB (K : PySem.W.Frag) (tl : TE) : L2.TI := fun σ H R => iList K tl σ H R ∨ iTup K tl σ H R
theorem pi_seqB {X : Cx} {tg l : Expr} {tl : TE} (hl : PE X l tl) : PI X tg l (iSeqB X.K tl) := by
  refine ⟨fun pins s σ H R I h => ?_⟩
  rcases h with h | h
  · exact (pi_list hl).run pins s σ H R I h
  · exact (pi_tup hl).run pins s σ H R I h
/-! ### the candidates of a word -/
def behindL (e : E) (row : List Nat) : List Nat := (List.range e.places).filter fun y => row.any fun x => decide ((x, y) ∈ (gl e 0).fol)
def rowL (e : E) (near : List Nat) (c : Nat) : List Nat := near.filter fun i => decide (e.letters[i]? = some c)
def cstep (e : E) (s : List Nat × List (List Nat)) (c : Nat) : List Nat × List (List Nat) := (behindL e (rowL e s.1 c), s.2 ++ [rowL e s.1 c])
def cRun (e : E) (ws : List Nat) : List Nat × List (List Nat) := ws.foldl (cstep e) ((gl e 0).fst, [])
theorem cRun_snoc (e : E) (ws : List Nat) (c : Nat) : cRun e (ws ++ [c]) = cstep e (cRun e ws) c := by
  unfold cRun
  rw [List.foldl_append]
  rfl
def spCands (C : Addr) : Sp := fun vs H Q _ => ∃ (p : Addr) (z : Str) (e : E), vs = [.ref p, .str z] ∧ StepsAt C H p e ∧ e.places ≤ 40 ∧ z.length ≤ 1000 ∧
  ∀ (q : Addr) (ts : List V) H', Same H H' → H q = none → H' q = some (.lst ts) → Two (fun t row => ∃ a, t = V.ref a ∧ H' a = some (.tup (natsV row))) ts (cRun e z.cps.toList).2 → Q (.ref q) H'
theorem eq_of_riseN {a b : List Nat} (ha : a.Pairwise (· < ·)) (hb : b.Pairwise (· < ·)) (h : ∀ x, x ∈ a ↔ x ∈ b) : a = b := by
  have up : ∀ l : List Nat, l.Pairwise (· < ·) → (l.map fun (j : Nat) => (j : Int)).Pairwise (· < ·) := fun l hl => by
    rw [List.pairwise_map]
    exact hl.imp fun h => by omega
  have e := eq_of_rise _ _ (up a ha) (up b hb) fun x => by
    constructor
    · intro hx
      obtain ⟨y, hy, rfl⟩ := List.mem_map.mp hx
      exact List.mem_map.mpr ⟨y, (h y).mp hy, rfl⟩
    · intro hx
      obtain ⟨y, hy, rfl⟩ := List.mem_map.mp hx
      exact List.mem_map.mpr ⟨y, (h y).mpr hy, rfl⟩
  have e2 := congrArg (List.map Int.toNat) e
  rw [List.map_map, List.map_map] at e2
  have e3 : (Int.toNat ∘ fun (j : Nat) => (j : Int)) = id := funext fun j => rfl
  rw [e3, List.map_id, List.map_id] at e2
  exact e2
theorem behindL_mem (e : E) (row : List Nat) (y : Nat) : y ∈ behindL e row ↔ ∃ x ∈ row, (x, y) ∈ (gl e 0).fol := by
  unfold behindL
  rw [List.mem_filter, List.mem_range, List.any_eq_true]
  constructor
  · rintro ⟨_, x, hx, hf⟩
    exact ⟨x, hx, of_decide_eq_true hf⟩
  · rintro ⟨x, hx, hf⟩
    exact ⟨by have := ((gl_within e 0).fol x y hf).2; omega, x, hx, decide_eq_true hf⟩
section
variable {P : Program} {w : World} {K : PySem.W.Frag} {mg : Str → Option Value} {base : Heap} {a_BOUNDS a_LONG_BOUNDS : Addr} {tL tM : Tok}
end
end My
namespace My
open PySem PySem.Spec PyProof.Rows L2
def spCandM : Sp := fun vs H Q _ => ∃ (v : V) (e : E) (z : Str), vs = [v, .str z] ∧ Eok e ∧ Rep H v e.toD ∧ z.length ≤ 24 ∧ LetW z ∧ ∀ (q : Addr) (ts : List V) H', Same H H' → H' q = some (.lst ts) → Two (fun t row => ∃ a, t = V.ref a ∧ H' a = some (.tup (natsV row))) ts (cRun e z.cps.toList).2 → Q (.ref q) H'
/-- the tables, where nothing is drawn any more -/
structure TabF (H : Hp) (t : Addr) (e : E) : Prop where
  ex : ∃ (f l p : Addr) (ij : List (Nat × Nat)), H t = some (.lst [.ref f, .ref l, .ref p, .bl (gl e 0).nul]) ∧ H f = some (.lst (natsV (gl e 0).fst)) ∧ H l = some (.lst (natsV (gl e 0).lst)) ∧ PairsAt H p ij ∧ (∀ x, x ∈ ij ↔ x ∈ (gl e 0).fol) ∧ ij.length ≤ 10000
theorem TabF.same {H H' : Hp} {t : Addr} {e : E} (s : Same H H') (h : TabF H t e) : TabF H' t e := by
  obtain ⟨f, l, p, ij, h1, h2, h3, h4, h5, h6⟩ := h.ex
  exact ⟨f, l, p, ij, s _ _ h1, s _ _ h2, s _ _ h3, h4.same s, h5, h6⟩
def nearL (e : E) : Option (List Nat) → List Nat
  | none => (gl e 0).fst
  | some row => behindL e row
def HereV (H : Hp) (hv : V) : Option (List Nat) → Prop
  | none => hv = .non
  | some row => ∃ r, hv = .ref r ∧ H r = some (.tup (natsV row))
theorem HereV.same {H H' : Hp} {hv : V} {o : Option (List Nat)} (s : Same H H') (h : HereV H hv o) : HereV H' hv o := by
  cases o with
  | none => exact h
  | some row =>
    obtain ⟨r, e, h⟩ := h
    exact ⟨r, e, s _ _ h⟩
def spLB : Sp := fun vs H Q _ => ∃ (t : Addr) (hv : V) (z : Str) (c : Nat) (e : E) (o : Option (List Nat)), vs = [.ref t, hv, .str z, .str ⟨#[c]⟩] ∧ e.places ≤ 40 ∧ TabF H t e ∧ z.cps.toList = e.letters ∧ HereV H hv o ∧ ∀ (q : Addr) H', Same H H' → H' q = some (.tup (natsV (rowL e (nearL e o) c))) → Q (.ref q) H'
theorem nearL_rise (e : E) (o : Option (List Nat)) : (nearL e o).Pairwise (· < ·) := by
  cases o with
  | none => exact (gl_rise e 0).fst
  | some row => exact List.pairwise_lt_range.filter _
theorem nearL_lt (e : E) (o : Option (List Nat)) : ∀ x ∈ nearL e o, x < e.places := by
  cases o with
  | none => exact fun x hx => by have := (gl_within e 0).fst x hx; omega
  | some row => exact fun x hx => List.mem_range.mp (List.mem_filter.mp hx).1
theorem rowL_range (e : E) (o : Option (List Nat)) (c : Nat) : ((List.range e.places).filter fun y => decide (y ∈ nearL e o ∧ e.letters[y]? = some c)) = rowL e (nearL e o) c := by
  refine eq_of_riseN (List.pairwise_lt_range.filter _) ((nearL_rise e o).filter _) fun x => ?_
  rw [List.mem_filter, List.mem_range, decide_eq_true_eq]
  unfold rowL
  rw [List.mem_filter, decide_eq_true_eq]
  exact ⟨fun h => h.2, fun h => ⟨nearL_lt e o x h.1, h⟩⟩
section
variable {P : Program} {w : World} {K : PySem.W.Frag} {mg : Str → Option Value} {base : Heap} {a_BOUNDS a_LONG_BOUNDS : Addr} {tL tM : Tok}
abbrev N__law_behind : List Str := ["tables", "here", "letters", "letter", "found", "one", "other", "place"]
theorem sc__law_behind : FnScope ["tables", "here", "letters", "letter", "found", "one", "other", "place"] ["tables", "here", "letters", "letter"] (defScope s__law_behind) := ⟨rfl, rfl, rfl, by decide +kernel, rfl, by decide +kernel, by decide +kernel⟩
set_option maxHeartbeats 1000000 in
theorem ok_lbehind {f : Addr} {fd : FuncData} (B : Bt K mg a_BOUNDS a_LONG_BOUNDS tL tM) (Dd : Df K mg "_law_behind" s__law_behind ["tables", "here", "letters", "letter"] f fd) : FnOk P w K mg base CX0 1 f fd ["tables", "here", "letters", "letter"] spLB := by
  refine Dd.F.ok sc__law_behind (fun vs H Q Ex h => ?_) (fun cdv A outer s H vs Q Ex hr h => ?_)
  · obtain ⟨t, hv, z, c, e, o, rfl, _⟩ := h
    rfl
  obtain ⟨t, hv, z, c, e, o, rfl, h40, hT, hz, hh, q⟩ := h
  refine ⟨_, (pss_cons (ps_set (i := 4) sc__law_behind.nd rfl (Or.inr rfl) (pe_ix (r := rIxL K) ix_list (pv 0) pe_int (fun _ _ => rfl)))
    (C8.pss_cut (ps_if (pt_cmpR op_notN (pv 1) pe_non (nomark _)) (pss_one (ps_set (i := 4) sc__law_behind.nd rfl (Or.inr rfl) (pe_lc (own := [("one", 5), ("other", 6)]) (g := gTup K 2 (gCons (gName 5) (gCons (gName 6) gNil))) rfl sc__law_behind.nd (pi_list (pe_ix (r := rIxL K) ix_list (pv 0) pe_int (fun _ _ => rfl))) (blkOk_by (N := N__law_behind) (sc := defScope s__law_behind) (by decide +kernel)) (fun _ _ _ _ _ => pg_tup rfl (pgs_cons (pg_name (i := 5) sc__law_behind.nd rfl (Or.inl rfl)) (pgs_cons (pg_name (i := 6) sc__law_behind.nd rfl (Or.inl rfl)) pgs_nil))) (fun _ _ _ _ _ => pts_one (pt_cmpR (r := rInB K) (op_in_seqB rfl) (pv 5) (pv 1) rfl)) (fun _ _ _ _ _ => (pv 6))))) pss_nil)
    (pss_one (ps_ret (pe_callTy (r := rTupOf K) call_tuple_ofK rfl B.b_tuple boot_tuple (pa_cons (pe_callB cr_sortedI rfl B.b_sorted boot_sorted (pa_cons (pe_lc (own := [("place", 7)]) (g := gName 7) rfl sc__law_behind.nd (pi_range1 rfl B.b_range (pa_cons (pe_callB call_len rfl B.b_len boot_len (pa_cons (pv 2) pa_nil)) pa_nil)) (blkOk_by (N := N__law_behind) (sc := defScope s__law_behind) (by decide +kernel)) (fun _ _ _ _ _ => pg_name (i := 7) sc__law_behind.nd rfl (Or.inl rfl)) (fun _ _ _ _ _ => pts_one (PW.pt (pw_and (pt_cmpR (r := rInB K) (op_in_seqB rfl) (pv 7) (pv 4) rfl) (pw_and1 (pt_cmpR op_eq (pe_ix ix_str (pv 2) (pv 7) (fun _ _ => rfl)) (pv 3) (nomark _)))))) (fun _ _ _ _ _ => (pv 7))) pa_nil)) pa_nil)))))), ?_⟩
  obtain ⟨f0, l0, p0, ij, h1, h2, h3, h4, h5, h6⟩ := hT.ex
  have hzl : z.length = e.places := by rw [← len_toList2, hz, letters_len]
  refine ⟨_, rfl, t, _, 0, _, rfl, rfl, SqL.of h1, at_zero, ?_⟩
  refine ⟨fun σ' H' => ∃ (nf : Addr) (ys : List Nat), σ' = [some (.ref t), some hv, some (.str z), some (.str ⟨#[c]⟩), some (.ref nf), none, none, none] ∧ Same H H' ∧ H' nf = some (.lst (natsV ys)) ∧ (∀ y, y ∈ ys ↔ y ∈ nearL e o), ?_, ?_⟩
  · refine ⟨_, rfl, rfl, _, rfl, ite2 (fun c1 => ?_) (fun c1 => ?_)⟩
    · cases o with
      | none =>
        have e1 : hv = .non := hh
        rw [e1] at c1
        cases c1
      | some row =>
        obtain ⟨r, rfl, hr0⟩ := hh
        obtain ⟨vs, v1, v2⟩ := h4.ex
        refine ⟨_, rfl, t, _, 2, _, rfl, rfl, SqL.of h1, at_of (j := 2) rfl rfl, p0, rfl, ⟨_, SqL.of v1⟩, fun L hL => ?_⟩
        refine lc_list (K := K) (a := p0) (xs := vs) (fun k H3 => Same H H3 ∧ H3 L = some (.lst (natsV (((ij.take k).filter fun x => decide (x.1 ∈ row)).map (·.2))))) ⟨same_upd hL, upd_same⟩ (fun k H3 _ h => SqL.of (h.1 _ _ v1)) (fun k x H3 hx h => ?_) (fun H3 h => ?_)
        · obtain ⟨s4, hk⟩ := h
          obtain ⟨⟨i1, j1⟩, hm, q1, rfl, hq⟩ := Two.get v2 hx
          have hkl := (List.getElem?_eq_some_iff.mp hm).1
          refine ⟨q1, _, rfl, SqT.of (s4 _ _ hq), rfl, _, _, rfl, _, _, rfl, rfl, rfl, _, rfl, _, rfl, r, _, rfl, .inr (SqT.of (s4 _ _ hr0)), rfl, flat_nats _, _, rfl, ?_⟩
          rw [in_nats]
          refine ite2 (fun c2 => ?_) (fun c2 => ?_)
          · refine ⟨_, rfl, _, hk, ?_, fun b ob hb => by rw [upd_ne (ne_of_none hb hL)]; exact s4 _ _ hb, ?_⟩
            · rw [natsV_len, List.length_map]
              have := List.length_filter_le (fun x : Nat × Nat => decide (x.1 ∈ row)) (ij.take k)
              rw [List.length_take] at this
              exact Nat.lt_of_le_of_lt (m := 10000) (by omega) (by decide)
            · have c2' : decide ((i1, j1).fst ∈ row) = true := c2
              rw [upd_same, take_snoc hm, List.filter_append, List.filter_cons, if_pos c2', List.filter_nil, List.map_append]
              unfold natsV
              rw [List.map_append]
              rfl
          · have c2' : ¬ decide ((i1, j1).fst ∈ row) = true := c2
            refine ⟨s4, ?_⟩
            rw [take_snoc hm, List.filter_append, List.filter_cons, if_neg c2', List.filter_nil, List.append_nil]
            exact hk
        · obtain ⟨s4, hk⟩ := h
          rw [v2.len, List.take_length] at hk
          refine ⟨L, _, rfl, s4, hk, fun y => ?_⟩
          show _ ↔ y ∈ behindL e row
          rw [behindL_mem, List.mem_map]
          constructor
          · rintro ⟨⟨i, j⟩, hm, rfl⟩
            obtain ⟨h8, h9⟩ := List.mem_filter.mp hm
            exact ⟨i, of_decide_eq_true h9, (h5 _).mp h8⟩
          · rintro ⟨x, h8, h9⟩
            exact ⟨(x, y), List.mem_filter.mpr ⟨(h5 _).mpr h9, decide_eq_true h8⟩, rfl⟩
    · cases o with
      | none => exact ⟨f0, _, rfl, Same.refl _, h2, fun y => Iff.rfl⟩
      | some row =>
        obtain ⟨r, rfl, hr0⟩ := hh
        exact absurd rfl c1
  · rintro σ' H1 ⟨nf, ys, rfl, s1, hnf, hys⟩
    refine ⟨_, rfl, _, z.length, rfl, ⟨by rw [hzl]; exact Nat.le_trans h40 (by decide), rfl⟩, _, rfl, by omega, by omega, fun L hL => ?_⟩
    refine lc_range (lo := 0) (n := z.length) (fun i H3 => Same H1 H3 ∧ H3 L = some (.lst (natsV ((List.range i).filter fun y => decide (y ∈ nearL e o ∧ e.letters[y]? = some c))))) ⟨same_upd hL, upd_same⟩ (fun i H3 hi h => ?_) (fun H3 h => ?_)
    · obtain ⟨s3, hk⟩ := h
      have hil : i < e.letters.length := by rw [letters_len]; omega
      have hci : e.letters[i]? = some e.letters[i] := List.getElem?_eq_getElem hil
      have hat : atI z.cps.toList ((0 : Int) + (i : Int)) = some e.letters[i] := by
        rw [hz, Int.zero_add]
        exact atI_nat hci
      have no : ¬ (i ∈ nearL e o ∧ e.letters[i]? = some c) → H3 L = some (.lst (natsV ((List.range (i + 1)).filter fun y => decide (y ∈ nearL e o ∧ e.letters[y]? = some c)))) := fun n => by
        rw [List.range_succ, List.filter_append, List.filter_cons, if_neg (by rw [decide_eq_false n]; exact Bool.false_ne_true), List.filter_nil, List.append_nil]
        exact hk
      refine ⟨rfl, _, rfl, _, rfl, nf, _, rfl, .inl (SqL.of (s3 _ _ hnf)), rfl, flat_nats _, _, rfl, ?_⟩
      rw [Int.zero_add, in_nats]
      rw [Int.zero_add] at hat
      refine ite2 (fun c1 => ?_) (fun c1 => iteF ?_)
      · have c1' := (hys i).mp (of_decide_eq_true c1)
        refine ⟨_, rfl, _, rfl, z, (i : Int), e.letters[i], rfl, rfl, by rw [hzl]; exact Nat.le_trans h40 (by decide), hat, _, rfl, rfl, _, rfl, ite2 (fun c2 => ?_) (fun c2 => ?_)⟩
        · have hcc : e.letters[i]? = some c := by
            rw [hci]
            exact congrArg some (List.cons.inj (congrArg (fun s : Str => s.cps.toList) (vstr c2))).1
          refine ⟨_, rfl, _, hk, ?_, fun b ob hb => by rw [upd_ne (ne_of_none hb hL)]; exact s3 _ _ hb, ?_⟩
          · rw [natsV_len]
            have := List.length_filter_le (fun y => decide (y ∈ nearL e o ∧ e.letters[y]? = some c)) (List.range i)
            rw [List.length_range] at this
            exact Nat.lt_of_le_of_lt (m := 40) (by omega) (by decide)
          · rw [upd_same, List.range_succ, List.filter_append, List.filter_cons, if_pos (decide_eq_true ⟨c1', hcc⟩), List.filter_nil]
            unfold natsV
            rw [List.map_append]
            rfl
        · refine ⟨s3, no fun h => c2 ?_⟩
          rw [hci] at h
          rw [Option.some.inj h.2]
          exact decide_eq_true rfl
      · exact ⟨s3, no fun h => c1 (decide_eq_true ((hys i).mpr h.1))⟩
    · obtain ⟨s3, hk⟩ := h
      rw [hzl, rowL_range] at hk
      refine ⟨L, _, rfl, SqL.of (by rw [← natsV_int]; exact hk), fun ys' p1 hp hs hp1 => ⟨p1, _, rfl, .inl ⟨SqL.of upd_same, fun q1 hq1 => ?_⟩⟩⟩
      have rr : (rowL e (nearL e o) c).Pairwise (· < ·) := (nearL_rise e o).filter _
      have e1 : ys' = (rowL e (nearL e o) c).map fun (j : Nat) => (j : Int) := by
        have r2 : ((rowL e (nearL e o) c).map fun (j : Nat) => (j : Int)).Pairwise (· < ·) := by
          rw [List.pairwise_map]
          exact rr.imp fun h => by omega
        exact eq_of_rise _ _ (rise_of hp hs (r2.imp fun h => by omega)) r2 fun x => hp.mem_iff
      refine q q1 _ ((s1.trans s3).trans ((same_upd hp1).trans (same_upd hq1))) ?_
      rw [upd_same, e1, natsV_int]
end
end My
namespace My
open PySem PySem.Spec PyProof.Rows L2
/-! ### places by their letters -/
theorem two_put {R R' : (L2.Key × V) → Nat → Prop} (hk : ∀ kv c, R kv c → kv.1 = Sum.inr ⟨#[c]⟩) (c : Nat) (z : V) (hc : R' (Sum.inr ⟨#[c]⟩, z) c) (ho : ∀ kv c', c' ≠ c → R kv c' → R' kv c') {kvs : List (L2.Key × V)} {cs : List Nat} (h : Two R kvs cs) : Two R' (putK kvs (Sum.inr ⟨#[c]⟩) z) (if c ∈ cs then cs else cs ++ [c]) := by
  have key : ∀ {kv : L2.Key × V} {c' : Nat}, R kv c' → (kv.1 = Sum.inr ⟨#[c]⟩ ↔ c' = c) := fun {kv c'} r => by
    rw [hk _ _ r]
    constructor
    · intro e
      have e1 : (⟨#[c']⟩ : Str) = ⟨#[c]⟩ := Sum.inr.inj e
      have e2 := congrArg (fun s : Str => s.cps.toList) e1
      exact (List.cons.inj e2).1
    · rintro rfl
      rfl
  have any : (kvs.any fun kv => decide (kv.1 = (Sum.inr ⟨#[c]⟩ : L2.Key))) = decide (c ∈ cs) := by
    induction h with
    | nil => rfl
    | @cons a b as bs r _ ih =>
      rw [List.any_cons, ih, ← Bool.decide_or]
      refine decide_eq_decide.mpr ?_
      rw [key r, List.mem_cons]
      exact ⟨fun h => h.elim (fun h => .inl h.symm) .inr, fun h => h.elim (fun h => .inl h.symm) .inr⟩
  unfold putK
  rw [any]
  by_cases hm : c ∈ cs
  · rw [if_pos (decide_eq_true hm), if_pos hm]
    clear any hm
    induction h with
    | nil => exact .nil
    | @cons a b as bs r _ ih =>
      rw [List.map_cons]
      refine .cons ?_ ih
      by_cases e : b = c
      · rw [if_pos ((key r).mpr e), (key r).mpr e, e]
        exact hc
      · rw [if_neg fun h => e ((key r).mp h)]
        exact ho _ _ e r
  · rw [if_neg (by rw [decide_eq_false hm]; exact Bool.false_ne_true), if_neg hm]
    have : Two R' kvs cs := by
      refine h.monoM fun a b _ hb r => ho _ _ (fun e => hm (e ▸ hb)) r
    exact this.app (.cons hc .nil)
def GrpR (H : Hp) (e : E) (near : List Nat) (kv : L2.Key × V) (c : Nat) : Prop := ∃ q, kv = (Sum.inr ⟨#[c]⟩, V.ref q) ∧ H q = some (.tup (natsV (rowL e near c)))
/-- a dict from letters to the near places with it -/
structure GrpK (H : Hp) (e : E) (near : List Nat) (kvs : List (L2.Key × V)) (cs : List Nat) : Prop where
  nd : cs.Nodup
  mem : ∀ c, c ∈ cs ↔ rowL e near c ≠ []
  two : Two (GrpR H e near) kvs cs
  ln : cs.length ≤ near.length
theorem GrpK.same {H H' : Hp} {e : E} {near : List Nat} {kvs : List (L2.Key × V)} {cs : List Nat} (s : Same H H') (h : GrpK H e near kvs cs) : GrpK H' e near kvs cs :=
  ⟨h.nd, h.mem, h.two.mono fun _ _ ⟨q, e1, e2⟩ => ⟨q, e1, s _ _ e2⟩, h.ln⟩
theorem GrpK.get {H : Hp} {e : E} {near : List Nat} {kvs : List (L2.Key × V)} {cs : List Nat} (h : GrpK H e near kvs cs) (c : Nat) : (rowL e near c = [] ∧ valV kvs (Sum.inr ⟨#[c]⟩) = none) ∨ ∃ q, valV kvs (Sum.inr ⟨#[c]⟩) = some (.ref q) ∧ H q = some (.tup (natsV (rowL e near c))) ∧ rowL e near c ≠ [] := by
  have key : ∀ {kvs : List (L2.Key × V)} {cs : List Nat}, Two (GrpR H e near) kvs cs → (c ∉ cs ∧ valV kvs (Sum.inr ⟨#[c]⟩) = none) ∨ (c ∈ cs ∧ ∃ q, valV kvs (Sum.inr ⟨#[c]⟩) = some (.ref q) ∧ H q = some (.tup (natsV (rowL e near c)))) := fun t => by
    induction t with
    | nil => exact .inl ⟨(by intro h; cases h), rfl⟩
    | @cons a b as bs r _ ih =>
      obtain ⟨q, rfl, hq⟩ := r
      by_cases eb : b = c
      · subst eb
        exact .inr ⟨List.mem_cons_self, q, valV_pos (p := ((Sum.inr ⟨#[b]⟩ : L2.Key), V.ref q)) rfl, hq⟩
      · have ne : ¬ (((Sum.inr ⟨#[b]⟩ : L2.Key), V.ref q)).1 = Sum.inr ⟨#[c]⟩ := fun h => eb (by
          have e1 : (⟨#[b]⟩ : Str) = ⟨#[c]⟩ := Sum.inr.inj h
          have e2 := congrArg (fun s : Str => s.cps.toList) e1
          exact (List.cons.inj e2).1)
        rw [valV_neg ne]
        rcases ih with ⟨i1, i2⟩ | ⟨i1, i2⟩
        · exact .inl ⟨fun h => (List.mem_cons.mp h).elim (fun h => eb h.symm) i1, i2⟩
        · exact .inr ⟨List.mem_cons_of_mem _ i1, i2⟩
  rcases key h.two with ⟨i1, i2⟩ | ⟨i1, q, i2, i3⟩
  · refine .inl ⟨?_, i2⟩
    by_cases c0 : rowL e near c = []
    · exact c0
    · exact absurd ((h.mem c).mpr c0) i1
  · exact .inr ⟨q, i2, i3, (h.mem c).mp i1⟩
theorem rowL_snoc (e : E) (xs : List Nat) (x c : Nat) : rowL e (xs ++ [x]) c = rowL e xs c ++ (if e.letters[x]? = some c then [x] else []) := by
  unfold rowL
  rw [List.filter_append, List.filter_cons]
  by_cases h : e.letters[x]? = some c
  · rw [if_pos (decide_eq_true h), if_pos h]
    rfl
  · rw [if_neg (by rw [decide_eq_false h]; exact Bool.false_ne_true), if_neg h]
    rfl
theorem GrpK.put {H H3 : Hp} {e : E} {near : List Nat} {kvs : List (L2.Key × V)} {cs : List Nat} {d r : Addr} {i c : Nat} (h : GrpK H e near kvs cs) (S : Same H H3) (hd : H3 d = some (.dK kvs)) (hi : e.letters[i]? = some c) (hr : H3 r = some (.tup (natsV (rowL e (near ++ [i]) c)))) : GrpK (upd H3 d (.dK (putK kvs (Sum.inr ⟨#[c]⟩) (.ref r)))) e (near ++ [i]) (putK kvs (Sum.inr ⟨#[c]⟩) (.ref r)) (if c ∈ cs then cs else cs ++ [c]) where
  nd := by
    split
    · exact h.nd
    · rename_i hc
      rw [List.nodup_append]
      exact ⟨h.nd, by simp, fun a ha b hb => by rw [List.mem_singleton.mp hb]; rintro rfl; exact hc ha⟩
  mem := fun c' => by
    rw [rowL_snoc]
    have hm := h.mem c'
    by_cases e1 : c' = c
    · subst e1
      rw [if_pos hi]
      refine ⟨fun _ => by simp, fun _ => ?_⟩
      split
      · assumption
      · exact List.mem_append_right _ List.mem_cons_self
    · rw [if_neg (show ¬ e.letters[i]? = some c' from fun h => e1 (Option.some.inj (h.symm.trans hi))), List.append_nil, ← hm]
      split
      · rfl
      · rw [List.mem_append, List.mem_singleton]
        exact ⟨fun h => h.elim id fun h => absurd h e1, .inl⟩
  two := by
    have dt : ∀ {q : Addr} {xs : List V}, H3 q = some (.tup xs) → q ≠ d := fun hq => ne_of hq hd (by intro z; cases z)
    refine two_put (R := GrpR H e near) (fun kv c' ⟨q, e1, _⟩ => by rw [e1]) c (.ref r) ⟨r, rfl, by rw [upd_ne (dt hr)]; exact hr⟩ (fun kv c' hc ⟨q, e1, e2⟩ => ⟨q, e1, ?_⟩) h.two
    rw [upd_ne (dt (S _ _ e2)), rowL_snoc, if_neg (fun h => hc (Option.some.inj (h.symm.trans hi))), List.append_nil]
    exact S _ _ e2
  ln := by
    have := h.ln
    rw [List.length_append]
    split
    · omega
    · rw [List.length_append]
      show cs.length + 1 ≤ near.length + 1
      omega
def spByL (C : Addr) : Sp := fun vs H Q _ => ∃ (p nr : Addr) (e : E) (near : List Nat), vs = [.ref p, .ref nr] ∧ StepsAt C H p e ∧ e.places ≤ 40 ∧ (H nr = some (.tup (natsV near)) ∨ H nr = some (.lst (natsV near))) ∧ (∀ x ∈ near, x < e.places) ∧ near.length ≤ 40 ∧
  ∀ (d : Addr) (kvs : List (L2.Key × V)) (cs : List Nat) H', Same H H' → H d = none → H' d = some (.dK kvs) → GrpK H' e near kvs cs → Q (.ref d) H'
section
variable {P : Program} {w : World} {K : PySem.W.Frag} {mg : Str → Option Value} {base : Heap} {a_BOUNDS a_LONG_BOUNDS : Addr} {tL tM : Tok}
abbrev N_by_letter : List Str := ["steps", "near", "rows", "place", "letter"]
theorem sc_by_letter : FnScope ["steps", "near", "rows", "place", "letter"] ["steps", "near"] (defScope s_by_letter) := ⟨rfl, rfl, rfl, by decide +kernel, rfl, by decide +kernel, by decide +kernel⟩
set_option maxHeartbeats 1000000 in
theorem ok_byletter {C f : Addr} {fd : FuncData} (T : StTxt K C) (B : Bt K mg a_BOUNDS a_LONG_BOUNDS tL tM) (Dd : Df K mg "by_letter" s_by_letter ["steps", "near"] f fd) : FnOk P w K mg base CX0 1 f fd ["steps", "near"] (spByL C) := by
  refine Dd.F.ok sc_by_letter (fun vs H Q Ex h => ?_) (fun cdv A outer s H vs Q Ex hr h => ?_)
  · obtain ⟨p, nr, e, near, rfl, _⟩ := h
    rfl
  obtain ⟨p, nr, e, near, rfl, hS, h40, hnr, hlt, hl40, q⟩ := h
  refine ⟨_, (pss_cons (ps_set (i := 2) sc_by_letter.nd rfl (Or.inl rfl) pe_dnewK)
    (pss_cons (ps_for PassesOwn.never rfl (pi_seqB (pv 1)) (pg_name (i := 3) sc_by_letter.nd rfl (Or.inl rfl)) (pss_cons (ps_set (i := 4) sc_by_letter.nd rfl (Or.inl rfl) (pe_ix ix_str (pe_fld (pv 0) rfl) (pv 3) (fun _ _ => rfl)))
    (pss_one (ps_dput (hu_of hr) (pv 2) (pv 4) (pe_op op_catA (pe_dget2 (hu_of hr) (pv 2) (pv 4) (pe_tup pa_nil) ⟨rfl, rfl, rfl, rfl⟩) (pe_tup (pa_cons (pv 3) pa_nil))) rfl))))
    (pss_one (ps_ret (pv 2))))), ?_⟩
  intro d hd
  have s0 := same_upd (o := .dK []) hd
  have nrd : nr ≠ d := by rcases hnr with h | h <;> exact ne_of_none h hd
  have inv0 : ∃ kvs cs, (upd H d (.dK [])) d = some (.dK kvs) ∧ GrpK (upd H d (.dK [])) e (near.take 0) kvs cs := ⟨[], [], upd_same, .nil, fun c => ⟨(fun h => by cases h), fun h => absurd rfl h⟩, .nil, Nat.le_refl _⟩
  rcases hnr with hnr | hnr
  · refine .inr ⟨_, rfl, nr, rfl, ⟨_, SqT.of (s0 _ _ hnr)⟩, for_tup (K := K) (a := nr) (xs := natsV near) (fun m σ' H' => ∃ (o3 o4 : Option V), σ' = [some (.ref p), some (.ref nr), some (.ref d), o3, o4] ∧ Same H H' ∧ ∃ kvs cs, H' d = some (.dK kvs) ∧ GrpK H' e (near.take m) kvs cs) ?_ ?_ ?_ ?_⟩
    · exact ⟨none, none, rfl, s0, inv0⟩
    · rintro m σ' H' _ ⟨o3, o4, rfl, s1, _⟩
      exact SqT.of (s1 _ _ hnr)
    · rintro m v σ' H1 hv ⟨o3, o4, rfl, s1, kvs, cs, hdk, hG⟩
      obtain ⟨i, hi, rfl⟩ := natsV_getB hv
      have hip := hlt i (List.mem_of_getElem? hi)
      have hml := (List.getElem?_eq_some_iff.mp hi).1
      obtain ⟨dx, f1, l1, o1, z', ts1, h1, h2, h3, h4, h5, h6, h7⟩ := (hS.same s1).ex
      have hz' : z'.length = e.places := by rw [← len_toList2, h2, letters_len]
      have hil : i < e.letters.length := by rw [letters_len]; exact hip
      have hci : e.letters[i]? = some e.letters[i] := List.getElem?_eq_getElem hil
      have hat : atI z'.cps.toList (i : Int) = some e.letters[i] := by
        rw [h2]
        exact atI_nat hci
      refine ⟨_, rfl, p, C, dx, _, _, rfl, h1, T.cl, T.a1, stF_letters .., _, rfl, z', (i : Int), e.letters[i], rfl, rfl, by rw [hz']; exact Nat.le_trans h40 (by decide), hat, ?_⟩
      have hkl : kvs.length < sizeLine := by
        rw [hG.two.len]
        have := hG.ln
        rw [List.length_take] at this
        exact Nat.lt_of_le_of_lt (m := 40) (by omega) (by decide)
      refine ⟨_, rfl, d, rfl, .inl ⟨kvs, .inl hdk⟩, _, rfl, by show 0 ≤ sizeLine; decide, fun t0 ht0 => ?_⟩
      have s2 := same_upd (o := .tup []) ht0
      have rl : (rowL e (near.take m) e.letters[i]).length ≤ 40 := by
        unfold rowL
        have := List.length_filter_le (fun k => decide (e.letters[k]? = some e.letters[i])) (near.take m)
        rw [List.length_take] at this
        omega
      have rn := rowL_snoc e (near.take m) i e.letters[i]
      rw [if_pos hci] at rn
      have fin : ∀ (r : Addr) (H3 : Hp), Same H1 H3 → H3 r = some (.tup (natsV (rowL e (near.take m) e.letters[i]) ++ [V.int (i : Int)])) → ∃ (kvs' : List (L2.Key × V)) (cs' : List Nat), kvs' = putK kvs (Sum.inr ⟨#[e.letters[i]]⟩) (.ref r) ∧ Same H (upd H3 d (.dK kvs')) ∧ GrpK (upd H3 d (.dK kvs')) e (near.take (m + 1)) kvs' cs' := fun r H3 S3 hr3 => by
        refine ⟨_, (if e.letters[i] ∈ cs then cs else cs ++ [e.letters[i]]), rfl, fun b o hb => by rw [upd_ne (ne_of_none hb hd)]; exact S3 _ _ (s1 _ _ hb), ?_⟩
        rw [take_snoc hi]
        refine hG.put S3 (S3 _ _ hdk) hci ?_
        rw [hr3, rn, ← natsV_app]
        rfl
      rcases hG.get e.letters[i] with ⟨g1, g2⟩ | ⟨qq, g1, g2, g3⟩
      · refine ⟨none, by rw [← g2]; exact DGet.k (k := Sum.inr ⟨#[e.letters[i]]⟩) (s2 _ _ hdk), _, rfl, by show 1 ≤ sizeLine; decide, fun t1 ht1 => ?_⟩
        have s3 := same_upd (o := .tup [V.int (i : Int)]) ht1
        refine catA_of (K := K) (a := t0) (b := t1) (xs := []) (ys := [V.int (i : Int)]) (s3 _ _ upd_same) upd_same (by show 0 + 1 ≤ sizeLine; decide) fun r H3 s4 hr3 => ?_
        have S3 := s2.trans (s3.trans s4)
        obtain ⟨kvs', cs', rfl, e2, e3⟩ := fin r H3 S3 (by rw [hr3, g1]; rfl)
        exact ⟨_, rfl, _, rfl, d, _, rfl, DPut.k (k := Sum.inr ⟨#[e.letters[i]]⟩) (S3 _ _ hdk) hkl, some (.int (i : Int)), _, rfl, e2, _, cs', upd_same, e3⟩
      · refine ⟨some (.ref qq), by rw [← g1]; exact DGet.k (k := Sum.inr ⟨#[e.letters[i]]⟩) (s2 _ _ hdk), _, rfl, by show 1 ≤ sizeLine; decide, fun t1 ht1 => ?_⟩
        have s3 := same_upd (o := .tup [V.int (i : Int)]) ht1
        refine catA_of (K := K) (a := qq) (b := t1) (s3 _ _ (s2 _ _ g2)) upd_same (by rw [natsV_len]; exact Nat.le_trans (m := 41) (by show _ + 1 ≤ 41; omega) (by decide)) fun r H3 s4 hr3 => ?_
        have S3 := s2.trans (s3.trans s4)
        obtain ⟨kvs', cs', rfl, e2, e3⟩ := fin r H3 S3 hr3
        exact ⟨_, rfl, _, rfl, d, _, rfl, DPut.k (k := Sum.inr ⟨#[e.letters[i]]⟩) (S3 _ _ hdk) hkl, some (.int (i : Int)), _, rfl, e2, _, cs', upd_same, e3⟩
    · rintro σ' H1 ⟨o3, o4, rfl, s1, kvs, cs, hdk, hG⟩
      rw [natsV_len, List.take_length] at hG
      exact ⟨_, rfl, q d kvs cs H1 s1 hd hdk hG⟩
  · refine .inl ⟨_, rfl, nr, rfl, ⟨_, SqL.of (s0 _ _ hnr)⟩, for_list (K := K) (a := nr) (xs := natsV near) (fun m σ' H' => ∃ (o3 o4 : Option V), σ' = [some (.ref p), some (.ref nr), some (.ref d), o3, o4] ∧ Same H H' ∧ ∃ kvs cs, H' d = some (.dK kvs) ∧ GrpK H' e (near.take m) kvs cs) ?_ ?_ ?_ ?_⟩
    · exact ⟨none, none, rfl, s0, inv0⟩
    · rintro m σ' H' _ ⟨o3, o4, rfl, s1, _⟩
      exact SqL.of (s1 _ _ hnr)
    · rintro m v σ' H1 hv ⟨o3, o4, rfl, s1, kvs, cs, hdk, hG⟩
      obtain ⟨i, hi, rfl⟩ := natsV_getB hv
      have hip := hlt i (List.mem_of_getElem? hi)
      have hml := (List.getElem?_eq_some_iff.mp hi).1
      obtain ⟨dx, f1, l1, o1, z', ts1, h1, h2, h3, h4, h5, h6, h7⟩ := (hS.same s1).ex
      have hz' : z'.length = e.places := by rw [← len_toList2, h2, letters_len]
      have hil : i < e.letters.length := by rw [letters_len]; exact hip
      have hci : e.letters[i]? = some e.letters[i] := List.getElem?_eq_getElem hil
      have hat : atI z'.cps.toList (i : Int) = some e.letters[i] := by
        rw [h2]
        exact atI_nat hci
      refine ⟨_, rfl, p, C, dx, _, _, rfl, h1, T.cl, T.a1, stF_letters .., _, rfl, z', (i : Int), e.letters[i], rfl, rfl, by rw [hz']; exact Nat.le_trans h40 (by decide), hat, ?_⟩
      have hkl : kvs.length < sizeLine := by
        rw [hG.two.len]
        have := hG.ln
        rw [List.length_take] at this
        exact Nat.lt_of_le_of_lt (m := 40) (by omega) (by decide)
      refine ⟨_, rfl, d, rfl, .inl ⟨kvs, .inl hdk⟩, _, rfl, by show 0 ≤ sizeLine; decide, fun t0 ht0 => ?_⟩
      have s2 := same_upd (o := .tup []) ht0
      have rl : (rowL e (near.take m) e.letters[i]).length ≤ 40 := by
        unfold rowL
        have := List.length_filter_le (fun k => decide (e.letters[k]? = some e.letters[i])) (near.take m)
        rw [List.length_take] at this
        omega
      have rn := rowL_snoc e (near.take m) i e.letters[i]
      rw [if_pos hci] at rn
      have fin : ∀ (r : Addr) (H3 : Hp), Same H1 H3 → H3 r = some (.tup (natsV (rowL e (near.take m) e.letters[i]) ++ [V.int (i : Int)])) → ∃ (kvs' : List (L2.Key × V)) (cs' : List Nat), kvs' = putK kvs (Sum.inr ⟨#[e.letters[i]]⟩) (.ref r) ∧ Same H (upd H3 d (.dK kvs')) ∧ GrpK (upd H3 d (.dK kvs')) e (near.take (m + 1)) kvs' cs' := fun r H3 S3 hr3 => by
        refine ⟨_, (if e.letters[i] ∈ cs then cs else cs ++ [e.letters[i]]), rfl, fun b o hb => by rw [upd_ne (ne_of_none hb hd)]; exact S3 _ _ (s1 _ _ hb), ?_⟩
        rw [take_snoc hi]
        refine hG.put S3 (S3 _ _ hdk) hci ?_
        rw [hr3, rn, ← natsV_app]
        rfl
      rcases hG.get e.letters[i] with ⟨g1, g2⟩ | ⟨qq, g1, g2, g3⟩
      · refine ⟨none, by rw [← g2]; exact DGet.k (k := Sum.inr ⟨#[e.letters[i]]⟩) (s2 _ _ hdk), _, rfl, by show 1 ≤ sizeLine; decide, fun t1 ht1 => ?_⟩
        have s3 := same_upd (o := .tup [V.int (i : Int)]) ht1
        refine catA_of (K := K) (a := t0) (b := t1) (xs := []) (ys := [V.int (i : Int)]) (s3 _ _ upd_same) upd_same (by show 0 + 1 ≤ sizeLine; decide) fun r H3 s4 hr3 => ?_
        have S3 := s2.trans (s3.trans s4)
        obtain ⟨kvs', cs', rfl, e2, e3⟩ := fin r H3 S3 (by rw [hr3, g1]; rfl)
        exact ⟨_, rfl, _, rfl, d, _, rfl, DPut.k (k := Sum.inr ⟨#[e.letters[i]]⟩) (S3 _ _ hdk) hkl, some (.int (i : Int)), _, rfl, e2, _, cs', upd_same, e3⟩
      · refine ⟨some (.ref qq), by rw [← g1]; exact DGet.k (k := Sum.inr ⟨#[e.letters[i]]⟩) (s2 _ _ hdk), _, rfl, by show 1 ≤ sizeLine; decide, fun t1 ht1 => ?_⟩
        have s3 := same_upd (o := .tup [V.int (i : Int)]) ht1
        refine catA_of (K := K) (a := qq) (b := t1) (s3 _ _ (s2 _ _ g2)) upd_same (by rw [natsV_len]; exact Nat.le_trans (m := 41) (by show _ + 1 ≤ 41; omega) (by decide)) fun r H3 s4 hr3 => ?_
        have S3 := s2.trans (s3.trans s4)
        obtain ⟨kvs', cs', rfl, e2, e3⟩ := fin r H3 S3 hr3
        exact ⟨_, rfl, _, rfl, d, _, rfl, DPut.k (k := Sum.inr ⟨#[e.letters[i]]⟩) (S3 _ _ hdk) hkl, some (.int (i : Int)), _, rfl, e2, _, cs', upd_same, e3⟩
    · rintro σ' H1 ⟨o3, o4, rfl, s1, kvs, cs, hdk, hG⟩
      rw [natsV_len, List.take_length] at hG
      exact ⟨_, rfl, q d kvs cs H1 s1 hd hdk hG⟩
end
end My
namespace My
open PySem PySem.Spec PyProof.Rows L2
theorem Bt.g_BEGIN {K : PySem.W.Frag} {mg : Str → Option Value} {a_BOUNDS a_LONG_BOUNDS : Addr} {tL tM : Tok} (B : Bt K mg a_BOUNDS a_LONG_BOUNDS tL tM) : mg "BEGIN" = some (.int (-1) B.e_BEGIN.choose) := B.e_BEGIN.choose_spec
/-! ### places in conflict -/
/-- what can stand behind: the beginning (0), or place t - 1 -/
def nearT (e : E) (t : Nat) : List Nat := if t = 0 then (gl e 0).fst else folAt e (t - 1)
def prB (e : E) (near : List Nat) (i j : Nat) : Bool := decide (i ∈ near ∧ j ∈ near ∧ i < j ∧ e.letters[i]? = e.letters[j]?)
def PairT (H : Hp) (v : V) (x : Nat × Nat) : Prop := ∃ a, v = .ref a ∧ H a = some (.tup [.int (x.1 : Int), .int (x.2 : Int)])
theorem PairT.same {H H' : Hp} {v : V} {x : Nat × Nat} (s : Same H H') (h : PairT H v x) : PairT H' v x := by
  obtain ⟨a, e, h⟩ := h
  exact ⟨a, e, s _ _ h⟩
theorem nearT_lt (e : E) (t : Nat) : ∀ x ∈ nearT e t, x < e.places := fun x hx => by
  unfold nearT at hx
  split at hx
  · have := (gl_within e 0).fst x hx
    omega
  · have := ((gl_within e 0).fol _ x ((mem_fol e _ x).mp hx)).2
    omega
theorem nearT_rise (e : E) (t : Nat) : (nearT e t).Pairwise (· < ·) := by
  unfold nearT
  split
  · exact (gl_rise e 0).fst
  · exact List.pairwise_lt_range.filter _
theorem nearT_len (e : E) (t : Nat) : (nearT e t).length ≤ e.places := by
  unfold nearT
  split
  · exact (gl_len e 0).fst
  · unfold folAt
    exact Nat.le_trans (List.length_filter_le _ _) (by rw [List.length_range]; exact Nat.le_refl _)
def prK (row : List Nat) (k : Nat) : List (Nat × Nat) := ((List.range k).map fun m => (row.drop (m + 1)).map fun y => (row.getD m 0, y)).flatten
theorem prK_succ (row : List Nat) (k : Nat) : prK row (k + 1) = prK row k ++ (row.drop (k + 1)).map fun y => (row.getD k 0, y) := by
  unfold prK
  rw [List.range_succ, List.map_append, List.flatten_append]
  simp
theorem prK_len (row : List Nat) : ∀ k, (prK row k).length ≤ k * row.length
  | 0 => Nat.zero_le _
  | k + 1 => by
    rw [prK_succ, List.length_append, List.length_map, List.length_drop, Nat.succ_mul]
    have := prK_len row k
    omega
theorem prK_mem {row : List Nat} (hr : row.Pairwise (· < ·)) {i j : Nat} : (i, j) ∈ prK row row.length ↔ i ∈ row ∧ j ∈ row ∧ i < j := by
  unfold prK
  rw [List.mem_flatten]
  constructor
  · rintro ⟨l, hl, hm⟩
    obtain ⟨m, hm1, rfl⟩ := List.mem_map.mp hl
    obtain ⟨y, hy, e⟩ := List.mem_map.mp hm
    have hml := List.mem_range.mp hm1
    cases e
    rw [List.getD_eq_getElem?_getD, List.getElem?_eq_getElem hml]
    obtain ⟨n, hn, rfl⟩ := List.getElem_of_mem hy
    rw [List.getElem_drop]
    rw [List.length_drop] at hn
    exact ⟨List.getElem_mem _, List.getElem_mem _, List.pairwise_iff_getElem.mp hr m (m + 1 + n) hml (by omega) (by omega)⟩
  · rintro ⟨h1, h2, h3⟩
    obtain ⟨m, hm, rfl⟩ := List.getElem_of_mem h1
    obtain ⟨n, hn, rfl⟩ := List.getElem_of_mem h2
    have hmn : m < n := by
      rcases Nat.lt_trichotomy m n with h | h | h
      · exact h
      · subst h
        omega
      · have := List.pairwise_iff_getElem.mp hr n m hn hm h
        omega
    refine ⟨_, List.mem_map.mpr ⟨m, List.mem_range.mpr hm, rfl⟩, List.mem_map.mpr ⟨row[n], ?_, ?_⟩⟩
    · rw [List.mem_iff_getElem]
      refine ⟨n - (m + 1), by rw [List.length_drop]; omega, ?_⟩
      rw [List.getElem_drop]
      congr 1
      omega
    · rw [List.getD_eq_getElem?_getD, List.getElem?_eq_getElem hm]
      rfl
theorem cut_loN (g : List Nat) (k : Nat) : cutV (natsV g) (some (k : Int)) none = natsV (g.drop k) := by
  unfold cutV
  rw [HT.sIx_none, HT.sIx_nat, natsV_len]
  by_cases h : k ≤ g.length
  · rw [Nat.min_eq_left h, List.take_of_length_le (by rw [List.length_drop, natsV_len]; omega)]
    exact List.map_drop.symm
  · rw [Nat.min_eq_right (by omega), Nat.sub_self, List.take_zero, List.drop_eq_nil_of_le (by omega)]
    rfl
def TK (H H' : Hp) : Prop := ∀ b xs, H b = some (.tup xs) → H' b = some (.tup xs)
theorem TK.same {H H' : Hp} (s : Same H H') : TK H H' := fun b xs h => s _ _ h
theorem TK.trans {H H1 H2 : Hp} (x : TK H H1) (y : TK H1 H2) : TK H H2 := fun b xs h => y _ _ (x _ _ h)
theorem TK.upd {H : Hp} {d : Addr} {o u : HO} (h : H d = some u) (hu : ∀ xs, u ≠ .tup xs) : TK H (upd H d o) := fun b xs hb => by
  rw [upd_ne fun e => by rw [e, h] at hb; exact hu _ (Option.some.inj hb)]
  exact hb
theorem PairT.tk {H H' : Hp} {v : V} {x : Nat × Nat} (s : TK H H') (h : PairT H v x) : PairT H' v x := by
  obtain ⟨a, e, h⟩ := h
  exact ⟨a, e, s _ _ h⟩
def spNodes (C : Addr) : Sp := fun vs H Q _ => ∃ (p : Addr) (e : E), vs = [.ref p] ∧ StepsAt C H p e ∧ e.places ≤ 40 ∧ ∀ q H', Same H H' → H q = none → H' q = some (.lst ((List.range (e.places + 1)).map fun (t : Nat) => V.int ((t : Int) - 1))) → Q (.ref q) H'
def spNear (C : Addr) : Sp := fun vs H Q _ => ∃ (p : Addr) (e : E) (t : Nat), vs = [.ref p, .int ((t : Int) - 1)] ∧ StepsAt C H p e ∧ e.places ≤ 40 ∧ t ≤ e.places ∧ ∀ q, H q = some (.tup (natsV (nearT e t))) → Q (.ref q) H
def spPairs (C : Addr) : Sp := fun vs H Q _ => ∃ (p : Addr) (e : E) (t : Nat), vs = [.ref p, .int ((t : Int) - 1)] ∧ StepsAt C H p e ∧ e.places ≤ 40 ∧ t ≤ e.places ∧
  ∀ (q : Addr) (ts : List V) (ps : List (Nat × Nat)) H', Same H H' → H q = none → H' q = some (.lst ts) → Two (PairT H') ts ps → (∀ i j, (i, j) ∈ ps ↔ prB e (nearT e t) i j = true) → ps.length ≤ 64000 → Q (.ref q) H'
theorem rgV_nodes (n : Nat) : rgV (-1) (n : Int) = (List.range (n + 1)).map fun (t : Nat) => V.int ((t : Int) - 1) := by
  unfold rgV
  rw [show (((n : Int) - (-1)).toNat) = n + 1 by omega]
  refine List.map_congr_left fun i _ => ?_
  rw [show (-1 : Int) + (i : Nat) = ((i : Nat) : Int) - 1 by omega]
theorem rowL_mem {e : E} {near : List Nat} {c x : Nat} : x ∈ rowL e near c ↔ x ∈ near ∧ e.letters[x]? = some c := by
  unfold rowL
  rw [List.mem_filter, decide_eq_true_eq]
section
variable {P : Program} {w : World} {K : PySem.W.Frag} {mg : Str → Option Value} {base : Heap} {a_BOUNDS a_LONG_BOUNDS : Addr} {tL tM : Tok}
abbrev N__nodes : List Str := ["steps"]
theorem sc__nodes : FnScope ["steps"] ["steps"] (defScope s__nodes) := ⟨rfl, rfl, rfl, by decide +kernel, rfl, by decide +kernel, by decide +kernel⟩
theorem ok_nodes {C f : Addr} {fd : FuncData} (T : StTxt K C) (B : Bt K mg a_BOUNDS a_LONG_BOUNDS tL tM) (Dd : Df K mg "_nodes" s__nodes ["steps"] f fd) : FnOk P w K mg base CX0 1 f fd ["steps"] (spNodes C) := by
  refine Dd.F.ok sc__nodes (fun vs H Q Ex h => ?_) (fun cdv A outer s H vs Q Ex hr h => ?_)
  · obtain ⟨p, e, rfl, _⟩ := h
    rfl
  obtain ⟨p, e, rfl, hS, h40, q⟩ := h
  refine ⟨_, (pss_one (ps_ret (pe_listRg rfl rfl B.b_list (prg_2 rfl B.b_range (pe_glob (v := .int (-1)) rfl B.g_BEGIN ⟨_, rfl⟩) (pe_callB call_len rfl B.b_len boot_len (pa_cons (pe_fld (pv 0) rfl) pa_nil)))))), ?_⟩
  obtain ⟨dx, f1, l1, o1, z', ts1, h1, h2, h3, h4, h5, h6, h7⟩ := hS.ex
  have hz' : z'.length = e.places := by rw [← len_toList2, h2, letters_len]
  refine ⟨_, rfl, p, C, dx, _, _, rfl, h1, T.cl, T.a1, stF_letters .., _, z'.length, rfl, ⟨by rw [hz']; exact Nat.le_trans h40 (by decide), rfl⟩, _, _, rfl, rfl, ⟨by decide, by decide, by omega, by omega, by omega⟩, fun q0 hq0 => ?_⟩
  exact q q0 _ (same_upd hq0) hq0 (by rw [upd_same, rgV_nodes, hz'])
abbrev N__near : List Str := ["steps", "node"]
theorem sc__near : FnScope ["steps", "node"] ["steps", "node"] (defScope s__near) := ⟨rfl, rfl, rfl, by decide +kernel, rfl, by decide +kernel, by decide +kernel⟩
theorem ok_near {C f : Addr} {fd : FuncData} (T : StTxt K C) (B : Bt K mg a_BOUNDS a_LONG_BOUNDS tL tM) (Dd : Df K mg "_near" s__near ["steps", "node"] f fd) : FnOk P w K mg base CX0 1 f fd ["steps", "node"] (spNear C) := by
  refine Dd.F.ok sc__near (fun vs H Q Ex h => ?_) (fun cdv A outer s H vs Q Ex hr h => ?_)
  · obtain ⟨p, e, t, rfl, _⟩ := h
    rfl
  obtain ⟨p, e, t, rfl, hS, h40, ht, q⟩ := h
  refine ⟨_, (pss_one (ps_ret (pe_ifExp (pt_cmpR op_eq (pv 1) (pe_glob (v := .int (-1)) rfl B.g_BEGIN ⟨_, rfl⟩) (nomark _)) (pe_fld (pv 0) rfl) (pe_ix (r := rIxL K) ix_list (pe_fld (pv 0) rfl) (pv 1) (fun _ _ => rfl))))), ?_⟩
  obtain ⟨dx, f1, l1, o1, z', ts1, h1, h2, h3, h4, h5, h6, h7⟩ := hS.ex
  refine ⟨_, rfl, rfl, _, rfl, ite2 (fun c => ?_) (fun c => ?_)⟩
  · have e1 : ((t : Int) - 1) = -1 := V.int.inj (of_decide_eq_true c)
    have e2 : t = 0 := by omega
    refine ⟨_, rfl, p, C, dx, _, _, rfl, h1, T.cl, T.a3, stF_first .., q f1 ?_⟩
    unfold nearT
    rw [if_pos e2]
    exact h3
  · have e2 : t ≠ 0 := fun h => c (by rw [h]; rfl)
    obtain ⟨q1, e1, e3⟩ := h7 (t - 1) _ (List.getElem?_eq_getElem (by omega))
    refine ⟨_, rfl, p, C, dx, _, _, rfl, h1, T.cl, T.a5, stF_following .., _, rfl, o1, ts1, (t : Int) - 1, .ref q1, rfl, rfl, SqL.of h5, at_of (j := t - 1) (by omega) (by rw [List.getElem?_eq_getElem (by omega), e1]), q q1 ?_⟩
    unfold nearT
    rw [if_neg e2]
    exact e3
abbrev N__pairs_behind : List Str := ["steps", "node", "pairs", "row", "at", "one", "other"]
theorem sc__pairs_behind : FnScope ["steps", "node", "pairs", "row", "at", "one", "other"] ["steps", "node"] (defScope s__pairs_behind) := ⟨rfl, rfl, rfl, by decide +kernel, rfl, by decide +kernel, by decide +kernel⟩
theorem ok_pairs {C f : Addr} {fd : FuncData} (T : StTxt K C) (B : Bt K mg a_BOUNDS a_LONG_BOUNDS tL tM) (Dd : Df K mg "_pairs_behind" s__pairs_behind ["steps", "node"] f fd) (Gby_letter : Cl P w K mg base 1 "by_letter" ["steps", "near"] (spByL C)) (G_near : Cl P w K mg base 1 "_near" ["steps", "node"] (spNear C)) : FnOk P w K mg base CX0 2 f fd ["steps", "node"] (spPairs C) := by
  refine Dd.F.ok sc__pairs_behind (fun vs H Q Ex h => ?_) (fun cdv A outer s H vs Q Ex hr h => ?_)
  · obtain ⟨p, e, t, rfl, _⟩ := h
    rfl
  obtain ⟨p, e, t, rfl, hS, h40, ht, q⟩ := h
  refine ⟨_, (pss_cons (ps_set (i := 2) sc__pairs_behind.nd rfl (Or.inl rfl) (pe_lst pa_nil))
    (pss_cons (ps_for PassesOwn.never rfl (pi_values (pe_frz (pe_cl Gby_letter (hr.mono (by omega)) rfl (pa_cons (pv 0) (pa_cons (pe_cl G_near (hr.mono (by omega)) rfl (pa_cons (pv 0) (pa_cons (pv 1) pa_nil))) pa_nil))))) (pg_name (i := 3) sc__pairs_behind.nd rfl (Or.inl rfl)) (pss_one (ps_for PassesOwn.never rfl (pi_enumT rfl B.b_enumerate (pa_cons (pv 3) pa_nil)) (pg_tup rfl (pgs_cons (pg_name (i := 4) sc__pairs_behind.nd rfl (Or.inl rfl)) (pgs_cons (pg_name (i := 5) sc__pairs_behind.nd rfl (Or.inr rfl)) pgs_nil))) (pss_one (ps_expr (pe_bm PySem.F.plainAttrs_list PySem.F.slot_list_extend PySem.F.type_list_extend mt_extend (pv 2) (pa_cons (pe_lc (own := [("other", 6)]) (g := gName 6) (tt := tYes) rfl sc__pairs_behind.nd (pi_tup (pe_slice sl_tupA (pv 3) (po_some (pe_op op_add (pv 4) pe_int)) po_none)) (blkOk_by (N := N__pairs_behind) (sc := defScope s__pairs_behind) (by decide +kernel)) (fun _ _ _ _ _ => pg_name (i := 6) sc__pairs_behind.nd rfl (Or.inl rfl)) (fun _ _ _ _ _ => pts_nil) (fun _ _ _ _ _ => (pe_tup (pa_cons (pv 5) (pa_cons (pv 6) pa_nil))))) pa_nil)))))))
    (pss_one (ps_ret (pv 2))))), ?_⟩
  refine ⟨by show 0 ≤ sizeLine; decide, fun L hL => ?_⟩
  have sL := same_upd (o := .lst []) hL
  refine ⟨_, rfl, _, rfl, _, rfl, p, e, t, rfl, hS.same sL, h40, ht, fun nr hnr => ?_⟩
  refine ⟨p, nr, e, nearT e t, rfl, hS.same sL, h40, .inl hnr, nearT_lt e t, Nat.le_trans (nearT_len e t) h40, fun d kvs cs H2 s2 hd0 hdk hG => ?_⟩
  refine ⟨d, _, rfl, hdk, trivial, fun od => ?_⟩
  have S2 : Same H H2 := sL.trans s2
  have hdH : H d = none := by
    cases hh : H d with
    | none => rfl
    | some u => rw [sL _ _ hh] at hd0; cases hd0
  have hL2 : H2 L = some (.lst []) := s2 _ _ upd_same
  have hLd : L ≠ d := fun h => by rw [h, hdk] at hL2; cases hL2
  have kl : kvs.length = cs.length := hG.two.len
  have cl : cs.length ≤ 40 := Nat.le_trans hG.ln (Nat.le_trans (nearT_len e t) h40)
  have SF : Same H (upd H2 d (.frz od (.dK kvs))) := fun b o hb => by rw [upd_ne (ne_of_none hb hdH)]; exact S2 _ _ hb
  have TF : TK H2 (upd H2 d (.frz od (.dK kvs))) := TK.upd hdk fun xs z => by cases z
  refine ⟨d, od, kvs, rfl, upd_same, for_it walk_values (fun i σ' H' => ∃ (o3 o4 o5 o6 : Option V) (ts : List V) (ps : List (Nat × Nat)), σ' = [some (.ref p), some (.int ((t : Int) - 1)), some (.ref L), o3, o4, o5, o6] ∧ Same H H' ∧ TK H2 H' ∧ H' d = some (.frz od (.dK kvs)) ∧ H' L = some (.lst ts) ∧ Two (PairT H') ts ps ∧ (∀ i' j', (i', j') ∈ ps ↔ ∃ c ∈ cs.take i, i' ∈ rowL e (nearT e t) c ∧ j' ∈ rowL e (nearT e t) c ∧ i' < j') ∧ ps.length ≤ i * 1600) ?_ ?_ ?_ ?_⟩
  · exact ⟨none, none, none, none, [], [], rfl, SF, TF, upd_same, by rw [upd_ne hLd]; exact hL2, .nil, fun i' j' => ⟨(fun h => by cases h), fun ⟨c, h, _⟩ => by cases h⟩, Nat.zero_le _⟩
  · rintro i σ' H' _ ⟨o3, o4, o5, o6, ts, ps, rfl, _, _, h, _⟩
    exact h
  · rintro i v σ' H3 H3' hi ⟨o3, o4, o5, o6, ts, ps, rfl, s3, tk3, hfz, hL3, two3, mem3, len3⟩ ⟨rfl, kk, hkv⟩
    obtain ⟨c, hc, qv, ekv, hqv⟩ := hG.two.get hkv
    cases ekv
    have hrow := tk3 _ _ hqv
    have hcl := (List.getElem?_eq_some_iff.mp hc).1
    have rr : (rowL e (nearT e t) c).Pairwise (· < ·) := (nearT_rise e t).filter _
    have rl : (rowL e (nearT e t) c).length ≤ 40 := Nat.le_trans (List.length_filter_le _ _) (Nat.le_trans (nearT_len e t) h40)
    generalize hrw : rowL e (nearT e t) c = row at hrow rr rl
    refine ⟨_, rfl, qv, _, rfl, SqT.of hrow, for_enumT (K := K) (a := qv) (xs := natsV row) (fun k σ' H' => ∃ (o4 o5 o6 : Option V) (ts' : List V), σ' = [some (.ref p), some (.int ((t : Int) - 1)), some (.ref L), some (.ref qv), o4, o5, o6] ∧ Same H H' ∧ TK H3' H' ∧ H' d = some (.frz od (.dK kvs)) ∧ H' L = some (.lst ts') ∧ Two (PairT H') ts' (ps ++ prK row k)) ?_ ?_ ?_ ?_⟩
    · exact ⟨o4, o5, o6, ts, rfl, s3, TK.same (Same.refl _), hfz, hL3, by rw [show prK row 0 = [] from rfl, List.append_nil]; exact two3⟩
    · rintro k σ' H' _ ⟨o4, o5, o6, ts', rfl, _, tk4, _⟩
      exact SqT.of (tk4 _ _ hrow)
    · rintro k x T1 σ' H4 hx ⟨o4, o5, o6, ts', rfl, s4, tk4, hfz4, hL4, two4⟩ hT1
      obtain ⟨y, hy, rfl⟩ := natsV_getB hx
      have gy : row.getD k 0 = y := by rw [List.getD_eq_getElem?_getD, hy]; rfl
      have uT := same_upd (o := .tup [V.int (k : Nat), .int (y : Int)]) hT1
      refine ⟨T1, _, rfl, SqT.of upd_same, rfl, _, _, rfl, _, _, rfl, rfl, ?_⟩
      have hL5 := uT _ _ hL4
      refine ⟨_, rfl, .inl ⟨rfl, _, SqL.of hL5⟩, _, rfl, _, rfl, _, _, rfl, rfl, _, rfl, slA_lo (uT _ _ (tk4 _ _ hrow)) fun Z H5 s5 hZ => ⟨Z, rfl, ⟨_, SqT.of hZ⟩, fun D hD => ?_⟩⟩
      have hZ : H5 Z = some (.tup (cutV (natsV row) (some ((k : Int) + 1)) none)) := hZ
      rw [show ((k : Int) + 1) = ((k + 1 : Nat) : Int) by omega, cut_loN] at hZ
      have hL6 := s5 _ _ hL5
      have hLD : L ≠ D := ne_of_none hL6 hD
      have hkl := (List.getElem?_eq_some_iff.mp hy).1
      refine lc_tup (K := K) (a := Z) (xs := natsV (row.drop (k + 1))) (fun j H' => Same H5 H' ∧ ∃ us, H' D = some (.lst us) ∧ Two (PairT H') us (((row.drop (k + 1)).take j).map fun z => (y, z))) ⟨same_upd hD, [], upd_same, .nil⟩ (fun j H' _ h => SqT.of (h.1 _ _ hZ)) (fun j x H' hx h => ?_) (fun H' h => ?_)
      · obtain ⟨s6, us, hD6, two6⟩ := h
        obtain ⟨z, hz, rfl⟩ := natsV_getB hx
        have ul : us.length ≤ 40 := by
          rw [two6.len, List.length_map, List.length_take, List.length_drop]
          omega
        refine ⟨rfl, tyes ⟨_, rfl, _, rfl, by show 2 ≤ sizeLine; decide, fun T2 hT2 => ⟨us, (same_upd hT2) _ _ hD6, Nat.lt_of_le_of_lt ul (by decide), fun b o hb => ?_, us ++ [.ref T2], upd_same, ?_⟩⟩⟩
        · rw [upd_ne (ne_of_none hb hD)]
          exact (same_upd hT2) _ _ (s6 _ _ hb)
        · rw [take_snoc hz, List.map_append]
          have tk := (TK.same (same_upd (o := .tup [V.int (y : Int), V.int (z : Int)]) hT2)).trans (TK.upd (o := .lst (us ++ [.ref T2])) ((same_upd hT2) _ _ hD6) fun xs z => by cases z)
          refine (two6.mono fun _ _ h => h.tk tk).app (.cons ⟨T2, rfl, ?_⟩ .nil)
          rw [upd_ne fun e => by rw [e, hD6] at hT2; cases hT2]
          exact upd_same
      · obtain ⟨s6, us, hD6, two6⟩ := h
        rw [natsV_len, List.take_length] at two6
        have ul : us.length ≤ 40 := by
          rw [two6.len, List.length_map, List.length_drop]
          omega
        have tl : ts'.length ≤ 65600 := by
          rw [two4.len, List.length_append]
          have h1 := prK_len row k
          have h2 : k * row.length ≤ 40 * 40 := Nat.mul_le_mul (by omega) rl
          have h3 : i * 1600 ≤ 40 * 1600 := Nat.mul_le_mul_right _ (by omega)
          omega
        have S6 := uT.trans (s5.trans s6)
        have hL7 := s6 _ _ hL6
        have tk7 : TK H4 (upd H' L (.lst (ts' ++ us))) := (TK.same S6).trans (TK.upd hL7 fun xs z => by cases z)
        refine ⟨L, D, ts', us, rfl, rfl, hL7, hD6, Nat.le_trans (m := 65640) (by omega) (by decide), ?_⟩
        refine ⟨_, _, _, _, rfl, fun b o hb => ?_, tk4.trans tk7, ?_, upd_same, ?_⟩
        · rw [upd_ne (ne_of_none hb hL)]
          exact S6 _ _ (s4 _ _ hb)
        · rw [upd_ne hLd.symm]
          exact S6 _ _ hfz4
        · rw [prK_succ, gy, ← List.append_assoc]
          exact (two4.mono fun _ _ h => h.tk tk7).app (two6.mono fun _ _ h => h.tk (TK.upd hL7 fun xs z => by cases z))
    · rintro σ' H4 ⟨o4, o5, o6, ts', rfl, s4, tk4, hfz4, hL4, two4⟩
      refine ⟨_, o4, o5, o6, ts', _, rfl, s4, tk3.trans tk4, hfz4, hL4, two4, fun i' j' => ?_, ?_⟩
      · rw [natsV_len, List.mem_append, mem3, prK_mem rr, take_snoc hc]
        constructor
        · rintro (⟨c', h1, h2⟩ | h)
          · exact ⟨c', List.mem_append_left _ h1, h2⟩
          · exact ⟨c, List.mem_append_right _ List.mem_cons_self, by rw [hrw]; exact h⟩
        · rintro ⟨c', h1, h2⟩
          rcases List.mem_append.mp h1 with h1 | h1
          · exact .inl ⟨c', h1, h2⟩
          · rw [List.mem_singleton.mp h1, hrw] at h2
            exact .inr h2
      · have := prK_len row row.length
        have h2 : row.length * row.length ≤ 40 * 40 := Nat.mul_le_mul rl rl
        rw [natsV_len, List.length_append, Nat.succ_mul]
        omega
  · rintro σ' H3 ⟨o3, o4, o5, o6, ts, ps, rfl, s3, tk3, hfz, hL3, two3, mem3, len3⟩
    refine ⟨_, rfl, q L ts ps H3 s3 hL hL3 two3 (fun i j => ?_) ?_⟩
    · rw [mem3, kl, List.take_length]
      unfold prB
      rw [decide_eq_true_eq]
      constructor
      · rintro ⟨c, _, h1, h2, h3⟩
        rw [rowL_mem] at h1 h2
        exact ⟨h1.1, h2.1, h3, by rw [h1.2, h2.2]⟩
      · rintro ⟨h1, h2, h3, h4⟩
        have hil : i < e.letters.length := by rw [letters_len]; exact nearT_lt e t i h1
        have hr : i ∈ rowL e (nearT e t) e.letters[i] := rowL_mem.mpr ⟨h1, List.getElem?_eq_getElem hil⟩
        exact ⟨e.letters[i], (hG.mem _).mpr (fun h => by rw [h] at hr; cases hr), hr, rowL_mem.mpr ⟨h2, by rw [← h4]; exact List.getElem?_eq_getElem hil⟩, h3⟩
    · have : kvs.length * 1600 ≤ 40 * 1600 := Nat.mul_le_mul_right _ (by omega)
      omega
end
end My
namespace My
open PySem PySem.Spec PyProof.Rows L2
theorem u64 {k : Nat} {A : Around} (h : Room k A) : A.units + 64 < cLine := by
  have := h.un
  omega
theorem len_toList3 (z : Str) : z.cps.toList.length = z.length := Array.length_toList
/-! ### pairs in their order -/
def ltP (x y : Nat × Nat) : Prop := x.1 < y.1 ∨ (x.1 = y.1 ∧ x.2 < y.2)
theorem ltP_irr (x : Nat × Nat) : ¬ ltP x x := fun h => by rcases h with h | ⟨_, h⟩ <;> omega
theorem ltP_as {x y : Nat × Nat} (h : ltP x y) (k : ltP y x) : False := by
  rcases h with h | ⟨h, h'⟩ <;> rcases k with k | ⟨k, k'⟩ <;> omega
theorem eq_of_ltP : ∀ (a b : List (Nat × Nat)), a.Pairwise ltP → b.Pairwise ltP → (∀ x, x ∈ a ↔ x ∈ b) → a = b
  | [], [], _, _, _ => rfl
  | [], y :: b, _, _, h => by have := (h y).mpr List.mem_cons_self; cases this
  | x :: a, [], _, _, h => by have := (h x).mp List.mem_cons_self; cases this
  | x :: a, y :: b, ha, hb, h => by
    rw [List.pairwise_cons] at ha hb
    have e : x = y := by
      rcases List.mem_cons.mp ((h x).mp List.mem_cons_self) with c | c
      · exact c
      · rcases List.mem_cons.mp ((h y).mpr List.mem_cons_self) with d | d
        · exact d.symm
        · exact (ltP_as (hb.1 x c) (ha.1 y d)).elim
    subst e
    rw [eq_of_ltP a b ha.2 hb.2 fun z => ?_]
    constructor
    · intro hz
      rcases List.mem_cons.mp ((h z).mp (List.mem_cons_of_mem _ hz)) with c | c
      · exact (ltP_irr x (c ▸ ha.1 z hz)).elim
      · exact c
    · intro hz
      rcases List.mem_cons.mp ((h z).mpr (List.mem_cons_of_mem _ hz)) with c | c
      · exact (ltP_irr x (c ▸ hb.1 z hz)).elim
      · exact c
def pI (x : Nat × Nat) : List Int := [(x.1 : Int), (x.2 : Int)]
def unI : List Int → Nat × Nat
  | [a, b] => (a.toNat, b.toNat)
  | _ => (0, 0)
theorem unI_pI (x : Nat × Nat) : unI (pI x) = x := by
  show ((x.1 : Int).toNat, (x.2 : Int).toNat) = x
  rw [Int.toNat_natCast, Int.toNat_natCast]
theorem sorted_pairs {ks : List (List Int)} {prs : List (Nat × Nat)} (hp : ks.Perm (prs.map pI)) (hs : ks.Pairwise fun x y => HT.lexLt y x = false) (nd : prs.Nodup) : ∃ qs : List (Nat × Nat), ks = qs.map pI ∧ qs.Perm prs ∧ qs.Pairwise ltP := by
  have e1 : (ks.map unI).map pI = ks := by
    rw [List.map_map]
    have : ∀ k ∈ ks, (pI ∘ unI) k = k := fun k hk => by
      obtain ⟨x, _, rfl⟩ := List.mem_map.mp (hp.mem_iff.mp hk)
      show pI (unI (pI x)) = pI x
      rw [unI_pI]
    rw [List.map_congr_left this]
    exact List.map_id' ks
  have e2 : (ks.map unI).Perm prs := by
    have := hp.map unI
    rw [List.map_map, show unI ∘ pI = id from funext unI_pI, List.map_id] at this
    exact this
  refine ⟨ks.map unI, e1.symm, e2, ?_⟩
  rw [← e1, List.pairwise_map] at hs
  have nq : (ks.map unI).Nodup := e2.nodup_iff.mpr nd
  refine (hs.and nq).imp fun {x y} ⟨h1, h2⟩ => ?_
  have h1 : (if (y.1 : Int) = (x.1 : Int) then (if (y.2 : Int) = (x.2 : Int) then false else decide ((y.2 : Int) < (x.2 : Int))) else decide ((y.1 : Int) < (x.1 : Int))) = false := h1
  by_cases c1 : (y.1 : Int) = (x.1 : Int)
  · rw [if_pos c1] at h1
    by_cases c2 : (y.2 : Int) = (x.2 : Int)
    · exact absurd (Prod.ext (by omega) (by omega)) h2
    · rw [if_neg c2] at h1
      have := of_decide_eq_false h1
      exact .inr ⟨by omega, by omega⟩
  · rw [if_neg c1] at h1
    have := of_decide_eq_false h1
    exact .inl (by omega)
theorem two_pI {R : V → List Int → Prop} {R' : V → Nat × Nat → Prop} (h : ∀ y x, R y (pI x) → R' y x) : ∀ {ys : List V} {qs : List (Nat × Nat)}, Two R ys (qs.map pI) → Two R' ys qs
  | _, [], t => by
    cases t
    exact .nil
  | _, q :: qs, t => by
    have t : Two R _ (pI q :: qs.map pI) := t
    cases t with
    | cons r t => exact .cons (h _ _ r) (two_pI h t)
def cfB (e : E) (i j : Nat) : Bool := (List.range (e.places + 1)).any fun t => prB e (nearT e t) i j
def pairsN (n : Nat) : List (Nat × Nat) := (List.range n).flatMap fun i => (List.range n).map fun j => (i, j)
/-- the pairs in conflict, in their order -/
def confL (e : E) : List (Nat × Nat) := (pairsN e.places).filter fun x => cfB e x.1 x.2
theorem pairsN_sorted (n : Nat) : (pairsN n).Pairwise ltP := by
  unfold pairsN
  rw [List.pairwise_flatMap]
  refine ⟨fun i _ => ?_, List.pairwise_lt_range.imp fun {i j} h x hx y hy => ?_⟩
  · rw [List.pairwise_map]
    exact List.pairwise_lt_range.imp fun h => .inr ⟨rfl, h⟩
  · obtain ⟨a, _, rfl⟩ := List.mem_map.mp hx
    obtain ⟨b, _, rfl⟩ := List.mem_map.mp hy
    exact .inl h
theorem pairsN_mem {n : Nat} {x : Nat × Nat} : x ∈ pairsN n ↔ x.1 < n ∧ x.2 < n := by
  unfold pairsN
  rw [List.mem_flatMap]
  constructor
  · rintro ⟨i, hi, hx⟩
    obtain ⟨j, hj, rfl⟩ := List.mem_map.mp hx
    exact ⟨List.mem_range.mp hi, List.mem_range.mp hj⟩
  · rintro ⟨h1, h2⟩
    exact ⟨x.1, List.mem_range.mpr h1, List.mem_map.mpr ⟨x.2, List.mem_range.mpr h2, rfl⟩⟩
theorem confL_sorted (e : E) : (confL e).Pairwise ltP := (pairsN_sorted _).filter _
theorem cf_iff {e : E} {i j : Nat} : cfB e i j = true ↔ ∃ t ≤ e.places, prB e (nearT e t) i j = true := by
  unfold cfB
  rw [List.any_eq_true]
  constructor
  · rintro ⟨t, ht, h⟩
    exact ⟨t, by have := List.mem_range.mp ht; omega, h⟩
  · rintro ⟨t, ht, h⟩
    exact ⟨t, List.mem_range.mpr (by omega), h⟩
theorem pr_lt {e : E} {t i j : Nat} (h : prB e (nearT e t) i j = true) : i < e.places ∧ j < e.places := by
  have h := of_decide_eq_true h
  exact ⟨nearT_lt e t i h.1, nearT_lt e t j h.2.1⟩
theorem confL_mem {e : E} {i j : Nat} : (i, j) ∈ confL e ↔ ∃ t ≤ e.places, prB e (nearT e t) i j = true := by
  unfold confL
  rw [List.mem_filter, pairsN_mem]
  constructor
  · rintro ⟨_, h⟩
    exact cf_iff.mp h
  · intro h
    obtain ⟨t, ht, h⟩ := h
    exact ⟨pr_lt h, cf_iff.mpr ⟨t, ht, h⟩⟩
theorem confL_len (e : E) (h : e.places ≤ 40) : (confL e).length ≤ 1600 := by
  refine Nat.le_trans (List.length_filter_le _ _) ?_
  unfold pairsN
  rw [List.length_flatMap]
  simp only [List.length_map, List.length_range]
  rw [List.map_const', List.sum_replicate_nat, List.length_range]
  exact Nat.mul_le_mul h h
def confB (e : E) : Bool := !(confL e).isEmpty
/-! ### a dict of pairs -/
def kk (x : Nat × Nat) : List L2.Key := [Sum.inl (x.1 : Int), Sum.inl (x.2 : Int)]
def dtK (prs : List (Nat × Nat)) : List (List L2.Key × V) := prs.map fun x => (kk x, V.bl true)
theorem kk_inj {x y : Nat × Nat} (h : kk x = kk y) : x = y := by
  have h1 := (List.cons.inj h).1
  have h2 := (List.cons.inj (List.cons.inj h).2).1
  have := Sum.inl.inj h1
  have := Sum.inl.inj h2
  exact Prod.ext (by omega) (by omega)
theorem dtK_any (prs : List (Nat × Nat)) (x : Nat × Nat) : ((dtK prs).any fun kv => decide (kv.1 = kk x)) = decide (x ∈ prs) := by
  induction prs with
  | nil => rfl
  | cons y prs ih =>
    show (decide (kk y = kk x) || ((dtK prs).any fun kv => decide (kv.1 = kk x))) = _
    rw [ih, ← Bool.decide_or]
    refine decide_eq_decide.mpr ?_
    rw [List.mem_cons]
    exact ⟨fun h => h.elim (fun h => .inl (kk_inj h).symm) .inr, fun h => h.elim (fun h => .inl (by rw [h])) .inr⟩
def addP (prs : List (Nat × Nat)) (x : Nat × Nat) : List (Nat × Nat) := if x ∈ prs then prs else prs ++ [x]
theorem dtK_put (prs : List (Nat × Nat)) (x : Nat × Nat) : putK (dtK prs) (kk x) (V.bl true) = dtK (addP prs x) := by
  unfold putK addP
  rw [dtK_any]
  by_cases h : x ∈ prs
  · rw [if_pos (decide_eq_true h), if_pos h]
    have : ∀ kv ∈ dtK prs, (fun kv : List L2.Key × V => if kv.1 = kk x then (kv.1, V.bl true) else kv) kv = id kv := fun kv hkv => by
      obtain ⟨y, _, rfl⟩ := List.mem_map.mp hkv
      show (if kk y = kk x then (kk y, V.bl true) else (kk y, V.bl true)) = (kk y, V.bl true)
      split <;> rfl
    rw [List.map_congr_left this, List.map_id]
  · rw [if_neg (by rw [decide_eq_false h]; exact Bool.false_ne_true), if_neg h]
    unfold dtK
    rw [List.map_append]
    rfl
theorem addP_mem {prs : List (Nat × Nat)} {x y : Nat × Nat} : y ∈ addP prs x ↔ y ∈ prs ∨ y = x := by
  unfold addP
  split
  · rename_i h
    exact ⟨.inl, fun k => k.elim id fun k => k ▸ h⟩
  · rw [List.mem_append, List.mem_singleton]
theorem addP_nd {prs : List (Nat × Nat)} {x : Nat × Nat} (h : prs.Nodup) : (addP prs x).Nodup := by
  unfold addP
  split
  · exact h
  · rename_i hx
    rw [List.nodup_append]
    exact ⟨h, by simp, fun a ha b hb => by rw [List.mem_singleton.mp hb]; rintro rfl; exact hx ha⟩
theorem prs_len {prs : List (Nat × Nat)} (nd : prs.Nodup) (h : ∀ x ∈ prs, x.1 < 40 ∧ x.2 < 40) : prs.length ≤ 1600 := by
  have := nodup_len 1600 (prs.map fun x => ((x.1 * 40 + x.2 : Nat) : Int)) ?_ fun k hk => ?_
  · rw [List.length_map] at this
    exact this
  · refine List.pairwise_map.mpr (nd.imp_of_mem fun {x y} hx hy hne he => hne ?_)
    have h1 := h x hx
    have h2 := h y hy
    exact Prod.ext (by omega) (by omega)
  · obtain ⟨x, hx, rfl⟩ := List.mem_map.mp hk
    have := h x hx
    omega
def spHasC (C : Addr) : Sp := fun vs H Q _ => ∃ (p : Addr) (e : E), vs = [.ref p] ∧ StepsAt C H p e ∧ e.places ≤ 40 ∧ ∀ H', Same H H' → Q (.bl (confB e)) H'
def spSure : Sp := fun vs H Q _ => ∃ (v : V) (e : E), vs = [v] ∧ Eok e ∧ Rep H v e.toD ∧ ∀ H', Same H H' → Q (.bl (!confB e)) H'
def spConf : Sp := fun vs H Q _ => ∃ (v : V) (e : E), vs = [v] ∧ Eok e ∧ Rep H v e.toD ∧ ∀ (q : Addr) (ts : List V) H', Same H H' → H q = none → H' q = some (.lst ts) → Two (PairT H') ts (confL e) → Q (.ref q) H'
theorem nodes_get {n k : Nat} {x : V} (h : ((List.range n).map fun (t : Nat) => V.int ((t : Int) - 1))[k]? = some x) : k < n ∧ x = V.int ((k : Int) - 1) := by
  rw [List.getElem?_map] at h
  obtain ⟨t, ht, rfl⟩ := Option.map_eq_some_iff.mp h
  have hk := (List.getElem?_eq_some_iff.mp ht).1
  rw [List.length_range] at hk
  rw [List.getElem?_range hk] at ht
  cases ht
  exact ⟨hk, rfl⟩
def hasT (e : E) (t : Nat) : Bool := (pairsN e.places).any fun x => prB e (nearT e t) x.1 x.2
theorem hasT_len {e : E} {t : Nat} {ps : List (Nat × Nat)} (h : ∀ i j, (i, j) ∈ ps ↔ prB e (nearT e t) i j = true) : decide (0 < ps.length) = hasT e t := by
  unfold hasT
  rw [Bool.eq_iff_iff, List.any_eq_true, decide_eq_true_eq]
  constructor
  · intro hl
    obtain ⟨x, hx⟩ := List.exists_mem_of_length_pos hl
    have hx := (h x.1 x.2).mp hx
    exact ⟨x, pairsN_mem.mpr (pr_lt hx), hx⟩
  · rintro ⟨x, _, hx⟩
    exact List.length_pos_of_mem ((h x.1 x.2).mpr hx)
theorem conf_any (e : E) : ((List.range (e.places + 1)).map (hasT e)).any id = confB e := by
  unfold confB
  rw [List.any_map, Bool.eq_iff_iff, List.any_eq_true, Bool.not_eq_true', List.isEmpty_eq_false_iff]
  constructor
  · rintro ⟨t, ht, h⟩
    have ht := List.mem_range.mp ht
    obtain ⟨x, _, hx⟩ := List.any_eq_true.mp (show hasT e t = true from h)
    exact List.ne_nil_of_mem (confL_mem.mpr ⟨t, by omega, hx⟩)
  · intro h
    obtain ⟨x, hx⟩ := List.exists_mem_of_ne_nil _ h
    obtain ⟨t, ht, h⟩ := confL_mem.mp (show (x.1, x.2) ∈ confL e from hx)
    exact ⟨t, List.mem_range.mpr (by omega), List.any_eq_true.mpr ⟨x, pairsN_mem.mpr (pr_lt h), h⟩⟩
section
variable {P : Program} {w : World} {K : PySem.W.Frag} {mg : Str → Option Value} {base : Heap} {a_BOUNDS a_LONG_BOUNDS : Addr} {tL tM : Tok}
abbrev N_has_conflict : List Str := ["steps", "node"]
theorem sc_has_conflict : FnScope ["steps", "node"] ["steps"] (defScope s_has_conflict) := ⟨rfl, rfl, rfl, by decide +kernel, rfl, by decide +kernel, by decide +kernel⟩
theorem ok_hasc {C f : Addr} {fd : FuncData} (T : StTxt K C) (B : Bt K mg a_BOUNDS a_LONG_BOUNDS tL tM) (Dd : Df K mg "has_conflict" s_has_conflict ["steps"] f fd) (G_nodes : Cl P w K mg base 1 "_nodes" ["steps"] (spNodes C)) (G_pairs_behind : Cl P w K mg base 2 "_pairs_behind" ["steps", "node"] (spPairs C)) : FnOk P w K mg base CX0 3 f fd ["steps"] (spHasC C) := by
  refine Dd.F.ok sc_has_conflict (fun vs H Q Ex h => ?_) (fun cdv A outer s H vs Q Ex hr h => ?_)
  · obtain ⟨p, e, rfl, _⟩ := h
    rfl
  obtain ⟨p, e, rfl, hS, h40, q⟩ := h
  refine ⟨_, (pss_one (ps_ret (pe_callB (cr_any rfl) rfl B.b_any boot_any (pa_cons (pe_lc (own := [("node", 1)]) (g := gName 1) (tt := tYes) rfl sc_has_conflict.nd (pi_list (pe_cl G_nodes (hr.mono (by omega)) rfl (pa_cons (pv 0) pa_nil))) (blkOk_by (N := N_has_conflict) (sc := defScope s_has_conflict) (by decide +kernel)) (fun _ _ _ _ _ => pg_name (i := 1) sc_has_conflict.nd rfl (Or.inl rfl)) (fun _ _ _ _ _ => pts_nil) (fun _ _ _ _ _ => (pe_cmpR op_gt (pe_callB (r := rLenOf K) call_lenK rfl B.b_len boot_len (pa_cons (pe_cl G_pairs_behind (hr.mono (by omega)) rfl (pa_cons (pv 0) (pa_cons (pv 1) pa_nil))) pa_nil)) pe_int (nomark _)))) pa_nil)))), ?_⟩
  refine ⟨_, rfl, p, e, rfl, hS, h40, fun q0 H1 s1 hq0 hq1 => ⟨q0, rfl, ⟨_, SqL.of hq1⟩, fun D hD => ?_⟩⟩
  refine lc_listR (K := K) (a := q0) (fun i => ((List.range (min i (e.places + 1))).map (hasT e)).map V.bl) rfl (fun i => by rw [List.length_map, List.length_map, List.length_range]; omega) hD (SqL.of hq1) (fun i x H' hx s2 fin _ => ?_) (fun H' s2 hk' => ?_)
  · obtain ⟨hi, rfl⟩ := nodes_get hx
    refine ⟨rfl, tyes ⟨_, rfl, _, rfl, p, e, i, rfl, hS.same (s1.trans s2), h40, by omega, fun q ts ps H3 s3 _ hq2 two hm _ => ⟨_, ts.length, rfl, .inl ⟨_, SqL.of hq2, rfl⟩, _, _, rfl, rfl, fin _ _ ?_ s3⟩⟩⟩
    rw [two.len, Nat.min_eq_left (by omega), Nat.min_eq_left (by omega), List.range_succ, List.map_append, List.map_append]
    congr 1
    show [V.bl (hasT e i)] = [V.bl (decide ((0 : Int) < (ps.length : Int)))]
    rw [← hasT_len hm]
    congr 2
    exact decide_eq_decide.mpr (by omega)
  · rw [List.length_map, List.length_range, Nat.min_self] at hk'
    refine ⟨D, _, rfl, SqL.of hk', ?_⟩
    rw [conf_any]
    exact q _ (s1.trans s2)
abbrev N_is_sure : List Str := ["expression"]
theorem sc_is_sure : FnScope ["expression"] ["expression"] (defScope s_is_sure) := ⟨rfl, rfl, rfl, by decide +kernel, rfl, by decide +kernel, by decide +kernel⟩
theorem ok_sure {C f : Addr} {fd : FuncData} (T : StTxt K C) (B : Bt K mg a_BOUNDS a_LONG_BOUNDS tL tM) (Dd : Df K mg "is_sure" s_is_sure ["expression"] f fd) (Gcheck_long : Cl P w K mg base 6 "check_long" ["value"] spCheck) (Gsteps_of : Cl P w K mg base 87 "steps_of" ["expression"] (spSteps C)) (Ghas_conflict : Cl P w K mg base 3 "has_conflict" ["steps"] (spHasC C)) : FnOk P w K mg base CX0 88 f fd ["expression"] spSure := by
  refine Dd.F.ok sc_is_sure (fun vs H Q Ex h => ?_) (fun cdv A outer s H vs Q Ex hr h => ?_)
  · obtain ⟨v, e, rfl, _⟩ := h
    rfl
  obtain ⟨v, e, rfl, hE, hR, q⟩ := h
  refine ⟨_, (pss_cons (ps_expr (pe_cl Gcheck_long (hr.mono (by omega)) rfl (pa_cons (pv 0) pa_nil)))
    (pss_one (ps_ret (pe_not (pe_cl Ghas_conflict (hr.mono (by omega)) rfl (pa_cons (pe_cl Gsteps_of (hr.mono (by omega)) rfl (pa_cons (pv 0) pa_nil)) pa_nil)))))), ?_⟩
  refine ⟨_, rfl, v, _, rfl, hR, fl_toD e, hE.sz, long_top hE, fun H1 s1 => ?_⟩
  refine ⟨_, rfl, v, e, rfl, hE.ok, Nat.lt_of_le_of_lt hE.dep (by decide), hE.pl, hR.pers (Pers.same s1), fun p H2 s2 S => ?_⟩
  exact ⟨p, e, rfl, S, hE.pl, fun H3 s3 => ⟨_, rfl, q H3 ((s1.trans s2).trans s3)⟩⟩
end
end My
namespace My
open PySem PySem.Spec PyProof.Rows L2
/-! ### the law's own pairs in conflict -/
def RowFo (H : Hp) (e : E) (v : V) (i : Nat) : Prop := ∃ r, v = .ref r ∧ H r = some (.lst (natsV (folAt e i)))
def spFollow : Sp := fun vs H Q _ => ∃ (t : Addr) (e : E), vs = [.ref t, .int (e.places : Int)] ∧ e.places ≤ 40 ∧ TabF H t e ∧ ∀ (q : Addr) (ts : List V) H', Same H H' → H q = none → H' q = some (.lst ts) → Two (RowFo H' e) ts (List.range e.places) → Q (.ref q) H'
def spLPairs : Sp := fun vs H Q _ => ∃ (z : Str) (pl : Addr) (e : E) (near : List Nat), vs = [.str z, .ref pl] ∧ e.places ≤ 40 ∧ z.cps.toList = e.letters ∧ H pl = some (.lst (natsV near)) ∧ near.Pairwise (· < ·) ∧ (∀ x ∈ near, x < e.places) ∧ ∀ (q : Addr) (ts : List V) (ps : List (Nat × Nat)) H', Same H H' → H q = none → H' q = some (.lst ts) → Two (PairT H') ts ps → ps.Nodup → (∀ x, x ∈ ps ↔ prB e near x.1 x.2 = true) → Q (.ref q) H'
def spLConf : Sp := fun vs H Q _ => ∃ (t : Addr) (z : Str) (e : E), vs = [.ref t, .str z] ∧ e.places ≤ 40 ∧ z.cps.toList = e.letters ∧ TabF H t e ∧ ∀ (q : Addr) (ts : List V) H', Same H H' → H q = none → H' q = some (.lst ts) → Two (PairT H') ts (confL e) → Q (.ref q) H'
def isPr (e : E) (i j : Nat) : Bool := decide (i < j ∧ e.letters[i]? = e.letters[j]?)
def lrow (e : E) (near : List Nat) (i : Nat) : List (Nat × Nat) := (near.filter (isPr e i)).map fun j => (i, j)
theorem lrow_mem {e : E} {near : List Nat} {i : Nat} {x : Nat × Nat} : x ∈ lrow e near i ↔ x.1 = i ∧ x.2 ∈ near ∧ isPr e i x.2 = true := by
  unfold lrow
  rw [List.mem_map]
  constructor
  · rintro ⟨j, hj, rfl⟩
    rw [List.mem_filter] at hj
    exact ⟨rfl, hj⟩
  · rintro ⟨h1, h2, h3⟩
    exact ⟨x.2, List.mem_filter.mpr ⟨h2, h3⟩, Prod.ext h1.symm rfl⟩
theorem lrows_mem {e : E} {near : List Nat} {x : Nat × Nat} : x ∈ near.flatMap (lrow e near) ↔ prB e near x.1 x.2 = true := by
  rw [List.mem_flatMap]
  unfold prB
  rw [decide_eq_true_eq]
  constructor
  · rintro ⟨i, hi, h⟩
    obtain ⟨h1, h2, h3⟩ := lrow_mem.mp h
    have h3 := of_decide_eq_true h3
    rw [h1]
    exact ⟨hi, h2, h3⟩
  · rintro ⟨h1, h2, h3⟩
    exact ⟨x.1, h1, lrow_mem.mpr ⟨rfl, h2, decide_eq_true h3⟩⟩
theorem lrows_nd {e : E} {near : List Nat} (h : near.Pairwise (· < ·)) : (near.flatMap (lrow e near)).Nodup := by
  have : (near.flatMap (lrow e near)).Pairwise ltP := by
    rw [List.pairwise_flatMap]
    refine ⟨fun i _ => ?_, h.imp fun {i j} h x hx y hy => ?_⟩
    · unfold lrow
      rw [List.pairwise_map]
      exact (h.filter _).imp fun h => .inr ⟨rfl, h⟩
    · exact .inl (by rw [(lrow_mem.mp hx).1, (lrow_mem.mp hy).1]; exact h)
  exact this.imp fun {x y} h he => by
    rw [he] at h
    exact ltP_irr y h
theorem rise_len {xs : List Nat} {n : Nat} (h : xs.Pairwise (· < ·)) (hb : ∀ x ∈ xs, x < n) : xs.length ≤ n := by
  have := nodup_len n (xs.map fun (i : Nat) => (i : Int)) ?_ fun k hk => ?_
  · rw [List.length_map] at this
    exact this
  · exact List.pairwise_map.mpr (h.imp fun h => by omega)
  · obtain ⟨x, hx, rfl⟩ := List.mem_map.mp hk
    have := hb x hx
    omega
/-- ints sorted that rise already -/
theorem sorted_same {ks : List Int} {xs : List Nat} (hp : ks.Perm (xs.map fun (i : Nat) => (i : Int))) (hs : ks.Pairwise (· ≤ ·)) (h : xs.Pairwise (· < ·)) : ks = xs.map fun (i : Nat) => (i : Int) := by
  have r2 : (xs.map fun (j : Nat) => (j : Int)).Pairwise (· < ·) := by
    rw [List.pairwise_map]
    exact h.imp fun h => by omega
  exact eq_of_rise _ _ (rise_of hp hs (r2.imp fun h => by omega)) r2 fun x => hp.mem_iff
theorem near_zero (e : E) : nearT e 0 = (gl e 0).fst := rfl
theorem near_succ (e : E) (m : Nat) : nearT e (m + 1) = folAt e m := rfl
theorem fol_up (e : E) (i : Nat) : (folAt e i).Pairwise (· < ·) := nearT_rise e (i + 1)
theorem fol_lt (e : E) (i : Nat) : ∀ x ∈ folAt e i, x < e.places := nearT_lt e (i + 1)
def kV2 (H : Hp) : V → List Int
  | .ref b => kOf H (.ref b)
  | _ => []
theorem kV2_at {H : Hp} {v : V} {x : Nat × Nat} (h : PairT H v x) : kV2 H v = pI x := by
  obtain ⟨a, rfl, h⟩ := h
  exact kOf_at (k := pI x) h
theorem two_maps {H : Hp} : ∀ {ts : List V} {ps : List (Nat × Nat)}, Two (PairT H) ts ps → ts.map (kV2 H) = ps.map pI
  | _, _, .nil => rfl
  | _, _, .cons h t => by rw [List.map_cons, List.map_cons, two_maps t, kV2_at h]
theorem two_of_map {H : Hp} : ∀ {ys : List V} {qs : List (Nat × Nat)}, ys.map (kV2 H) = qs.map pI → (∀ y ∈ ys, ∃ x, PairT H y x) → Two (PairT H) ys qs
  | [], [], _, _ => .nil
  | [], _ :: _, e, _ => by cases e
  | _ :: _, [], e, _ => by cases e
  | y :: ys, q :: qs, e, h => by
    rw [List.map_cons, List.map_cons] at e
    obtain ⟨x, hx⟩ := h y List.mem_cons_self
    have e1 := (List.cons.inj e).1
    rw [kV2_at hx] at e1
    have e2 : x = q := by rw [← unI_pI x, e1, unI_pI]
    exact .cons (e2 ▸ hx) (two_of_map (List.cons.inj e).2 fun y hy => h y (List.mem_cons_of_mem _ hy))
section
variable {P : Program} {w : World} {K : PySem.W.Frag} {mg : Str → Option Value} {base : Heap} {a_BOUNDS a_LONG_BOUNDS : Addr} {tL tM : Tok}
abbrev N__law_follow : List Str := ["tables", "many", "place", "other"]
theorem sc__law_follow : FnScope ["tables", "many", "place", "other"] ["tables", "many"] (defScope s__law_follow) := ⟨rfl, rfl, rfl, by decide +kernel, rfl, by decide +kernel, by decide +kernel⟩
theorem ok_follow {f : Addr} {fd : FuncData} (B : Bt K mg a_BOUNDS a_LONG_BOUNDS tL tM) (Dd : Df K mg "_law_follow" s__law_follow ["tables", "many"] f fd) : FnOk P w K mg base CX0 1 f fd ["tables", "many"] spFollow := by
  refine Dd.F.ok sc__law_follow (fun vs H Q Ex h => ?_) (fun cdv A outer s H vs Q Ex hr h => ?_)
  · obtain ⟨t, e, rfl, _⟩ := h
    rfl
  obtain ⟨t, e, rfl, h40, hT, q⟩ := h
  refine ⟨_, (pss_one (ps_ret (pe_lc (own := [("place", 2)]) (g := gName 2) (tt := tYes) rfl sc__law_follow.nd (pi_range1 rfl B.b_range (pa_cons (pv 1) pa_nil)) (blkOk_by (N := N__law_follow) (sc := defScope s__law_follow) (by decide +kernel)) (fun _ _ _ _ _ => pg_name (i := 2) sc__law_follow.nd rfl (Or.inr rfl)) (fun _ _ _ _ _ => pts_nil) (fun _ _ _ _ _ => (pe_lc (own := [("other", 3)]) (g := gName 3) rfl sc__law_follow.nd (pi_range1 rfl B.b_range (pa_cons (pv 1) pa_nil)) (blkOk_by (by kernel_rfl)) (fun _ _ _ _ _ => pg_name (i := 3) sc__law_follow.nd rfl (Or.inl rfl)) (fun _ _ _ _ _ => pts_one (pt_cmpR (r := rInD K) (op_inD hr.u65) (pe_tup (pa_cons (pv 2) (pa_cons (pv 3) pa_nil))) (pe_ix (r := rIxL K) ix_list (pv 0) pe_int (fun _ _ => rfl)) rfl)) (fun _ _ _ _ _ => (pv 3))))))), ?_⟩
  obtain ⟨f0, l0, p0, ij, h1, h2, h3, h4, h5, h6⟩ := hT.ex
  refine ⟨_, rfl, _, rfl, by omega, by omega, fun L hL => ?_⟩
  refine lc_range (lo := 0) (n := e.places) (fun i H' => Same H H' ∧ ∃ ts, H' L = some (.lst ts) ∧ (∀ r, V.ref r ∈ ts → r ≠ L) ∧ Two (RowFo H' e) ts (List.range i)) ⟨same_upd hL, [], upd_same, (fun r h => by cases h), .nil⟩ (fun i H1 hi h => ?_) (fun H' h => ?_)
  · obtain ⟨s1, ts, hts, hrL, two⟩ := h
    refine ⟨rfl, tyes ⟨_, rfl, _, rfl, by omega, by omega, fun D hD => ?_⟩⟩
    have hT1 := h1
    refine lc_range (lo := 0) (n := e.places) (fun k H' => Same H1 H' ∧ H' D = some (.lst (natsV ((List.range k).filter fun y => decide ((i, y) ∈ (gl e 0).fol))))) ⟨same_upd hD, upd_same⟩ (fun k H2 hk h => ?_) (fun H' h => ?_)
    · obtain ⟨s2, hD2⟩ := h
      have S2 := s1.trans s2
      refine ⟨rfl, _, rfl, _, rfl, by show 2 ≤ sizeLine; decide, fun q1 hq1 => ?_⟩
      have u1 := same_upd (o := .tup [V.int ((0 : Int) + (i : Nat)), V.int ((0 : Int) + (k : Nat))]) hq1
      refine ⟨_, rfl, t, _, 2, _, rfl, rfl, SqL.of (u1 _ _ (S2 _ _ h1)), at_of (j := 2) rfl rfl, pd (i, k), ij.map pd, pd_dp (by rw [upd_same, Int.zero_add, Int.zero_add]), (h4.same (S2.trans u1)).dp, pd_shaped _, pds_shaped _, _, rfl, ?_⟩
      rw [pd_any]
      have e2 : ((List.range (k + 1)).filter fun y => decide ((i, y) ∈ (gl e 0).fol)) = ((List.range k).filter fun y => decide ((i, y) ∈ (gl e 0).fol)) ++ (if (i, k) ∈ (gl e 0).fol then [k] else []) := by
        rw [List.range_succ, List.filter_append, List.filter_cons]
        by_cases c : (i, k) ∈ (gl e 0).fol
        · rw [if_pos (decide_eq_true c), if_pos c]
          rfl
        · rw [if_neg (by rw [decide_eq_false c]; exact Bool.false_ne_true), if_neg c]
          rfl
      have tl : ((List.range k).filter fun y => decide ((i, y) ∈ (gl e 0).fol)).length ≤ 40 := Nat.le_trans (List.length_filter_le _ _) (by rw [List.length_range]; omega)
      refine ite2 (fun c => ?_) (fun c => ?_)
      · have c1 := (h5 (i, k)).mp (of_decide_eq_true c)
        refine ⟨_, rfl, _, u1 _ _ hD2, by rw [natsV_len]; exact Nat.lt_of_le_of_lt tl (by decide), fun b o hb => ?_, ?_⟩
        · rw [upd_ne (ne_of_none hb hD)]
          exact u1 _ _ (s2 _ _ hb)
        · rw [upd_same, e2, if_pos c1, Int.zero_add]
          unfold natsV
          rw [List.map_append]
          rfl
      · have c1 : (i, k) ∉ (gl e 0).fol := fun h => c (decide_eq_true ((h5 (i, k)).mpr h))
        refine ⟨s2.trans u1, ?_⟩
        rw [e2, if_neg c1, List.append_nil]
        exact u1 _ _ hD2
    · obtain ⟨s2, hD2⟩ := h
      have hL2 := s2 _ _ hts
      have hLD : L ≠ D := ne_of_none hts hD
      refine ⟨ts, hL2, ?_, fun b o hb => ?_, ts ++ [.ref D], upd_same, (fun r hr => ?_), ?_⟩
      · rw [two.len, List.length_range]
        exact Nat.lt_of_le_of_lt (m := 40) (by omega) (by decide)
      · rw [upd_ne (ne_of_none hb hL)]
        exact s2 _ _ (s1 _ _ hb)
      · rcases List.mem_append.mp hr with h | h
        · exact hrL r h
        · cases List.mem_singleton.mp h
          exact hLD.symm
      · rw [List.range_succ]
        have nL : ∀ r, r ≠ L → ∀ u, H' r = some u → (upd H' L (.lst (ts ++ [V.ref D]))) r = some u := fun r hr u h => by
          rw [upd_ne hr]
          exact h
        refine (two.monoM fun v x hv _ hr => ?_).app (.cons ⟨D, rfl, nL D hLD.symm _ hD2⟩ .nil)
        obtain ⟨r, e1, h⟩ := hr
        exact ⟨r, e1, nL r (hrL r (by rw [← e1]; exact hv)) _ (s2 _ _ h)⟩
  · obtain ⟨s1, ts, hts, hrL, two⟩ := h
    exact q L ts H' s1 hL hts two
abbrev N__law_pairs : List Str := ["letters", "places", "found", "one", "other"]
theorem sc__law_pairs : FnScope ["letters", "places", "found", "one", "other"] ["letters", "places"] (defScope s__law_pairs) := ⟨rfl, rfl, rfl, by decide +kernel, rfl, by decide +kernel, by decide +kernel⟩
theorem ok_lpairs {f : Addr} {fd : FuncData} (B : Bt K mg a_BOUNDS a_LONG_BOUNDS tL tM) (Dd : Df K mg "_law_pairs" s__law_pairs ["letters", "places"] f fd) : FnOk P w K mg base CX0 1 f fd ["letters", "places"] spLPairs := by
  refine Dd.F.ok sc__law_pairs (fun vs H Q Ex h => ?_) (fun cdv A outer s H vs Q Ex hr h => ?_)
  · obtain ⟨z, pl, e, near, rfl, _⟩ := h
    rfl
  obtain ⟨z, pl, e, near, rfl, h40, hz, hpl, hrs, hlt, q⟩ := h
  refine ⟨_, (pss_cons (ps_set (i := 2) sc__law_pairs.nd rfl (Or.inl rfl) (pe_lst pa_nil))
    (pss_cons (ps_for PassesOwn.never rfl (pi_list (pe_callB cr_sortedI rfl B.b_sorted boot_sorted (pa_cons (pv 1) pa_nil))) (pg_name (i := 3) sc__law_pairs.nd rfl (Or.inr rfl)) (pss_one (ps_set (i := 2) sc__law_pairs.nd rfl (Or.inl rfl) (pe_op op_cat (pv 2) (pe_lc (own := [("other", 4)]) (g := gName 4) rfl sc__law_pairs.nd (pi_list (pe_callB cr_sortedI rfl B.b_sorted boot_sorted (pa_cons (pv 1) pa_nil))) (blkOk_by (N := N__law_pairs) (sc := defScope s__law_pairs) (by decide +kernel)) (fun _ _ _ _ _ => pg_name (i := 4) sc__law_pairs.nd rfl (Or.inl rfl)) (fun _ _ _ _ _ => pts_one (PW.pt (pw_and (pt_cmpR op_lt (pv 3) (pv 4) (nomark _)) (pw_and1 (pt_cmpR op_eq (pe_ix ix_str (pv 0) (pv 3) (fun _ _ => rfl)) (pe_ix ix_str (pv 0) (pv 4) (fun _ _ => rfl)) (nomark _)))))) (fun _ _ _ _ _ => (pe_tup (pa_cons (pv 3) (pa_cons (pv 4) pa_nil)))))))))
    (pss_one (ps_ret (pv 2))))), ?_⟩
  have nl := rise_len hrs hlt
  refine ⟨by show 0 ≤ sizeLine; decide, fun L hL => ?_⟩
  have sL := same_upd (o := .lst []) hL
  have zl : z.length = e.places := by rw [← len_toList2, hz, letters_len]
  have ltr : ∀ i, i < e.places → ∃ c, e.letters[i]? = some c ∧ atI z.cps.toList (i : Int) = some c := fun i hi => by
    have hil : i < e.letters.length := by rw [letters_len]; exact hi
    exact ⟨e.letters[i], List.getElem?_eq_getElem hil, by rw [hz]; exact atI_nat (List.getElem?_eq_getElem hil)⟩
  refine ⟨_, rfl, pl, near.map fun (i : Nat) => (i : Int), rfl, SqL.of (by rw [← natsV_int]; exact sL _ _ hpl), fun ys p1 hp hs hp1 => ?_⟩
  obtain rfl := sorted_same hp hs hrs
  rw [← natsV_int]
  have u1 := same_upd (o := .lst (natsV near)) hp1
  have hLp : L ≠ p1 := ne_of_none (H := upd H L (.lst [])) upd_same hp1
  refine ⟨p1, rfl, ⟨_, SqL.of upd_same⟩, for_list (K := K) (a := p1) (xs := natsV near) (fun m σ' H' => ∃ (q' : Addr) (o3 : Option V) (ts : List V), σ' = [some (.str z), some (.ref pl), some (.ref q'), o3, none] ∧ Same H H' ∧ H' p1 = some (.lst (natsV near)) ∧ H q' = none ∧ H' q' = some (.lst ts) ∧ Two (PairT H') ts ((near.take m).flatMap (lrow e near))) ?_ ?_ ?_ ?_⟩
  · exact ⟨L, none, [], rfl, sL.trans u1, upd_same, hL, u1 _ _ upd_same, .nil⟩
  · rintro m σ' H' _ ⟨q', o3, ts, rfl, _, h, _⟩
    exact SqL.of h
  · rintro m v σ' H1 hv ⟨q', o3, ts, rfl, s1, hp1', hq'n, hq', two⟩
    obtain ⟨i, hi, rfl⟩ := natsV_getB hv
    have hip := hlt i (List.mem_of_getElem? hi)
    have hml := (List.getElem?_eq_some_iff.mp hi).1
    obtain ⟨ci, hci, hati⟩ := ltr i hip
    refine ⟨_, rfl, _, rfl, pl, near.map fun (i : Nat) => (i : Int), rfl, SqL.of (by rw [← natsV_int]; exact s1 _ _ hpl), fun ys p2 hp' hs' hp2 => ?_⟩
    obtain rfl := sorted_same hp' hs' hrs
    rw [← natsV_int]
    have u2 := same_upd (o := .lst (natsV near)) hp2
    refine ⟨p2, rfl, ⟨_, SqL.of upd_same⟩, fun D hD => ?_⟩
    refine lc_list (K := K) (a := p2) (xs := natsV near) (fun k H' => Same (upd H1 p2 (.lst (natsV near))) H' ∧ ∃ us, H' D = some (.lst us) ∧ Two (PairT H') us (lrow e (near.take k) i)) ⟨same_upd hD, [], upd_same, .nil⟩ (fun k H' _ h => SqL.of (h.1 _ _ upd_same)) (fun k x H2 hx h => ?_) (fun H' h => ?_)
    · obtain ⟨s2, us, hus, two2⟩ := h
      obtain ⟨j, hj, rfl⟩ := natsV_getB hx
      have hjp := hlt j (List.mem_of_getElem? hj)
      obtain ⟨cj, hcj, hatj⟩ := ltr j hjp
      have lsn : lrow e (near.take (k + 1)) i = lrow e (near.take k) i ++ (if isPr e i j = true then [(i, j)] else []) := by
        unfold lrow
        rw [take_snoc hj, List.filter_append, List.filter_cons, List.map_append]
        split <;> rfl
      have no : isPr e i j = false → Same (upd H1 p2 (.lst (natsV near))) H2 ∧ ∃ us, H2 D = some (.lst us) ∧ Two (PairT H2) us (lrow e (near.take (k + 1)) i) := fun c => ⟨s2, us, hus, by rw [lsn, c, if_neg Bool.false_ne_true, List.append_nil]; exact two2⟩
      have bd : z.length ≤ sizeLine := by rw [zl]; exact Nat.le_trans h40 (by decide)
      refine ⟨rfl, _, rfl, _, rfl, _, _, rfl, rfl, _, rfl, ite2 (fun c1 => ?_) (fun c1 => iteF ?_)⟩
      · have c1 : (i : Int) < (j : Int) := of_decide_eq_true c1
        refine ⟨_, rfl, _, rfl, z, (i : Int), ci, rfl, rfl, bd, hati, _, rfl, _, rfl, z, (j : Int), cj, rfl, rfl, bd, hatj, rfl, _, rfl, ite2 (fun c2 => ?_) (fun c2 => ?_)⟩
        · have ec : ci = cj := (List.cons.inj (congrArg (fun s : Str => s.cps.toList) (vstr c2))).1
          have pt : isPr e i j = true := decide_eq_true ⟨by omega, by rw [hci, hcj, ec]⟩
          refine ⟨_, rfl, _, rfl, by show 2 ≤ sizeLine; decide, fun T1 hT1 => ⟨us, (same_upd hT1) _ _ hus, ?_, fun b o hb => ?_, us ++ [.ref T1], upd_same, ?_⟩⟩
          · rw [two2.len]
            unfold lrow
            rw [List.length_map]
            exact Nat.lt_of_le_of_lt (m := 40) (Nat.le_trans (List.length_filter_le _ _) (by rw [List.length_take]; omega)) (by decide)
          · rw [upd_ne (ne_of_none hb hD)]
            exact (same_upd hT1) _ _ (s2 _ _ hb)
          · rw [lsn, if_pos pt]
            have tk := (TK.same (same_upd (o := .tup [V.int (i : Int), V.int (j : Int)]) hT1)).trans (TK.upd (o := .lst (us ++ [.ref T1])) ((same_upd hT1) _ _ hus) fun xs z => by cases z)
            refine (two2.mono fun _ _ h => h.tk tk).app (.cons ⟨T1, rfl, ?_⟩ .nil)
            rw [upd_ne fun e => by rw [e, hus] at hT1; cases hT1]
            exact upd_same
        · refine no (decide_eq_false fun h => c2 ?_)
          have : ci = cj := Option.some.inj (hci.symm.trans (h.2.trans hcj))
          rw [this]
          exact decide_eq_true rfl
      · exact no (decide_eq_false fun h => c1 (decide_eq_true (by have := h.1; omega)))
    · obtain ⟨s2, us, hus, two2⟩ := h
      rw [natsV_len, List.take_length] at two2
      have S2 := u2.trans s2
      have t1 : ts.length ≤ 1600 := by
        have hrow : ∀ l : List Nat, (l.flatMap (lrow e near)).length ≤ l.length * 40 := fun l => by
          induction l with
          | nil => exact Nat.zero_le _
          | cons x l ih =>
            rw [List.flatMap_cons, List.length_append, List.length_cons, Nat.succ_mul]
            have : (lrow e near x).length ≤ 40 := by
              unfold lrow
              rw [List.length_map]
              exact Nat.le_trans (List.length_filter_le _ _) (by omega)
            omega
        have := hrow (near.take m)
        rw [two.len]
        rw [List.length_take] at this
        have h2 : min m near.length * 40 ≤ 40 * 40 := Nat.mul_le_mul_right _ (by omega)
        omega
      have t2 : us.length ≤ 40 := by
        rw [two2.len]
        unfold lrow
        rw [List.length_map]
        exact Nat.le_trans (List.length_filter_le _ _) (by omega)
      refine ⟨q', D, ts, us, rfl, rfl, S2 _ _ hq', hus, Nat.le_trans (m := 1640) (by omega) (by decide), fun r hr => ?_⟩
      have u3 := same_upd (o := .lst (ts ++ us)) hr
      refine ⟨r, _, _, rfl, s1.trans (S2.trans u3), u3 _ _ (S2 _ _ hp1'), ?_, upd_same, ?_⟩
      · cases hh : H r with
        | none => rfl
        | some u => rw [S2 _ _ (s1 _ _ hh)] at hr; cases hr
      · rw [take_snoc hi, List.flatMap_append]
        refine (two.mono fun _ _ h => h.same (S2.trans u3)).app ?_
        rw [List.flatMap_singleton]
        exact two2.mono fun _ _ h => h.same u3
  · rintro σ' H1 ⟨q', o3, ts, rfl, s1, hp1', hq'n, hq', two⟩
    rw [natsV_len, List.take_length] at two
    exact ⟨_, rfl, q q' ts _ H1 s1 hq'n hq' two (lrows_nd hrs) fun x => lrows_mem⟩
abbrev N__law_conflicts : List Str := ["tables", "letters", "found", "places", "pair"]
theorem sc__law_conflicts : FnScope ["tables", "letters", "found", "places", "pair"] ["tables", "letters"] (defScope s__law_conflicts) := ⟨rfl, rfl, rfl, by decide +kernel, rfl, by decide +kernel, by decide +kernel⟩
theorem ok_lconf {f : Addr} {fd : FuncData} (B : Bt K mg a_BOUNDS a_LONG_BOUNDS tL tM) (Dd : Df K mg "_law_conflicts" s__law_conflicts ["tables", "letters"] f fd) (G_law_pairs : Cl P w K mg base 1 "_law_pairs" ["letters", "places"] spLPairs) (G_law_follow : Cl P w K mg base 1 "_law_follow" ["tables", "many"] spFollow) : FnOk P w K mg base CX0 2 f fd ["tables", "letters"] spLConf := by
  refine Dd.F.ok sc__law_conflicts (fun vs H Q Ex h => ?_) (fun cdv A outer s H vs Q Ex hr h => ?_)
  · obtain ⟨t, z, e, rfl, _⟩ := h
    rfl
  obtain ⟨t, z, e, rfl, h40, hz, hT, q⟩ := h
  refine ⟨_, (pss_cons (ps_set (i := 2) sc__law_conflicts.nd rfl (Or.inr rfl) (pe_cl G_law_pairs (hr.mono (by omega)) rfl (pa_cons (pv 1) (pa_cons (pe_ix (r := rIxL K) ix_list (pv 0) pe_int (fun _ _ => rfl)) pa_nil))))
    (pss_cons (ps_for PassesOwn.never rfl (pi_list (pe_cl G_law_follow (hr.mono (by omega)) rfl (pa_cons (pv 0) (pa_cons (pe_callB call_len rfl B.b_len boot_len (pa_cons (pv 1) pa_nil)) pa_nil)))) (pg_name (i := 3) sc__law_conflicts.nd rfl (Or.inl rfl)) (pss_one (ps_set (i := 2) sc__law_conflicts.nd rfl (Or.inr rfl) (pe_op op_cat (pv 2) (pe_lc (own := [("pair", 4)]) (g := gName 4) rfl sc__law_conflicts.nd (pi_list (pe_cl G_law_pairs (hr.mono (by omega)) rfl (pa_cons (pv 1) (pa_cons (pv 3) pa_nil)))) (blkOk_by (N := N__law_conflicts) (sc := defScope s__law_conflicts) (by decide +kernel)) (fun _ _ _ _ _ => pg_name (i := 4) sc__law_conflicts.nd rfl (Or.inl rfl)) (fun _ _ _ _ _ => pts_one (pt_cmpR (r := rNotInD K) (op_notInD hr.u65) (pv 4) (pv 2) rfl)) (fun _ _ _ _ _ => (pv 4)))))))
    (pss_one (ps_ret (pe_callB (cr_sortedTs (u64 hr)) rfl B.b_sorted boot_sorted (pa_cons (pv 2) pa_nil)))))), ?_⟩
  obtain ⟨f0, l0, p0, ij, h1, h2, h3, h4, h5, h6⟩ := hT.ex
  have zl : z.length = e.places := by rw [← len_toList2, hz, letters_len]
  refine ⟨_, rfl, _, rfl, t, _, 0, _, rfl, rfl, SqL.of h1, at_zero, z, f0, e, (gl e 0).fst, rfl, h40, hz, h2, (gl_rise e 0).fst, nearT_lt e 0, fun q0 ts0 ps0 H1 s1 hq0 hq0l two0 nd0 mem0 => ?_⟩
  refine ⟨_, rfl, _, rfl, _, e.places, rfl, ⟨by rw [zl]; exact Nat.le_trans h40 (by decide), zl.symm⟩, t, e, rfl, h40, hT.same s1, fun q1 fts H2 s2 hq1 hq1l twoF => ?_⟩
  refine ⟨q1, rfl, ⟨_, SqL.of hq1l⟩, for_list (K := K) (a := q1) (xs := fts) (fun m σ' H' => ∃ (q' : Addr) (o3 : Option V) (ts : List V) (ps : List (Nat × Nat)), σ' = [some (.ref t), some (.str z), some (.ref q'), o3, none] ∧ Same H H' ∧ Same H2 H' ∧ H q' = none ∧ H' q' = some (.lst ts) ∧ Two (PairT H') ts ps ∧ ps.Nodup ∧ ∀ x, x ∈ ps ↔ ∃ u ≤ m, prB e (nearT e u) x.1 x.2 = true) ?_ ?_ ?_ ?_⟩
  · refine ⟨q0, none, ts0, ps0, rfl, s1.trans s2, Same.refl _, hq0, s2 _ _ hq0l, two0.mono fun _ _ h => h.same s2, nd0, fun x => ?_⟩
    rw [mem0]
    exact ⟨fun h => ⟨0, Nat.le_refl _, h⟩, fun ⟨u, hu, h⟩ => by rw [Nat.le_zero.mp hu] at h; exact h⟩
  · rintro m σ' H' _ ⟨q', o3, ts, ps, rfl, _, s3, _⟩
    exact SqL.of (s3 _ _ hq1l)
  · rintro m v σ' H3 hv ⟨q', o3, ts, ps, rfl, S3, s3, hqn, hq', two, nd, mem⟩
    obtain ⟨i, hi, r, rfl, hr0⟩ := twoF.get hv
    have him : m < e.places := by
      have := (List.getElem?_eq_some_iff.mp hi).1
      rw [List.length_range] at this
      exact this
    have e1 : i = m := by
      rw [List.getElem?_range him] at hi
      exact (Option.some.inj hi).symm
    subst e1
    refine ⟨_, rfl, _, rfl, _, rfl, z, r, e, folAt e i, rfl, h40, hz, s3 _ _ hr0, fol_up e i, fol_lt e i, fun q2 ts2 ps2 H4 s4 hq2 hq2l two2 nd2 mem2 => ?_⟩
    refine ⟨q2, rfl, ⟨_, SqL.of hq2l⟩, fun D hD => ?_⟩
    have bps : ∀ x ∈ ps, x.1 < 40 ∧ x.2 < 40 := fun x hx => by
      obtain ⟨u, _, h⟩ := (mem x).mp hx
      have := pr_lt h
      omega
    have bps2 : ∀ x ∈ ps2, x.1 < 40 ∧ x.2 < 40 := fun x hx => by
      have := pr_lt (t := i + 1) ((mem2 x).mp hx)
      omega
    have pl := prs_len nd bps
    have pl2 := prs_len nd2 bps2
    refine lc_list (K := K) (a := q2) (xs := ts2) (fun k H' => Same H4 H' ∧ ∃ us, H' D = some (.lst us) ∧ Two (PairT H') us ((ps2.take k).filter fun x => decide (x ∉ ps))) ⟨same_upd hD, [], upd_same, .nil⟩ (fun k H' _ h => SqL.of (h.1 _ _ hq2l)) (fun k y H5 hy h => ?_) (fun H' h => ?_)
    · obtain ⟨s5, us, hus, twoU⟩ := h
      obtain ⟨x, hx, a, rfl, ha⟩ := two2.get hy
      have S5 := s4.trans s5
      have tkx : ((ps2.take (k + 1)).filter fun x => decide (x ∉ ps)) = ((ps2.take k).filter fun x => decide (x ∉ ps)) ++ (if x ∈ ps then [] else [x]) := by
        rw [take_snoc hx, List.filter_append, List.filter_cons]
        by_cases c : x ∈ ps
        · rw [if_neg (by rw [decide_eq_false (fun h => h c)]; exact Bool.false_ne_true), if_pos c]
          rfl
        · rw [if_pos (decide_eq_true c), if_neg c]
          rfl
      refine ⟨rfl, _, rfl, _, rfl, pd x, ps.map pd, pd_dp (s5 _ _ ha), .lst (SqL.of (S5 _ _ hq')) (PairsL.dp (two.mono fun _ _ h => h.same S5)), pd_shaped _, pds_shaped _, _, rfl, ?_⟩
      rw [pd_any]
      refine ite2 (fun c => ?_) (fun c => ?_)
      · have hno : x ∉ ps := fun h => by
          rw [decide_eq_true h] at c
          cases c
        refine ⟨_, rfl, us, hus, ?_, fun b o hb => ?_, us ++ [.ref a], upd_same, ?_⟩
        · rw [twoU.len]
          exact Nat.lt_of_le_of_lt (m := 1600) (Nat.le_trans (List.length_filter_le _ _) (by rw [List.length_take]; omega)) (by decide)
        · rw [upd_ne (ne_of_none hb hD)]
          exact s5 _ _ hb
        · rw [tkx, if_neg hno]
          have tk : TK H5 (upd H5 D (.lst (us ++ [.ref a]))) := TK.upd hus fun xs z => by cases z
          exact (twoU.mono fun _ _ h => h.tk tk).app (.cons ⟨a, rfl, tk _ _ (s5 _ _ ha)⟩ .nil)
      · have hyes : x ∈ ps := Classical.byContradiction fun h => c (by rw [decide_eq_false h]; rfl)
        exact ⟨s5, us, hus, by rw [tkx, if_pos hyes, List.append_nil]; exact twoU⟩
    · obtain ⟨s5, us, hus, twoU⟩ := h
      rw [two2.len, List.take_length] at twoU
      have S5 := s4.trans s5
      have ul : us.length ≤ 1600 := by
        rw [twoU.len]
        exact Nat.le_trans (List.length_filter_le _ _) pl2
      refine ⟨q', D, ts, us, rfl, rfl, S5 _ _ hq', hus, Nat.le_trans (m := 3200) (by rw [two.len]; omega) (by decide), fun r2 hr2 => ?_⟩
      have u3 := same_upd (o := .lst (ts ++ us)) hr2
      refine ⟨r2, _, _, ps ++ ps2.filter fun x => decide (x ∉ ps), rfl, S3.trans (S5.trans u3), s3.trans (S5.trans u3), ?_, upd_same, (two.mono fun _ _ h => h.same (S5.trans u3)).app (twoU.mono fun _ _ h => h.same u3), ?_, fun x => ?_⟩
      · cases hh : H r2 with
        | none => rfl
        | some u => rw [S5 _ _ (S3 _ _ hh)] at hr2; cases hr2
      · rw [List.nodup_append]
        exact ⟨nd, nd2.filter _, fun a ha b hb => by rintro rfl; exact (of_decide_eq_true (List.mem_filter.mp hb).2) ha⟩
      · rw [List.mem_append, List.mem_filter, decide_eq_true_eq, mem, mem2]
        constructor
        · rintro (⟨u, h1, h2⟩ | ⟨h, _⟩)
          · exact ⟨u, by omega, h2⟩
          · exact ⟨i + 1, Nat.le_refl _, h⟩
        · rintro ⟨u, h1, h2⟩
          by_cases c : x ∈ ps
          · exact .inl ((mem x).mp c)
          · refine .inr ⟨?_, fun h => c ((mem x).mpr h)⟩
            by_cases e2 : u = i + 1
            · rw [e2] at h2
              exact h2
            · exact absurd ((mem x).mpr ⟨u, by omega, h2⟩) c
  · rintro σ' H3 ⟨q', o3, ts, ps, rfl, S3, s3, hqn, hq', two, nd, mem⟩
    rw [twoF.len, List.length_range] at mem
    have mps := two_maps two
    have each : ∀ y ∈ ts, ∃ x, PairT H3 y x := fun y hy => by
      obtain ⟨k, hk, rfl⟩ := List.getElem_of_mem hy
      obtain ⟨x, _, h⟩ := two.get (List.getElem?_eq_getElem hk)
      exact ⟨x, h⟩
    refine ⟨_, rfl, q', ts, kV2 H3, rfl, SqL.of hq', fun y hy => ?_, .inl fun y hy => ?_, fun ys p hp hpw hpn => ?_⟩
    · obtain ⟨x, h⟩ := each y hy
      obtain ⟨a, e2, h2⟩ := id h
      exact ⟨a, e2, SqT.of (by rw [kV2_at h]; exact h2)⟩
    · obtain ⟨x, h⟩ := each y hy
      rw [kV2_at h]
      intro c
      cases c
    · have hpk := hp.map (kV2 H3)
      rw [mps] at hpk
      obtain ⟨qs, e1, e2, e3⟩ := sorted_pairs hpk (List.pairwise_map.mpr hpw) nd
      have e4 : qs = confL e := eq_of_ltP _ _ e3 (confL_sorted e) fun x => by
        rw [e2.mem_iff, mem, show x ∈ confL e ↔ _ from confL_mem (i := x.1) (j := x.2)]
      have u := same_upd (o := .lst ys) hpn
      refine q p ys _ (S3.trans u) ?_ upd_same ?_
      · cases hh : H p with
        | none => rfl
        | some u => rw [S3 _ _ hh] at hpn; cases hpn
      · rw [← e4]
        exact (two_of_map e1 fun y hy => each y (hp.mem_iff.mp hy)).mono fun _ _ h => h.same u
end
end My
namespace My
open PySem PySem.Spec PyProof.Rows L2
/-! ### what the statements about places share -/
def spLaw (K : PySem.W.Frag) : Sp := fun vs H Q _ => ∃ (s : Addr) (ns : List Int), vs = [.ref s] ∧ SqL K H s (ns.map V.int) ∧ ns.length ≤ 63 ∧ ∀ H', Q (.bl true) H'
theorem eok_of {e : E} (h : e.ok = true) (h1 : e.depth ≤ 20) (h2 : e.places ≤ 40) (h3 : e.parts ≤ 200) : Eok e := ⟨h, h1, h2, h3, by have := (cnt h).s; omega⟩
theorem cut_lets {d : Int} (h0 : 0 ≤ d) (h1 : d < 4) : Lets (cutS "abcd" none (some (1 + d))) := by
  have : d = 0 ∨ d = 1 ∨ d = 2 ∨ d = 3 := by omega
  rcases this with rfl | rfl | rfl | rfl <;> exact lets_by (by decide +kernel)
theorem cut_lets3 {d : Int} (h0 : 0 ≤ d) (h1 : d < 3) : Lets (cutS "abc" none (some (1 + d))) := by
  have : d = 0 ∨ d = 1 ∨ d = 2 := by omega
  rcases this with rfl | rfl | rfl <;> exact lets_by (by decide +kernel)
mutual
theorem lets_all : ∀ e : E, e.ok = true → ∀ c ∈ e.letters, 97 ≤ c ∧ c ≤ 100
  | .eps, _, c, h => by cases h
  | .sym d, ho, c, h => by
    rw [E.letters, List.mem_singleton] at h
    subst h
    rw [E.ok] at ho
    simp only [Bool.and_eq_true, decide_eq_true_eq] at ho
    exact ho
  | .maybe e, ho, c, h => lets_all e (by rw [E.ok] at ho; exact ho) c (by rw [E.letters] at h; exact h)
  | .many e, ho, c, h => lets_all e (by rw [E.ok] at ho; exact ho) c (by rw [E.letters] at h; exact h)
  | .join es, ho, c, h => by
    rw [E.ok, oks_eq] at ho
    simp only [Bool.and_eq_true] at ho
    exact lets_alls es ho.1.2 c (by rw [E.letters] at h; exact h)
  | .alt es, ho, c, h => by
    rw [E.ok, oks_eq] at ho
    simp only [Bool.and_eq_true] at ho
    exact lets_alls es ho.1.2 c (by rw [E.letters] at h; exact h)
theorem lets_alls : ∀ es : List E, es.all E.ok = true → ∀ c ∈ E.letters.letterss es, 97 ≤ c ∧ c ≤ 100
  | [], _, c, h => by cases h
  | e :: es, ho, c, h => by
    rw [List.all_cons, Bool.and_eq_true] at ho
    rw [E.letters.letterss] at h
    rcases List.mem_append.mp h with h | h
    · exact lets_all e ho.1 c h
    · exact lets_alls es ho.2 c h
end
theorem tabs_of {a t f l p : Addr} {ij : List (Nat × Nat)} {e : E} {H : Hp} (st : Strm H a) (ht : H t = some (.lst [.ref f, .ref l, .ref p, .bl (gl e 0).nul])) (hf : H f = some (.lst (natsV (gl e 0).fst))) (hl : H l = some (.lst (natsV (gl e 0).lst))) (hP : PairsAt H p ij) (hm : ∀ x, x ∈ ij ↔ x ∈ (gl e 0).fol) (hn : ij.length ≤ 10000) : Tabs H a t (gl e 0) := by
  obtain ⟨sl, c, k, ns', w1, w2, w3, w4⟩ := st
  refine ⟨f, l, p, ij, ht, hf, hl, hP, hm, hn, ?_, ?_, ?_, ?_⟩
  · intro c1
    rw [c1, w1] at ht
    cases ht
  · intro c1
    rw [c1, w1] at hf
    have := HO.lst.inj (Option.some.inj hf)
    cases hh : (gl e 0).fst with
    | nil => rw [hh] at this; cases this
    | cons x xs => rw [hh] at this; cases (List.cons.inj this).1
  · intro c1
    rw [c1, w1] at hl
    have := HO.lst.inj (Option.some.inj hl)
    cases hh : (gl e 0).lst with
    | nil => rw [hh] at this; cases this
    | cons x xs => rw [hh] at this; cases (List.cons.inj this).1
  · intro c1
    obtain ⟨us, u1, u2⟩ := hP.ex
    rw [c1, w1] at u1
    have e1 := HO.lst.inj (Option.some.inj u1)
    rw [← e1] at u2
    obtain ⟨q1, i1, j1, _, e2, _⟩ := u2.get (c := 1) (v := .int c) rfl
    cases e2
theorem tabF_of {a t : Addr} {e : E} {H : Hp} (h : Tabs H a t (gl e 0)) : TabF H t e := by
  obtain ⟨f, l, p, ij, h1, h2, h3, h4, h5, h6, _, _, _, _⟩ := h.ex
  exact ⟨f, l, p, ij, h1, h2, h3, h4, h5, h6⟩
theorem len_bound {e : E} {n m w : Nat} (hl : n ≤ (e.wr + 1) * (e.places * e.places)) (hw : e.wr ≤ w) (hp : e.places ≤ m) (h : (w + 1) * (m * m) ≤ 10000) : n ≤ 10000 :=
  Nat.le_trans hl (Nat.le_trans (Nat.mul_le_mul (by omega) (Nat.mul_le_mul hp hp)) h)
end My
namespace My
open PySem PySem.Spec PyProof.Rows L2
/-! ### how far a conflict is from the beginning (k17, k18, k19) -/
def hasC (e : E) (t : Nat) : Bool := (pairsN e.places).any fun x => prB e (nearT e t) x.1 x.2
/-- the nodes (0 the beginning, p + 1 the place p) with a pair of places behind k further ones -/
def lvl (e : E) : Nat → List Nat
  | 0 => (List.range (e.places + 1)).filter (hasC e)
  | k + 1 => (List.range (e.places + 1)).filter fun t => (nearT e t).any fun p => decide (p + 1 ∈ lvl e k)
theorem lvl_zero {e : E} {t : Nat} : t ∈ lvl e 0 ↔ t ≤ e.places ∧ hasC e t = true := by
  rw [lvl, List.mem_filter, List.mem_range]
  exact and_congr Nat.lt_succ_iff Iff.rfl
theorem lvl_succ {e : E} {t k : Nat} : t ∈ lvl e (k + 1) ↔ t ≤ e.places ∧ ∃ p ∈ nearT e t, p + 1 ∈ lvl e k := by
  rw [lvl, List.mem_filter, List.mem_range, List.any_eq_true]
  refine and_congr Nat.lt_succ_iff ⟨?_, ?_⟩
  · rintro ⟨p, h1, h2⟩
    exact ⟨p, h1, of_decide_eq_true h2⟩
  · rintro ⟨p, h1, h2⟩
    exact ⟨p, h1, decide_eq_true h2⟩
theorem lvl_up {e : E} {p : Nat} (h : RchE (gl e 0).fol (gl e 0).fst p) : ∀ k, p + 1 ∈ lvl e k → ∃ k, 0 ∈ lvl e k := by
  induction h with
  | base h => exact fun k hk => ⟨k + 1, lvl_succ.mpr ⟨Nat.zero_le _, _, h, hk⟩⟩
  | @step p q _ hf ih =>
    intro k hk
    have hp : p < e.places := by
      have := (gl_within e 0).fol p q hf
      omega
    exact ih (k + 1) (lvl_succ.mpr ⟨hp, q, (mem_fol e p q).mpr hf, hk⟩)
theorem hasC_iff {e : E} {t : Nat} : hasC e t = true ↔ ∃ i j, prB e (nearT e t) i j = true := by
  unfold hasC
  rw [List.any_eq_true]
  constructor
  · rintro ⟨x, _, h⟩
    exact ⟨x.1, x.2, h⟩
  · rintro ⟨i, j, h⟩
    have h2 := of_decide_eq_true h
    exact ⟨(i, j), pairsN_mem.mpr ⟨nearT_lt e t i h2.1, nearT_lt e t j h2.2.1⟩, h⟩
theorem lvl_ends {e : E} (ho : e.ok = true) (hc : confB e = true) : ∃ k, 0 ∈ lvl e k := by
  obtain ⟨x, hx⟩ : ∃ x, x ∈ confL e := by
    unfold confB at hc
    cases h : confL e with
    | nil => rw [h] at hc; cases hc
    | cons x r => exact ⟨x, List.mem_cons_self⟩
  obtain ⟨t, ht, h⟩ := confL_mem.mp (show (x.1, x.2) ∈ confL e from hx)
  have h0 : t ∈ lvl e 0 := lvl_zero.mpr ⟨ht, hasC_iff.mpr ⟨x.1, x.2, h⟩⟩
  cases t with
  | zero => exact ⟨0, h0⟩
  | succ p => exact lvl_up (gl_rch e 0 ho p (Nat.zero_le _) (by omega)) 0 h0
/-- the first level with the beginning -/
theorem lvl_first {e : E} (ho : e.ok = true) (hc : confB e = true) : ∃ k, 0 ∈ lvl e k ∧ ∀ j < k, 0 ∉ lvl e j := by
  obtain ⟨k, hk⟩ := lvl_ends ho hc
  induction k using Nat.strongRecOn with
  | ind k ih =>
    by_cases h : ∃ j < k, 0 ∈ lvl e j
    · obtain ⟨j, hj, h⟩ := h
      exact ih j hj h
    · exact ⟨k, hk, fun j hj h2 => h ⟨j, hj, h2⟩⟩
/-- without a conflict no level has a node -/
theorem lvl_none {e : E} (hc : confB e = false) : ∀ k, lvl e k = []
  | 0 => by
    refine List.eq_nil_iff_forall_not_mem.mpr fun t ht => ?_
    obtain ⟨h1, h2⟩ := lvl_zero.mp ht
    obtain ⟨i, j, h⟩ := hasC_iff.mp h2
    have := confL_mem.mpr ⟨t, h1, h⟩
    unfold confB at hc
    cases hl : confL e with
    | nil => rw [hl] at this; cases this
    | cons a b => rw [hl] at hc; cases hc
  | k + 1 => by
    refine List.eq_nil_iff_forall_not_mem.mpr fun t ht => ?_
    obtain ⟨_, p, _, h⟩ := lvl_succ.mp ht
    rw [lvl_none hc k] at h
    cases h
end My
namespace My
open PySem PySem.Spec PyProof.Rows L2
def spNumJ : Sp := fun vs H Q _ => ∃ (v : V) (a b : Int) (j : J) (n : Nat), vs = [v, .int a, .int b] ∧ RepJ H v j n ∧ Q (.bl (match intJ j with | some i => decide (a ≤ i ∧ i ≤ b) | none => false)) H
def spIsPl (C : Addr) : Sp := fun vs H Q _ => ∃ (p : Addr) (v : V) (e : E) (j : J) (n : Nat), vs = [.ref p, v] ∧ StepsAt C H p e ∧ e.places ≤ 40 ∧ RepJ H v j n ∧ Q (.bl (plJ e.places j)) H
def spIsRowS (C : Addr) : Sp := fun vs H Q _ => ∃ (p : Addr) (v : V) (e : E) (j : J) (n : Nat), vs = [.ref p, v] ∧ StepsAt C H p e ∧ e.places ≤ 40 ∧ RepJ H v j n ∧ ∀ H', Same H H' → Q (.bl (rowN e.places j).isSome) H'
section
variable {P : Program} {w : World} {K : PySem.W.Frag} {mg : Str → Option Value} {base : Heap} {a_BOUNDS a_LONG_BOUNDS : Addr} {tL tM : Tok}
end
end My
namespace My
open PySem PySem.Spec PyProof.Rows L2
def tTruK (K : PySem.W.Frag) (ta : TE) : TT := fun σ H Q => ta σ H fun x H' => ∃ k, TruV K x H' k ∧ Q k H'
theorem pt_truthN {X : Cx} {K : PySem.W.Frag} {a : Expr} {ta : TE} (hK : X.K = K) (ha : PE X a ta) (he : ∀ whole, isTrue a X.env whole = (do let v ← whole; standAt a.pos; holding [v] (truthy v))) : PT X a (tTruK K ta) := by
  subst hK
  exact pt_truth ha he
theorem pi_tupB {X : Cx} {K : PySem.W.Frag} {tg it : Expr} {ta : TE} (hK : X.K = K) (ha : PE X it ta) : PI X tg it (iTup K ta) := by
  subst hK
  exact pi_tup ha
/-- a dict's comprehension over a list that stays -/
theorem dc_listK {K : PySem.W.Frag} {a : Addr} {xs : List V} {g : TG} {tt : TT} {tk tv : TE} {vs : List Nat} {σ : L2.St} {H1 : Hp} {D : Addr} {Qd : Hp → Prop} (Pv : Nat → Hp → Prop) (h0 : Pv 0 (upd H1 D (.dK []))) (hl : ∀ i H, i ≤ xs.length → Pv i H → SqL K H a xs)
    (hs : ∀ i x H, xs[i]? = some x → Pv i H → g x (wipe σ vs) H fun σ2 H2 => wipe σ2 vs = wipe σ vs ∧ tt σ2 H2 fun b H3 =>
      if b = true then tk σ2 H3 fun y H4 => tv σ2 H4 fun z H5 => ∃ kvs k, y = kV k ∧ H5 D = some (.dK kvs) ∧ kvs.length < sizeLine ∧ Pv (i + 1) (upd H5 D (.dK (putK kvs k z))) else Pv (i + 1) H3) (hd : ∀ H, Pv xs.length H → Qd H) :
    ∃ W : Nat → Nat → Hp → Prop, (∃ m, W 0 m (upd H1 D (.dK []))) ∧ ∀ i m H, W i m H →
      ((Itl K a).stop i H ∧ Qd H) ∨ ((Itl K a).go i H ∧ ∃ Nx : Hp → Prop, (∀ H', Nx H' → ∃ m', m' < m ∧ W (i + 1) m' H') ∧ ∀ x H', (Itl K a).yld i H x H' → g x (wipe σ vs) H' fun σ2 H2 => wipe σ2 vs = wipe σ vs ∧ tt σ2 H2 fun b H3 =>
        if b = true then tk σ2 H3 fun y H4 => tv σ2 H4 fun z H5 => ∃ kvs k, y = kV k ∧ H5 D = some (.dK kvs) ∧ kvs.length < sizeLine ∧ Nx (upd H5 D (.dK (putK kvs k z))) else Nx H3) := by
  refine ⟨fun i m H => m = xs.length - i ∧ i ≤ xs.length ∧ Pv i H, ⟨xs.length, by simp, Nat.zero_le _, h0⟩, ?_⟩
  rintro i m H ⟨rfl, hi, p⟩
  have q := hl i H hi p
  by_cases hlt : i < xs.length
  · refine .inr ⟨⟨xs, xs[i], q, by simp [hlt]⟩, Pv (i + 1), fun H' p' => ⟨xs.length - (i + 1), by omega, rfl, hlt, p'⟩, fun x H' y => ?_⟩
    obtain ⟨e, y⟩ := y
    subst e
    exact hs i x _ (y xs q) p
  · have e : i = xs.length := by omega
    subst e
    exact .inl ⟨⟨xs, q, Nat.le_refl _⟩, hd H p⟩
/-! ### the levels, as the program makes them -/
theorem lvl_new {e : E} {N : Nat} (h0 : 0 ∈ lvl e N) (hm : ∀ j < N, 0 ∉ lvl e j) (j : Nat) (hj : j ≤ N) : ∃ t ∈ lvl e j, ∀ i < j, t ∉ lvl e i := by
  refine Classical.byContradiction fun hc => ?_
  have hall : ∀ t ∈ lvl e j, ∃ i < j, t ∈ lvl e i := fun t ht => Classical.byContradiction fun h => hc ⟨t, ht, fun i hi hti => h ⟨i, hi, hti⟩⟩
  have key : ∀ m, ∀ t ∈ lvl e (j + m), ∃ i < j, t ∈ lvl e i := fun m => by
    induction m with
    | zero => exact hall
    | succ m ih =>
      intro t ht
      obtain ⟨h1, p, hp, h2⟩ := lvl_succ.mp (show t ∈ lvl e (j + m + 1) from ht)
      obtain ⟨i, hi, h3⟩ := ih _ h2
      have h4 : t ∈ lvl e (i + 1) := lvl_succ.mpr ⟨h1, p, hp, h3⟩
      rcases Nat.lt_or_ge (i + 1) j with h5 | h5
      · exact ⟨i + 1, h5, h4⟩
      · exact hall t (by rw [show j = i + 1 by omega]; exact h4)
  obtain ⟨i, hi, h⟩ := key (N - j) 0 (by rw [show j + (N - j) = N by omega]; exact h0)
  exact hm i (by omega) h
theorem lvl_bd {e : E} {k t : Nat} (h : t ∈ lvl e k) : t ≤ e.places := by
  cases k with
  | zero => exact (lvl_zero.mp h).1
  | succ k => exact (lvl_succ.mp h).1
theorem lvl_le {e : E} {N : Nat} (h0 : 0 ∈ lvl e N) (hm : ∀ j < N, 0 ∉ lvl e j) : N ≤ e.places := by
  have hx : ∀ j : Nat, ∃ t : Nat, j ≤ N → t ∈ lvl e j ∧ ∀ i < j, t ∉ lvl e i := fun j => by
    by_cases hj : j ≤ N
    · obtain ⟨t, h1, h2⟩ := lvl_new h0 hm j hj
      exact ⟨t, fun _ => ⟨h1, h2⟩⟩
    · exact ⟨0, fun h => absurd h hj⟩
  have hf := fun j => Classical.choose_spec (hx j)
  generalize hg : (fun j => Classical.choose (hx j)) = f at *
  have hf : ∀ j, j ≤ N → f j ∈ lvl e j ∧ ∀ i < j, f j ∉ lvl e i := fun j => by
    rw [← hg]
    exact hf j
  have := nodup_len (e.places + 1) ((List.range (N + 1)).map fun j => (f j : Int)) ?_ fun x hx => ?_
  · rw [List.length_map, List.length_range] at this
    omega
  · refine List.pairwise_map.mpr (List.pairwise_lt_range.imp_of_mem fun {i j} hi hj hlt he => ?_)
    have hi := List.mem_range.mp hi
    have hj := List.mem_range.mp hj
    have he : f i = f j := by omega
    exact (hf j (by omega)).2 i hlt (by rw [← he]; exact (hf i (by omega)).1)
  · obtain ⟨j, hj, rfl⟩ := List.mem_map.mp hx
    have := lvl_bd (hf j (by have := List.mem_range.mp hj; omega)).1
    omega
theorem lvl_rise (e : E) (k : Nat) : (lvl e k).Pairwise (· < ·) := by
  cases k with
  | zero => exact List.pairwise_lt_range.filter _
  | succ k => exact List.pairwise_lt_range.filter _
def lvK (ts : List Nat) : List (L2.Key × V) := ts.map fun (t : Nat) => ((Sum.inl ((t : Int) - 1) : L2.Key), V.bl true)
theorem lvK_len (ts : List Nat) : (lvK ts).length = ts.length := List.length_map _
theorem lvK_val (ts : List Nat) (t : Nat) : valV (lvK ts) (Sum.inl ((t : Int) - 1) : L2.Key) = if t ∈ ts then some (.bl true) else none := by
  induction ts with
  | nil => rfl
  | cons x ts ih =>
    by_cases h : x = t
    · subst h
      rw [if_pos List.mem_cons_self]
      exact valV_pos (p := ((Sum.inl ((x : Int) - 1) : L2.Key), V.bl true)) rfl
    · have ne : ¬ (((Sum.inl ((x : Int) - 1) : L2.Key), V.bl true)).1 = Sum.inl ((t : Int) - 1) := fun e => h (by
        have := Sum.inl.inj e
        omega)
      show valV (((Sum.inl ((x : Int) - 1) : L2.Key), V.bl true) :: lvK ts) _ = _
      rw [valV_neg ne, ih]
      by_cases h2 : t ∈ ts
      · rw [if_pos h2, if_pos (List.mem_cons_of_mem _ h2)]
      · rw [if_neg h2, if_neg fun h3 => (List.mem_cons.mp h3).elim (fun h4 => h h4.symm) h2]
theorem lvK_put {ts : List Nat} {t : Nat} (h : t ∉ ts) : putK (lvK ts) (Sum.inl ((t : Int) - 1) : L2.Key) (V.bl true) = lvK (ts ++ [t]) := by
  unfold putK
  have : ((lvK ts).any fun kv => decide (kv.1 = (Sum.inl ((t : Int) - 1) : L2.Key))) = false := by
    rw [valV_any, lvK_val, if_neg h]
    rfl
  rw [this, if_neg Bool.false_ne_true]
  unfold lvK
  rw [List.map_append]
  rfl
def LvR (H : Hp) (e : E) (v : V) (k : Nat) : Prop := ∃ d, v = .ref d ∧ H d = some (.dK (lvK (lvl e k)))
theorem LvR.same {H H' : Hp} {e : E} {v : V} {k : Nat} (s : Same H H') (h : LvR H e v k) : LvR H' e v k := by
  obtain ⟨d, e1, h⟩ := h
  exact ⟨d, e1, s _ _ h⟩
def FirstLv (e : E) (N : Nat) : Prop := 0 ∈ lvl e N ∧ ∀ j < N, 0 ∉ lvl e j
def spLevels (C : Addr) : Sp := fun vs H Q _ => ∃ (p : Addr) (e : E) (N : Nat), vs = [.ref p] ∧ StepsAt C H p e ∧ e.places ≤ 40 ∧ FirstLv e N ∧
  ∀ (q : Addr) (ds : List V) H', Same H H' → H q = none → H' q = some (.lst ds) → Two (LvR H' e) ds (List.range (N + 1)) → Q (.ref q) H'
theorem hasC_len {e : E} {t : Nat} {ps : List (Nat × Nat)} (h : ∀ i j, (i, j) ∈ ps ↔ prB e (nearT e t) i j = true) : (!decide (ps.length = 0)) = hasC e t := by
  rw [show hasC e t = hasT e t from rfl, ← hasT_len h]
  cases hl : ps with
  | nil => rfl
  | cons a b => rfl
theorem take_rng {n i : Nat} (h : i < n) : (List.range n).take (i + 1) = (List.range n).take i ++ [i] := take_snoc (List.getElem?_range h)
theorem ne_hasC {e : E} {t : Nat} {H : Hp} {ts : List V} {ps : List (Nat × Nat)} (two : Two (PairT H) ts ps) (h : ∀ i j, (i, j) ∈ ps ↔ prB e (nearT e t) i j = true) : (!ts.isEmpty) = hasC e t := by
  rw [show hasC e t = hasT e t from rfl, ← hasT_len h]
  cases two with
  | nil => rfl
  | cons a b => rfl
theorem lvf_yes {g : Nat → Bool} {i : Nat} (h : g i = true) : putK (lvK ((List.range i).filter g)) (Sum.inl ((i : Int) - 1) : L2.Key) (V.bl true) = lvK ((List.range (i + 1)).filter g) := by
  rw [lvK_put fun hm => absurd (List.mem_range.mp (List.mem_filter.mp hm).1) (Nat.lt_irrefl _), List.range_succ, List.filter_append, List.filter_cons, if_pos h]
  rfl
theorem lvf_no {g : Nat → Bool} {i : Nat} (h : g i = false) : lvK ((List.range (i + 1)).filter g) = lvK ((List.range i).filter g) := by
  rw [List.range_succ, List.filter_append, List.filter_cons, if_neg (by rw [h]; exact Bool.false_ne_true)]
  rw [List.filter_nil, List.append_nil]
theorem lvf_len {g : Nat → Bool} {i : Nat} (h : i ≤ 100) : (lvK ((List.range i).filter g)).length < sizeLine := by
  rw [lvK_len]
  exact Nat.lt_of_le_of_lt (m := 100) (Nat.le_trans (List.length_filter_le _ _) (by rw [List.length_range]; exact h)) (by decide)
theorem keepD {H1 H2 H3 : Hp} {D : Addr} {o : HO} (hD : H1 D = none) (s2 : Same H1 H2) (s3 : Same H2 H3) : Same H1 (upd H3 D o) := fun b u hb => by
  rw [upd_ne (ne_of_none hb hD)]
  exact s3 _ _ (s2 _ _ hb)
section
variable {P : Program} {w : World} {K : PySem.W.Frag} {mg : Str → Option Value} {base : Heap} {a_BOUNDS a_LONG_BOUNDS : Addr} {tL tM : Tok}
abbrev N__levels : List Str := ["steps", "nodes", "levels", "latest", "node", "place"]
theorem sc__levels : FnScope ["steps", "nodes", "levels", "latest", "node", "place"] ["steps"] (defScope s__levels) := ⟨rfl, rfl, rfl, by decide +kernel, rfl, by decide +kernel, by decide +kernel⟩
set_option maxHeartbeats 2000000 in
theorem ok_levels {C f : Addr} {fd : FuncData} (T : StTxt K C) (B : Bt K mg a_BOUNDS a_LONG_BOUNDS tL tM) (Dd : Df K mg "_levels" s__levels ["steps"] f fd) (G_nodes : Cl P w K mg base 1 "_nodes" ["steps"] (spNodes C)) (G_pairs_behind : Cl P w K mg base 2 "_pairs_behind" ["steps", "node"] (spPairs C)) (G_near : Cl P w K mg base 1 "_near" ["steps", "node"] (spNear C)) : FnOk P w K mg base CX0 3 f fd ["steps"] (spLevels C) := by
  refine Dd.F.ok sc__levels (fun vs H Q Ex h => ?_) (fun cdv A outer s H vs Q Ex hr h => ?_)
  · obtain ⟨p, e, N, rfl, _⟩ := h
    rfl
  obtain ⟨p, e, N, rfl, hS, h40, hN, q⟩ := h
  refine ⟨_, (pss_cons (ps_set (i := 1) sc__levels.nd rfl (Or.inl rfl) (pe_cl G_nodes (hr.mono (by omega)) rfl (pa_cons (pv 0) pa_nil)))
    (pss_cons (ps_set (i := 2) sc__levels.nd rfl (Or.inl rfl) (pe_lst (pa_cons (pe_dc (own := [("node", 4)]) (g := gName 4) rfl sc__levels.nd (pi_list (pv 1)) (blkOk_by (N := N__levels) (sc := defScope s__levels) (by decide +kernel)) (fun _ _ _ _ _ => pg_name (i := 4) sc__levels.nd rfl (Or.inl rfl)) (fun _ _ _ _ _ => pts_one (pt_truthN (K := K) rfl (pe_cl G_pairs_behind (hr.mono (by omega)) rfl (pa_cons (pv 0) (pa_cons (pv 4) pa_nil))) (by intro _; rfl))) (fun _ _ _ _ _ => (pv 4)) (fun _ _ _ _ _ => pe_bl)) pa_nil)))
    (pss_cons (ps_while PassesOwn.never (pt_cmp (pc_dnotin (hu_of hr) (pe_glob (v := .int (-1)) rfl B.g_BEGIN ⟨_, rfl⟩) (pe_ix (r := rIxL K) ix_list (pv 2) (pe_un un_neg pe_int) (fun _ _ => rfl)))) (pss_cons (ps_set (i := 3) sc__levels.nd rfl (Or.inr rfl) (pe_ix (r := rIxL K) ix_list (pv 2) (pe_un un_neg pe_int) (fun _ _ => rfl)))
    (pss_one (ps_expr (pe_bm PySem.F.plainAttrs_list PySem.F.slot_list_append PySem.F.type_list_append mt_append (pv 2) (pa_cons (pe_dc (own := [("node", 4)]) (g := gName 4) rfl sc__levels.nd (pi_list (pv 1)) (blkOk_by (N := N__levels) (sc := defScope s__levels) (by decide +kernel)) (fun _ _ _ _ _ => pg_name (i := 4) sc__levels.nd rfl (Or.inl rfl)) (fun _ _ _ _ _ => pts_one (pt_val (pe_callB (r := rAny K) (cr_any rfl) rfl B.b_any boot_any (pa_cons (pe_lc (own := [("place", 5)]) (g := gName 5) (tt := tYes) rfl sc__levels.nd (pi_tupB rfl (pe_cl G_near (hr.mono (by omega)) rfl (pa_cons (pv 0) (pa_cons (pv 4) pa_nil)))) (blkOk_by (by kernel_rfl)) (fun _ _ _ _ _ => pg_name (i := 5) sc__levels.nd rfl (Or.inl rfl)) (fun _ _ _ _ _ => pts_nil) (fun _ _ _ _ _ => (pe_cmp (pc_din (hu_of hr) (pv 5) (pv 3)) rfl))) pa_nil)))) (fun _ _ _ _ _ => (pv 4)) (fun _ _ _ _ _ => pe_bl)) pa_nil))))))
    (pss_one (ps_ret (pv 2)))))), ?_⟩
  refine ⟨_, rfl, p, e, rfl, hS, h40, fun nq H1 s1 hnq hnl => ?_⟩
  refine ⟨_, rfl, nq, rfl, ⟨_, SqL.of hnl⟩, fun D hD => ?_⟩
  dsimp only [tNil]
  refine dc_listK (K := K) (a := nq) (fun i H' => Same H1 H' ∧ H' D = some (.dK (lvK ((List.range i).filter (hasC e))))) ⟨same_upd hD, upd_same⟩ (fun i H' _ h => SqL.of (h.1 _ _ hnl)) (fun i x H2 hx h => ?_) (fun H2 h => ?_)
  · obtain ⟨s2, hD2⟩ := h
    obtain ⟨hi, rfl⟩ := nodes_get hx
    refine ⟨rfl, _, rfl, _, rfl, p, e, i, rfl, hS.same (s1.trans s2), h40, by omega, fun q3 ts ps H3 s3 hqn hq2 two hm _ => ⟨_, .inl ⟨_, SqL.of hq2, rfl⟩, ?_⟩⟩
    rw [ne_hasC two hm]
    cases hc : hasC e i with
    | true => exact iteT ⟨_, rfl, _, Sum.inl ((i : Int) - 1), rfl, s3 _ _ hD2, lvf_len (by omega), keepD hD s2 s3, by rw [upd_same, lvf_yes hc]⟩
    | false => exact iteF ⟨s2.trans s3, by rw [lvf_no hc]; exact s3 _ _ hD2⟩
  obtain ⟨s2, hD2⟩ := h
  rw [List.length_map, List.length_range] at hD2
  have hD2 : H2 D = some (.dK (lvK (lvl e 0))) := hD2
  have S2 := s1.trans s2
  refine ⟨by show 1 ≤ sizeLine; decide, fun L hL => ?_⟩
  have u1 := same_upd (o := .lst [V.ref D]) hL
  have hLH : H L = none := S2.free hL
  refine ⟨fun n σ' H' => ∃ (m : Nat) (ds : List V) (o3 : Option V), σ' = [some (.ref p), some (.ref nq), some (.ref L), o3, none, none] ∧ Same H1 H' ∧ H' L = some (.lst ds) ∧ Two (LvR H' e) ds (List.range (m + 1)) ∧ m ≤ N ∧ n = N - m, ⟨N, 0, [V.ref D], none, rfl, s2.trans u1, upd_same, .cons ⟨D, rfl, u1 _ _ hD2⟩ .nil, Nat.zero_le _, by omega⟩, ?_⟩
  rintro n σ' H3 ⟨m, ds, o3, rfl, s3, hL3, two, hm, rfl⟩
  have dl := two.len
  rw [List.length_range] at dl
  obtain ⟨v, hv⟩ : ∃ v, ds[m]? = some v := ⟨_, List.getElem?_eq_getElem (by omega)⟩
  have hat : atI ds (-1 : Int) = some v := by
    obtain ⟨x, xs, e1⟩ : ∃ xs x, ds = xs ++ [x] := by
      rcases List.eq_nil_or_concat ds with h | ⟨a, b, h⟩
      · rw [h] at dl
        cases dl
      · exact ⟨a, b, by rw [h, List.concat_eq_append]⟩
    rw [e1]
    rw [e1, List.length_append] at dl
    rw [e1, List.getElem?_append_right (by simp at dl; omega)] at hv
    rw [atI_last, ← hv]
    simp at dl
    rw [← dl, Nat.sub_self]
    rfl
  obtain ⟨k, hk, d, rfl, hd⟩ := two.get hv
  obtain rfl : k = m := by
    rw [List.getElem?_range (by omega)] at hk
    exact (Option.some.inj hk).symm
  have dg0 := DGet.k (k := Sum.inl (((0 : Nat) : Int) - 1)) hd
  rw [lvK_val] at dg0
  have hL1 : H1 L = none := s2.free hL
  by_cases c : 0 ∈ lvl e k
  · rw [if_pos c] at dg0
    have hkN : k = N := by
      rcases Nat.lt_or_ge k N with h | h
      · exact absurd c (hN.2 k h)
      · omega
    subst hkN
    refine ⟨_, rfl, _, rfl, L, ds, -1, .ref d, rfl, rfl, SqL.of hL3, hat, d, _, rfl, dg0, _, rfl, iteF ⟨_, rfl, ?_⟩⟩
    exact q L ds H3 (s1.trans s3) hLH hL3 two
  rw [if_neg c] at dg0
  have hkN : k < N := Nat.lt_of_le_of_ne hm fun h => c (h ▸ hN.1)
  refine ⟨_, rfl, _, rfl, L, ds, -1, .ref d, rfl, rfl, SqL.of hL3, hat, d, _, rfl, dg0, _, rfl, iteT ?_⟩
  refine ⟨fun σ' H' => ∃ (ds : List V) (o3 : Option V), σ' = [some (.ref p), some (.ref nq), some (.ref L), o3, none, none] ∧ Same H1 H' ∧ H' L = some (.lst ds) ∧ Two (LvR H' e) ds (List.range (k + 2)), fun σ' H' ⟨ds, o3, e1, e2, e3, e4⟩ => ⟨N - (k + 1), by omega, k + 1, ds, o3, e1, e2, e3, e4, hkN, rfl⟩, ?_⟩
  refine ⟨_, rfl, _, rfl, L, ds, -1, .ref d, rfl, rfl, SqL.of hL3, hat, ?_⟩
  refine ⟨_, rfl, .inl ⟨rfl, _, SqL.of hL3⟩, _, rfl, nq, rfl, ⟨_, SqL.of (s3 _ _ hnl)⟩, fun D2 hD2 => ?_⟩
  dsimp only [tNil]
  refine dc_listK (K := K) (a := nq) (fun i H' => Same H3 H' ∧ H' D2 = some (.dK (lvK ((List.range i).filter (fun t => (nearT e t).any fun p => decide (p + 1 ∈ lvl e k)))))) ⟨same_upd hD2, upd_same⟩ (fun i H' _ h => SqL.of (h.1 _ _ (s3 _ _ hnl))) (fun i x H4 hx h => ?_) (fun H4 h => ?_)
  · obtain ⟨s4, hD4⟩ := h
    obtain ⟨hi, rfl⟩ := nodes_get hx
    have S4 := (s1.trans s3).trans s4
    refine ⟨rfl, _, rfl, _, rfl, p, e, i, rfl, hS.same S4, h40, by omega, fun nr hnr => ⟨nr, rfl, ⟨_, SqT.of hnr⟩, fun D3 hD3 => ?_⟩⟩
    refine lc_tupR (K := K) (a := nr) (fun j => (((nearT e i).take j).map fun p => V.bl (decide (p + 1 ∈ lvl e k)))) rfl (fun j => by rw [List.length_map, List.length_take]; have := nearT_len e i; omega) hD3 (SqT.of hnr) (fun j x H5 hx s5 fin _ => ?_) (fun H5 s5 hk5 => ?_)
    · obtain ⟨y, hy, rfl⟩ := natsV_getB hx
      have dg := DGet.k (k := Sum.inl (y : Int)) (s5 _ _ (s4 _ _ hd))
      have ev := lvK_val (lvl e k) (y + 1)
      rw [show (((y + 1 : Nat) : Int) - 1) = (y : Int) by omega] at ev
      rw [ev] at dg
      have e9 : (((nearT e i).take (j + 1)).map fun p => V.bl (decide (p + 1 ∈ lvl e k))) = (((nearT e i).take j).map fun p => V.bl (decide (p + 1 ∈ lvl e k))) ++ [V.bl (decide (y + 1 ∈ lvl e k))] := by
        rw [take_snoc hy, List.map_append]
        rfl
      refine ⟨rfl, tyes ⟨_, rfl, _, rfl, d, _, rfl, dg, fin _ _ ?_ (Same.refl _)⟩⟩
      rw [e9]
      by_cases c2 : y + 1 ∈ lvl e k
      · rw [if_pos c2, decide_eq_true c2]
        rfl
      · rw [if_neg c2, decide_eq_false c2]
        rfl
    · rw [natsV_len, List.take_length] at hk5
      refine ⟨D3, (nearT e i).map fun p => decide (p + 1 ∈ lvl e k), rfl, SqL.of (by rw [List.map_map]; exact hk5), _, rfl, ?_⟩
      rw [List.any_map]
      cases hc : (nearT e i).any fun p => decide (p + 1 ∈ lvl e k) with
      | true =>
        have hc' : (nearT e i).any (id ∘ fun p => decide (p + 1 ∈ lvl e k)) = true := hc
        rw [hc']
        exact iteT ⟨_, rfl, _, Sum.inl ((i : Int) - 1), rfl, s5 _ _ hD4, lvf_len (by omega), keepD hD2 s4 s5, by rw [upd_same, lvf_yes hc]⟩
      | false =>
        have hc' : (nearT e i).any (id ∘ fun p => decide (p + 1 ∈ lvl e k)) = false := hc
        rw [hc']
        exact iteF ⟨s4.trans s5, by rw [lvf_no hc]; exact s5 _ _ hD4⟩
  obtain ⟨s4, hD4⟩ := h
  rw [List.length_map, List.length_range] at hD4
  have hD4 : H4 D2 = some (.dK (lvK (lvl e (k + 1)))) := hD4
  refine ⟨L, ds, _, rfl, rfl, s4 _ _ hL3, ?_, ?_⟩
  · exact Nat.lt_of_le_of_lt (m := 41) (by have := lvl_le hN.1 hN.2; omega) (by decide)
  refine ⟨ds ++ [.ref D2], some (.ref d), rfl, keepD hL1 s3 s4, upd_same, ?_⟩
  have nL : ∀ (d' : Addr) kvs, H4 d' = some (.dK kvs) → (upd H4 L (.lst (ds ++ [.ref D2]))) d' = some (.dK kvs) := fun d' kvs h => by
    rw [upd_ne fun e => by rw [e, s4 _ _ hL3] at h; cases h]
    exact h
  rw [show k + 2 = k + 1 + 1 from rfl, List.range_succ]
  exact (two.mono fun v j ⟨d', e1, h⟩ => ⟨d', e1, nL _ _ (s4 _ _ h)⟩).app (.cons ⟨D2, rfl, nL _ _ hD4⟩ .nil)
end
end My
namespace My
open PySem PySem.Spec PyProof.Rows L2
/-! ### the first doubt -/
def ltN (e : E) (p : Nat) : Nat := e.letters.getD p 0
def kyP (e : E) (p : Nat) : List Int := [(ltN e p : Int), (p : Int)]
def kyR (e : E) (x : Nat × Nat) : List Int := [(ltN e x.1 : Int), (x.1 : Int), (x.2 : Int)]
def IsPick (e : E) (t : Nat) (S : List Nat) (p : Nat) : Prop := p ∈ nearT e t ∧ p + 1 ∈ S ∧ ∀ q ∈ nearT e t, q + 1 ∈ S → HT.lexLt (kyP e q) (kyP e p) = false
def IsMinPr (e : E) (t : Nat) (x : Nat × Nat) : Prop := prB e (nearT e t) x.1 x.2 = true ∧ ∀ y : Nat × Nat, prB e (nearT e t) y.1 y.2 = true → HT.lexLt (kyR e y) (kyR e x) = false
def FD (e : E) : Nat → Nat → List Nat → Nat × Nat → Prop
  | 0, t, path, x => path = [] ∧ IsMinPr e t x
  | k + 1, t, path, x => ∃ p rest, path = p :: rest ∧ IsPick e t (lvl e k) p ∧ FD e k (p + 1) rest x
theorem FD.len {e : E} : ∀ {k t : Nat} {path : List Nat} {x : Nat × Nat}, FD e k t path x → path.length = k
  | 0, _, _, _, h => by rw [h.1]; rfl
  | k + 1, _, _, _, ⟨p, rest, h, _, h2⟩ => by rw [h, List.length_cons, FD.len h2]
theorem FD.lt {e : E} : ∀ {k t : Nat} {path : List Nat} {x : Nat × Nat}, FD e k t path x → (∀ p ∈ path, p < e.places) ∧ x.1 < e.places ∧ x.2 < e.places
  | 0, t, _, _, h => by
    rw [h.1]
    exact ⟨fun p hp => (nomatch hp), pr_lt h.2.1⟩
  | k + 1, t, _, _, ⟨p, rest, h, h1, h2⟩ => by
    obtain ⟨i1, i2⟩ := FD.lt h2
    rw [h]
    refine ⟨fun q hq => ?_, i2⟩
    rcases List.mem_cons.mp hq with rfl | hq
    · exact nearT_lt e t q h1.1
    · exact i1 q hq
def FirstD (e : E) (path : List Nat) (x : Nat × Nat) : Prop := ∃ N, FirstLv e N ∧ FD e N 0 path x
theorem FirstD.bd {e : E} {path : List Nat} {x : Nat × Nat} (h : FirstD e path x) : path.length ≤ e.places ∧ (∀ p ∈ path, p < e.places) ∧ x.1 < e.places ∧ x.2 < e.places := by
  obtain ⟨N, h1, h2⟩ := h
  exact ⟨by rw [h2.len]; exact lvl_le h1.1 h1.2, h2.lt⟩
def DbtAt (H : Hp) (t : Addr) (path : List Nat) (x : Nat × Nat) : Prop := ∃ r, H t = some (.tup [.ref r, .int (x.1 : Int), .int (x.2 : Int)]) ∧ H r = some (.tup (natsV path))
def spFD0 (C : Addr) : Sp := fun vs H Q _ => ∃ (p : Addr) (e : E), vs = [.ref p] ∧ StepsAt C H p e ∧ e.places ≤ 40 ∧ e.ok = true ∧ (confB e = false → ∀ H', Same H H' → Q .non H') ∧
  (confB e = true → ∀ (t : Addr) (path : List Nat) (x : Nat × Nat) H', Same H H' → FirstD e path x → DbtAt H' t path x → Q (.ref t) H')
def spFD : Sp := fun vs H Q _ => ∃ (v : V) (e : E), vs = [v] ∧ Eok e ∧ Rep H v e.toD ∧ (confB e = false → ∀ H', Same H H' → Q .non H') ∧
  (confB e = true → ∀ (t : Addr) (path : List Nat) (x : Nat × Nat) H', Same H H' → FirstD e path x → DbtAt H' t path x → Q (.ref t) H')
def PkR (H : Hp) (e : E) (v : V) (p : Nat) : Prop := ∃ a, v = .ref a ∧ H a = some (.tup [.str ⟨#[ltN e p]⟩, .int (p : Int)])
theorem PkR.same {H H' : Hp} {e : E} {v : V} {p : Nat} (s : Same H H') (h : PkR H e v p) : PkR H' e v p := by
  obtain ⟨a, e1, h⟩ := h
  exact ⟨a, e1, s _ _ h⟩
theorem PkR.tk {H H' : Hp} {e : E} {v : V} {p : Nat} (s : TK H H') (h : PkR H e v p) : PkR H' e v p := by
  obtain ⟨a, e1, h⟩ := h
  exact ⟨a, e1, s _ _ h⟩
def PrR (H : Hp) (e : E) (v : V) (x : Nat × Nat) : Prop := ∃ a, v = .ref a ∧ H a = some (.tup [.str ⟨#[ltN e x.1]⟩, .int (x.1 : Int), .int (x.2 : Int)])
theorem PrR.tk {H H' : Hp} {e : E} {v : V} {x : Nat × Nat} (s : TK H H') (h : PrR H e v x) : PrR H' e v x := by
  obtain ⟨a, e1, h⟩ := h
  exact ⟨a, e1, s _ _ h⟩
theorem ltN_get {e : E} {p : Nat} (h : p < e.places) : e.letters[p]? = some (ltN e p) := by
  have hl : p < e.letters.length := by rw [letters_len]; exact h
  unfold ltN
  rw [List.getD_eq_getElem?_getD, List.getElem?_eq_getElem hl]
  rfl
theorem cut_last {xs : List V} {n : Nat} (h : xs.length = n + 1) : cutV xs none (some (-1)) = xs.take n := by
  unfold cutV
  rw [HT.sIx_none]
  have : HT.sIx xs.length xs.length (some (-1)) = n := by
    show (if (-1 : Int) < 0 then ((-1 : Int) + (xs.length : Int)).toNat else min (-1 : Int).toNat xs.length) = n
    rw [if_pos (by decide), h]
    omega
  rw [this, List.drop_zero, Nat.sub_zero]
theorem mem_pick {e : E} {t k : Nat} (h : t ∈ lvl e (k + 1)) : ∃ p, p ∈ (nearT e t).filter fun p => decide (p + 1 ∈ lvl e k) := by
  obtain ⟨_, p, hp, h2⟩ := lvl_succ.mp h
  exact ⟨p, List.mem_filter.mpr ⟨hp, decide_eq_true h2⟩⟩
theorem natsV_snoc2 (xs : List Nat) (x : Nat) : natsV xs ++ [V.int (x : Int)] = natsV (xs ++ [x]) := by
  unfold natsV
  rw [List.map_append]
  rfl
theorem prs_bd {e : E} {t : Nat} {ps : List (Nat × Nat)} (h : ∀ i j, (i, j) ∈ ps ↔ prB e (nearT e t) i j = true) {x : Nat × Nat} (hx : x ∈ ps) : x.1 < e.places ∧ x.2 < e.places := pr_lt ((h x.1 x.2).mp hx)
section
variable {P : Program} {w : World} {K : PySem.W.Frag} {mg : Str → Option Value} {base : Heap} {a_BOUNDS a_LONG_BOUNDS : Addr} {tL tM : Tok}
abbrev N__first_doubt : List Str := ["steps", "before", "node", "level", "_", "one", "other", "place"]
theorem sc__first_doubt : FnScope ["steps", "before", "node", "level", "_", "one", "other", "place"] ["steps"] (defScope s__first_doubt) := ⟨rfl, rfl, rfl, by decide +kernel, rfl, by decide +kernel, by decide +kernel⟩
set_option maxHeartbeats 4000000 in
theorem ok_fd0 {C f : Addr} {fd : FuncData} (T : StTxt K C) (B : Bt K mg a_BOUNDS a_LONG_BOUNDS tL tM) (Dd : Df K mg "_first_doubt" s__first_doubt ["steps"] f fd) (Ghas_conflict : Cl P w K mg base 3 "has_conflict" ["steps"] (spHasC C)) (G_levels : Cl P w K mg base 3 "_levels" ["steps"] (spLevels C)) (G_pairs_behind : Cl P w K mg base 2 "_pairs_behind" ["steps", "node"] (spPairs C)) (G_near : Cl P w K mg base 1 "_near" ["steps", "node"] (spNear C)) : FnOk P w K mg base CX0 4 f fd ["steps"] (spFD0 C) := by
  refine Dd.F.ok sc__first_doubt (fun vs H Q Ex h => ?_) (fun cdv A outer s H vs Q Ex hr h => ?_)
  · obtain ⟨p, e, rfl, _⟩ := h
    rfl
  obtain ⟨p, e, rfl, hS, h40, hok, q0, q1⟩ := h
  refine ⟨_, (pss_cons (ps_if (pt_not (pt_val (pe_cl Ghas_conflict (hr.mono (by omega)) rfl (pa_cons (pv 0) pa_nil)))) (pss_one (ps_ret pe_non)) pss_nil)
    (pss_cons (ps_set (i := 1) sc__first_doubt.nd rfl (Or.inl rfl) (pe_tup pa_nil))
    (pss_cons (ps_set (i := 2) sc__first_doubt.nd rfl (Or.inl rfl) (pe_glob (v := .int (-1)) rfl B.g_BEGIN ⟨_, rfl⟩))
    (pss_cons (ps_for PassesOwn.never rfl (RT.pi_revA rfl B.b_reversed (pe_slice sl_list (pe_cl G_levels (hr.mono (by omega)) rfl (pa_cons (pv 0) pa_nil)) po_none (po_some (pe_un un_neg pe_int)))) (pg_name (i := 3) sc__first_doubt.nd rfl (Or.inr rfl)) (pss_cons (ps_asg (pe_callB (cr_minMx rfl hr.u65) rfl B.b_min boot_min (pa_cons (pe_lc (own := [("place", 7)]) (g := gName 7) rfl sc__first_doubt.nd (pi_tup (pe_cl G_near (hr.mono (by omega)) rfl (pa_cons (pv 0) (pa_cons (pv 2) pa_nil)))) (blkOk_by (N := N__first_doubt) (sc := defScope s__first_doubt) (by decide +kernel)) (fun _ _ _ _ _ => pg_name (i := 7) sc__first_doubt.nd rfl (Or.inl rfl)) (fun _ _ _ _ _ => pts_one (pt_cmp (pc_din (hu_of hr) (pv 7) (pv 3)))) (fun _ _ _ _ _ => (pe_tup (pa_cons (pe_ix ix_str (pe_fldB (K := K) rfl (pv 0) rfl) (pv 7) (fun _ _ => rfl)) (pa_cons (pv 7) pa_nil))))) pa_nil)) (pg_tup rfl (pgs_cons (pg_name (i := 4) sc__first_doubt.nd rfl (Or.inl rfl)) (pgs_cons (pg_name (i := 2) sc__first_doubt.nd rfl (Or.inl rfl)) pgs_nil))))
    (pss_one (ps_set (i := 1) sc__first_doubt.nd rfl (Or.inl rfl) (pe_op op_catA (pv 1) (pe_tup (pa_cons (pv 2) pa_nil)))))))
    (pss_cons (ps_asg (pe_callB (cr_minMx rfl hr.u65) rfl B.b_min boot_min (pa_cons (pe_lc (own := [("one", 5), ("other", 6)]) (g := gTup K 2 (gCons (gName 5) (gCons (gName 6) gNil))) (tt := tYes) rfl sc__first_doubt.nd (pi_list (pe_cl G_pairs_behind (hr.mono (by omega)) rfl (pa_cons (pv 0) (pa_cons (pv 2) pa_nil)))) (blkOk_by (N := N__first_doubt) (sc := defScope s__first_doubt) (by decide +kernel)) (fun _ _ _ _ _ => pg_tup rfl (pgs_cons (pg_name (i := 5) sc__first_doubt.nd rfl (Or.inl rfl)) (pgs_cons (pg_name (i := 6) sc__first_doubt.nd rfl (Or.inl rfl)) pgs_nil))) (fun _ _ _ _ _ => pts_nil) (fun _ _ _ _ _ => (pe_tup (pa_cons (pe_ix ix_str (pe_fldB (K := K) rfl (pv 0) rfl) (pv 5) (fun _ _ => rfl)) (pa_cons (pv 5) (pa_cons (pv 6) pa_nil)))))) pa_nil)) (pg_tup rfl (pgs_cons (pg_name (i := 4) sc__first_doubt.nd rfl (Or.inl rfl)) (pgs_cons (pg_name (i := 5) sc__first_doubt.nd rfl (Or.inl rfl)) (pgs_cons (pg_name (i := 6) sc__first_doubt.nd rfl (Or.inl rfl)) pgs_nil)))))
    (pss_one (ps_ret (pe_tup (pa_cons (pv 1) (pa_cons (pv 5) (pa_cons (pv 6) pa_nil))))))))))), ?_⟩
  refine ⟨_, rfl, p, e, rfl, hS, h40, fun H1 s1 => ⟨_, rfl, ?_⟩⟩
  cases hc : confB e with
  | false => exact iteT (q0 hc H1 s1)
  | true =>
  obtain ⟨N, hN⟩ := lvl_first hok hc
  have hNp := lvl_le hN.1 hN.2
  refine iteF ?_
  refine ⟨Nat.zero_le _, fun b0 hb0 => ?_⟩
  have u0 := same_upd (o := .tup []) hb0
  refine ⟨_, rfl, p, e, N, rfl, hS.same (s1.trans u0), h40, hN, fun lq ds H2 s2 hlq hlql twoL => ?_⟩
  have dl := twoL.len
  rw [List.length_range] at dl
  refine ⟨1, rfl, -1, rfl, lq, ds, rfl, SqL.of hlql, fun lr hlr => ?_⟩
  rw [cut_last dl]
  have u2 := same_upd (o := .lst (ds.take N)) hlr
  have S2 := (s1.trans u0).trans (s2.trans u2)
  have twoL2 := twoL.mono fun _ _ h => LvR.same u2 h
  refine ⟨lr, ds.take N, rfl, .inl ⟨SqL.of upd_same, RT.for_Itv (K := K) (a := lr) (xs := ds.take N) (fun i σ' H' => ∃ (bq : Addr) (pre : List Nat) (t : Nat) (o3 o4 : Option V), σ' = [some (.ref p), some (.ref bq), some (.int ((t : Int) - 1)), o3, o4, none, none, none] ∧ Same (upd H2 lr (.lst (ds.take N))) H' ∧ H' bq = some (.tup (natsV pre)) ∧ pre.length = i ∧ i ≤ N ∧ t ∈ lvl e (N - i) ∧ ∀ path x, FD e (N - i) t path x → FD e N 0 (pre ++ path) x) ?_ ?_ ?_ ?_⟩⟩
  · exact ⟨b0, [], 0, none, none, rfl, Same.refl _, (s2.trans u2) _ _ upd_same, rfl, Nat.zero_le _, hN.1, fun path x h => h⟩
  · rintro i σ' H' ⟨bq, pre, t, o3, o4, rfl, s3, _⟩
    exact SqL.of (s3 _ _ upd_same)
  · rintro i v σ' H3 hi hv ⟨bq, pre, t, o3, o4, rfl, s3, hbq, hpl, hiN, ht, hfd⟩
    rw [List.length_take, dl, Nat.min_eq_left (Nat.le_succ _)] at hi hv
    have hlv : ds[N - 1 - i]? = some v := by
      rw [List.getElem?_take] at hv
      split at hv
      · exact hv
      · cases hv
    obtain ⟨k, hk, ld, rfl, hld⟩ := twoL2.get hlv
    obtain rfl : k = N - 1 - i := by
      rw [List.getElem?_range (by omega)] at hk
      exact (Option.some.inj hk).symm
    generalize hkk : N - 1 - i = k at hld
    have eN : N - i = k + 1 := by omega
    have eN2 : N - (i + 1) = k := by omega
    rw [eN] at ht hfd
    rw [eN2]
    have S3 := S2.trans s3
    have hSt := hS.same S3
    obtain ⟨dx, f1, l1, o1, z', ts1, h1, h2, h3, h4, h5, h6, h7⟩ := hSt.ex
    have hz' : z'.length = e.places := by rw [← len_toList2, h2, letters_len]
    refine ⟨_, rfl, _, rfl, p, e, t, rfl, hSt, h40, lvl_bd ht, fun nr hnr => ⟨nr, rfl, ⟨_, SqT.of hnr⟩, fun D hD => ?_⟩⟩
    refine lc_tup (K := K) (a := nr) (xs := natsV (nearT e t)) (fun j H' => Same H3 H' ∧ ∃ xs, H' D = some (.lst xs) ∧ Two (PkR H' e) xs (((nearT e t).take j).filter fun p => decide (p + 1 ∈ lvl e k))) ⟨same_upd hD, [], upd_same, .nil⟩ (fun j H' _ h => SqT.of (h.1 _ _ hnr)) (fun j x H4 hx h => ?_) (fun H4 h => ?_)
    · obtain ⟨s4, xs, hxs, two⟩ := h
      obtain ⟨y, hy, rfl⟩ := natsV_getB hx
      have hyp := nearT_lt e t y (List.mem_of_getElem? hy)
      have hat : atI z'.cps.toList (y : Int) = some (ltN e y) := by
        rw [h2]
        exact atI_nat (ltN_get hyp)
      have dg := DGet.k (k := Sum.inl (y : Int)) (s4 _ _ (s3 _ _ hld))
      have ev := lvK_val (lvl e k) (y + 1)
      rw [show (((y + 1 : Nat) : Int) - 1) = (y : Int) by omega] at ev
      rw [ev] at dg
      have tk : ((nearT e t).take (j + 1)).filter (fun p => decide (p + 1 ∈ lvl e k)) = ((nearT e t).take j).filter (fun p => decide (p + 1 ∈ lvl e k)) ++ (if y + 1 ∈ lvl e k then [y] else []) := by
        rw [take_snoc hy, List.filter_append, List.filter_cons]
        by_cases c : y + 1 ∈ lvl e k
        · rw [if_pos (decide_eq_true c), if_pos c]
          rfl
        · rw [if_neg (by rw [decide_eq_false c]; exact Bool.false_ne_true), if_neg c]
          rfl
      rw [tk]
      have xl : xs.length ≤ 40 := by
        rw [two.len]
        have := nearT_len e t
        exact Nat.le_trans (List.length_filter_le _ _) (by rw [List.length_take]; omega)
      by_cases c : y + 1 ∈ lvl e k
      · rw [if_pos c] at dg ⊢
        refine ⟨rfl, _, rfl, _, rfl, ld, _, rfl, dg, _, rfl, iteT ?_⟩
        refine ⟨_, rfl, p, C, dx, _, _, rfl, s4 _ _ h1, T.cl, T.a1, stF_letters .., _, rfl, z', (y : Int), _, rfl, rfl, by rw [hz']; exact Nat.le_trans h40 (by decide), hat, _, rfl, by show 2 ≤ sizeLine; decide, fun T1 hT1 => ?_⟩
        have u4 := same_upd (o := .tup [V.str ⟨#[ltN e y]⟩, V.int (y : Int)]) hT1
        refine ⟨xs, u4 _ _ hxs, Nat.lt_of_le_of_lt xl (by decide), keepD hD s4 u4, xs ++ [.ref T1], upd_same, ?_⟩
        have tkk : TK H4 (upd (upd H4 T1 (.tup [V.str ⟨#[ltN e y]⟩, V.int (y : Int)])) D (.lst (xs ++ [.ref T1]))) := (TK.same u4).trans (TK.upd (u4 _ _ hxs) fun xs z => by cases z)
        refine (two.mono fun _ _ h => h.tk tkk).app (.cons ⟨T1, rfl, ?_⟩ .nil)
        rw [upd_ne fun e => by rw [e, hxs] at hT1; cases hT1]
        exact upd_same
      · rw [if_neg c] at dg ⊢
        exact ⟨rfl, _, rfl, _, rfl, ld, _, rfl, dg, _, rfl, iteF ⟨s4, xs, hxs, by rw [List.append_nil]; exact two⟩⟩
    obtain ⟨s4, xs, hxs, two⟩ := h
    rw [natsV_len, List.take_length] at two
    obtain ⟨p0, hp0⟩ := mem_pick ht
    generalize hps : ((nearT e t).filter fun p => decide (p + 1 ∈ lvl e k)) = ps at two hp0
    have hmem : ∀ x, x ∈ ps ↔ x ∈ nearT e t ∧ x + 1 ∈ lvl e k := fun x => by
      rw [← hps, List.mem_filter, decide_eq_true_eq]
    refine ⟨D, xs, 1, fun i => ltN e (ps.getD i 0), fun i => [((ps.getD i 0 : Nat) : Int)], rfl, SqL.of hxs, fun h => ?_, .inl rfl, fun i x hx => ?_, fun b x hx hb => ?_⟩
    · rw [h] at two
      cases two
      cases hp0
    · obtain ⟨y, hy, a, rfl, ha⟩ := two.get hx
      have : ps.getD i 0 = y := by rw [List.getD_eq_getElem?_getD, hy]; rfl
      dsimp only
      rw [this]
      exact ⟨a, rfl, SqT.of ha, rfl⟩
    obtain ⟨y, hy, a, rfl, ha⟩ := two.get hx
    have gy : ps.getD b 0 = y := by rw [List.getD_eq_getElem?_getD, hy]; rfl
    have hym := (hmem y).mp (List.mem_of_getElem? hy)
    have pk : IsPick e t (lvl e k) y := ⟨hym.1, hym.2, fun q hq hq2 => by
      obtain ⟨j, hj⟩ := List.getElem?_of_mem ((hmem q).mpr ⟨hq, hq2⟩)
      have := hb j (by rw [two.len]; exact (List.getElem?_eq_some_iff.mp hj).1)
      have gj : ps.getD j 0 = q := by rw [List.getD_eq_getElem?_getD, hj]; rfl
      dsimp only at this
      rw [gy, gj] at this
      exact this⟩
    refine ⟨a, _, rfl, SqT.of ha, rfl, _, _, rfl, _, _, rfl, rfl, ?_⟩
    refine ⟨_, rfl, _, rfl, by show 1 ≤ sizeLine; decide, fun T2 hT2 => ?_⟩
    have u5 := same_upd (o := .tup [V.int (y : Int)]) hT2
    refine catA_of (u5 _ _ (s4 _ _ hbq)) upd_same (by rw [natsV_len]; exact Nat.le_trans (m := 41) (by show _ + 1 ≤ 41; omega) (by decide)) fun bq2 H5 s5 hbq2 => ?_
    rw [natsV_snoc2] at hbq2
    refine ⟨bq2, pre ++ [y], y + 1, _, _, by rw [show (((y + 1 : Nat) : Int) - 1) = (y : Int) by omega]; rfl, s3.trans (s4.trans (u5.trans s5)), hbq2, by rw [List.length_append, hpl]; rfl, by omega, hym.2, fun path x h => ?_⟩
    rw [List.append_assoc]
    exact hfd (y :: path) x ⟨y, path, rfl, pk, h⟩
  · rintro σ' H3 ⟨bq, pre, t, o3, o4, rfl, s3, hbq, hpl, hiN, ht, hfd⟩
    rw [List.length_take, dl, Nat.min_eq_left (Nat.le_succ _)] at hpl ht hfd
    rw [Nat.sub_self] at ht hfd
    have S3 := S2.trans s3
    have hSt := hS.same S3
    obtain ⟨dx, f1, l1, o1, z', ts1, h1, h2, h3, h4, h5, h6, h7⟩ := hSt.ex
    have hz' : z'.length = e.places := by rw [← len_toList2, h2, letters_len]
    refine ⟨_, rfl, _, rfl, p, e, t, rfl, hSt, h40, lvl_bd ht, fun q3 ts ps H4 s4 hqn hq2 two hm hl => ⟨q3, rfl, ⟨_, SqL.of hq2⟩, fun D hD => ?_⟩⟩
    have tsl := two.len
    refine lc_list (K := K) (a := q3) (xs := ts) (fun j H' => Same H4 H' ∧ ∃ xs, H' D = some (.lst xs) ∧ Two (PrR H' e) xs (ps.take j)) ⟨same_upd hD, [], upd_same, .nil⟩ (fun j H' _ h => SqL.of (h.1 _ _ hq2)) (fun j x H5 hx h => ?_) (fun H5 h => ?_)
    · obtain ⟨s5, xs, hxs, twoX⟩ := h
      obtain ⟨y, hy, a, rfl, ha⟩ := two.get hx
      have hyb := prs_bd hm (List.mem_of_getElem? hy)
      have hat : atI z'.cps.toList (y.1 : Int) = some (ltN e y.1) := by
        rw [h2]
        exact atI_nat (ltN_get hyb.1)
      refine ⟨a, _, rfl, SqT.of (s5 _ _ ha), rfl, _, _, rfl, _, _, rfl, rfl, rfl, tyes ?_⟩
      refine ⟨_, rfl, p, C, dx, _, _, rfl, s5 _ _ (s4 _ _ h1), T.cl, T.a1, stF_letters .., _, rfl, z', (y.1 : Int), _, rfl, rfl, by rw [hz']; exact Nat.le_trans h40 (by decide), hat, _, rfl, _, rfl, by show 3 ≤ sizeLine; decide, fun T1 hT1 => ?_⟩
      have u5 := same_upd (o := .tup [V.str ⟨#[ltN e y.1]⟩, V.int (y.1 : Int), V.int (y.2 : Int)]) hT1
      have xl : xs.length ≤ 64000 := by
        rw [twoX.len, List.length_take]
        omega
      refine ⟨xs, u5 _ _ hxs, Nat.lt_of_le_of_lt xl (by decide), keepD hD s5 u5, xs ++ [.ref T1], upd_same, ?_⟩
      have tkk : TK H5 (upd (upd H5 T1 (.tup [V.str ⟨#[ltN e y.1]⟩, V.int (y.1 : Int), V.int (y.2 : Int)])) D (.lst (xs ++ [.ref T1]))) := (TK.same u5).trans (TK.upd (u5 _ _ hxs) fun xs z => by cases z)
      rw [take_snoc hy]
      refine (twoX.mono fun _ _ h => h.tk tkk).app (.cons ⟨T1, rfl, ?_⟩ .nil)
      rw [upd_ne fun e => by rw [e, hxs] at hT1; cases hT1]
      exact upd_same
    obtain ⟨s5, xs, hxs, twoX⟩ := h
    rw [tsl, List.take_length] at twoX
    obtain ⟨i0, j0, hij⟩ := hasC_iff.mp (lvl_zero.mp ht).2
    have hne : (i0, j0) ∈ ps := (hm _ _).mpr hij
    refine ⟨D, xs, 2, fun i => ltN e (ps.getD i (0, 0)).1, fun i => [((ps.getD i (0, 0)).1 : Int), ((ps.getD i (0, 0)).2 : Int)], rfl, SqL.of hxs, fun h => ?_, .inr rfl, fun i x hx => ?_, fun b x hx hb => ?_⟩
    · rw [h] at twoX
      cases twoX
      cases hne
    · obtain ⟨y, hy, a, rfl, ha⟩ := twoX.get hx
      have : ps.getD i (0, 0) = y := by rw [List.getD_eq_getElem?_getD, hy]; rfl
      dsimp only
      rw [this]
      exact ⟨a, rfl, SqT.of ha, rfl⟩
    obtain ⟨y, hy, a, rfl, ha⟩ := twoX.get hx
    have gy : ps.getD b (0, 0) = y := by rw [List.getD_eq_getElem?_getD, hy]; rfl
    have mp : IsMinPr e t y := ⟨(hm y.1 y.2).mp (List.mem_of_getElem? hy), fun q hq => by
      obtain ⟨j, hj⟩ := List.getElem?_of_mem ((hm q.1 q.2).mpr hq)
      have := hb j (by rw [twoX.len]; exact (List.getElem?_eq_some_iff.mp hj).1)
      have gj : ps.getD j (0, 0) = q := by rw [List.getD_eq_getElem?_getD, hj]; rfl
      dsimp only at this
      rw [gy, gj] at this
      exact this⟩
    refine ⟨a, _, rfl, SqT.of ha, rfl, _, _, rfl, _, _, rfl, _, _, rfl, rfl, ?_⟩
    refine ⟨_, rfl, _, rfl, _, rfl, by show 3 ≤ sizeLine; decide, fun R hR => ?_⟩
    have u6 := same_upd (o := .tup [V.ref bq, V.int (y.1 : Int), V.int (y.2 : Int)]) hR
    refine q1 hc R (pre ++ []) y _ (S3.trans (s4.trans (s5.trans u6))) ⟨N, hN, hfd [] y ⟨rfl, mp⟩⟩ ⟨bq, upd_same, ?_⟩
    rw [List.append_nil]
    exact u6 _ _ (s5 _ _ (s4 _ _ hbq))
abbrev N_first_doubt : List Str := ["expression"]
theorem sc_first_doubt : FnScope ["expression"] ["expression"] (defScope s_first_doubt) := ⟨rfl, rfl, rfl, by decide +kernel, rfl, by decide +kernel, by decide +kernel⟩
theorem ok_fd {C f : Addr} {fd : FuncData} (T : StTxt K C) (B : Bt K mg a_BOUNDS a_LONG_BOUNDS tL tM) (Dd : Df K mg "first_doubt" s_first_doubt ["expression"] f fd) (Gcheck_long : Cl P w K mg base 6 "check_long" ["value"] spCheck) (Gsteps_of : Cl P w K mg base 87 "steps_of" ["expression"] (spSteps C)) (G_first_doubt : Cl P w K mg base 4 "_first_doubt" ["steps"] (spFD0 C)) : FnOk P w K mg base CX0 88 f fd ["expression"] spFD := by
  refine Dd.F.ok sc_first_doubt (fun vs H Q Ex h => ?_) (fun cdv A outer s H vs Q Ex hr h => ?_)
  · obtain ⟨v, e, rfl, _⟩ := h
    rfl
  obtain ⟨v, e, rfl, hE, hR, q0, q1⟩ := h
  refine ⟨_, (pss_cons (ps_expr (pe_cl Gcheck_long (hr.mono (by omega)) rfl (pa_cons (pv 0) pa_nil)))
    (pss_one (ps_ret (pe_cl G_first_doubt (hr.mono (by omega)) rfl (pa_cons (pe_cl Gsteps_of (hr.mono (by omega)) rfl (pa_cons (pv 0) pa_nil)) pa_nil))))), ?_⟩
  refine ⟨_, rfl, v, _, rfl, hR, fl_toD e, hE.sz, long_top hE, fun H1 s1 => ?_⟩
  refine ⟨_, rfl, v, e, rfl, hE.ok, Nat.lt_of_le_of_lt hE.dep (by decide), hE.pl, hR.pers (Pers.same s1), fun p H2 s2 S => ?_⟩
  exact ⟨p, e, rfl, S, hE.pl, hE.ok, fun hc H3 s3 => q0 hc H3 ((s1.trans s2).trans s3), fun hc t path x H3 s3 h1 h2 => q1 hc t path x H3 ((s1.trans s2).trans s3) h1 h2⟩
end
end My
namespace My
open PySem PySem.Spec PyProof.Rows L2
def jRow (r : List Nat) : J := .tup (r.map fun (x : Nat) => J.int (x : Int))
def valJ (j : J) : Nat := match intJ j with
  | some i => i.toNat
  | none => 0
theorem plJ_val {m : Nat} {j : J} (h : plJ m j = true) : j = .int ((valJ j : Nat) : Int) ∧ valJ j < m := by
  cases j with
  | int i =>
    have h : decide (0 ≤ i ∧ i < (m : Int)) = true := h
    have h := of_decide_eq_true h
    have e : valJ (.int i) = i.toNat := rfl
    rw [e]
    exact ⟨by rw [Int.toNat_of_nonneg h.1], by omega⟩
  | non => cases h
  | bl _ => cases h
  | str _ => cases h
  | tup _ => cases h
  | lst _ => cases h
theorem plJ_int {m x : Nat} (h : x < m) : plJ m (.int (x : Int)) = true := decide_eq_true ⟨by omega, by omega⟩
theorem natsV_at {xs : List Nat} {i x : Nat} (h : xs[i]? = some x) : (natsV xs)[i]? = some (V.int (x : Int)) := by
  unfold natsV
  rw [List.getElem?_map, h]
  rfl
/-! ### going along a row of places -/
def runN (e : E) : Nat → List Nat → Option Nat
  | t, [] => some t
  | t, p :: ps => if p ∈ nearT e t then runN e (p + 1) ps else none
theorem runN_app {e : E} : ∀ (ps qs : List Nat) (t : Nat), runN e t (ps ++ qs) = (runN e t ps).bind fun u => runN e u qs
  | [], qs, t => rfl
  | p :: ps, qs, t => by
    show (if p ∈ nearT e t then runN e (p + 1) (ps ++ qs) else none) = (if p ∈ nearT e t then runN e (p + 1) ps else none).bind fun u => runN e u qs
    by_cases h : p ∈ nearT e t
    · rw [if_pos h, if_pos h]
      exact runN_app ps qs (p + 1)
    · rw [if_neg h, if_neg h]
      rfl
theorem runN_le {e : E} : ∀ (ps : List Nat) (t u : Nat), runN e t ps = some u → t ≤ e.places → u ≤ e.places
  | [], t, u, h, ht => by
    cases h
    exact ht
  | p :: ps, t, u, h, ht => by
    have h : (if p ∈ nearT e t then runN e (p + 1) ps else none) = some u := h
    by_cases hp : p ∈ nearT e t
    · rw [if_pos hp] at h
      exact runN_le ps (p + 1) u h (nearT_lt e t p hp)
    · rw [if_neg hp] at h
      cases h
theorem runN_one {e : E} {t p : Nat} : (runN e t [p]).isSome = decide (p ∈ nearT e t) := by
  show (if p ∈ nearT e t then some (p + 1) else none).isSome = _
  by_cases h : p ∈ nearT e t
  · rw [if_pos h, decide_eq_true h]
    rfl
  · rw [if_neg h, decide_eq_false h]
    rfl
theorem runN_snoc {e : E} {t p : Nat} {ps : List Nat} : (runN e t (ps ++ [p])).isSome = true ↔ ∃ u, runN e t ps = some u ∧ p ∈ nearT e u := by
  rw [runN_app]
  cases h : runN e t ps with
  | none => exact ⟨fun h => (nomatch h), fun ⟨u, h, _⟩ => (nomatch h)⟩
  | some u =>
    show (runN e u [p]).isSome = true ↔ _
    rw [runN_one, decide_eq_true_eq]
    exact ⟨fun h => ⟨u, rfl, h⟩, fun ⟨v, h1, h2⟩ => by cases h1; exact h2⟩
theorem runN_steps {e : E} : ∀ (xs : List Nat) (x t : Nat), (runN e t (x :: xs)).isSome = true ↔ x ∈ nearT e t ∧ ∀ k < xs.length, (x :: xs).getD (k + 1) 0 ∈ folAt e ((x :: xs).getD k 0)
  | [], x, t => by
    rw [runN_one, decide_eq_true_eq]
    exact ⟨fun h => ⟨h, fun k hk => absurd hk (Nat.not_lt_zero _)⟩, fun h => h.1⟩
  | y :: xs, x, t => by
    have h1 : (runN e t (x :: y :: xs)).isSome = true ↔ x ∈ nearT e t ∧ (runN e (x + 1) (y :: xs)).isSome = true := by
      show (if x ∈ nearT e t then runN e (x + 1) (y :: xs) else none).isSome = true ↔ _
      by_cases h : x ∈ nearT e t
      · rw [if_pos h]
        exact ⟨fun k => ⟨h, k⟩, fun k => k.2⟩
      · rw [if_neg h]
        exact ⟨fun k => (nomatch k), fun k => absurd k.1 h⟩
    rw [h1, runN_steps xs y (x + 1)]
    refine and_congr Iff.rfl ⟨fun ⟨a, b⟩ k hk => ?_, fun h => ⟨h 0 (Nat.succ_pos _), fun k hk => h (k + 1) (Nat.succ_lt_succ hk)⟩⟩
    cases k with
    | zero => exact a
    | succ k => exact b k (by simpa using hk)
/-- the doubts of an expression, as values -/
def DJ (e : E) (j : J) : Prop := ∃ (ps : List Nat) (x : Nat × Nat) (t : Nat), j = .tup [jRow ps, .int (x.1 : Int), .int (x.2 : Int)] ∧ runN e 0 ps = some t ∧ prB e (nearT e t) x.1 x.2 = true
theorem due_iff {e : E} {ps : List Nat} {i k : Nat} : (i < k ∧ e.letters[i]? = e.letters[k]? ∧ (runN e 0 (ps ++ [i])).isSome = true ∧ (runN e 0 (ps ++ [k])).isSome = true) ↔ ∃ t, runN e 0 ps = some t ∧ prB e (nearT e t) i k = true := by
  rw [runN_snoc, runN_snoc]
  unfold prB
  constructor
  · rintro ⟨h1, h2, ⟨t, h3, h4⟩, ⟨u, h5, h6⟩⟩
    rw [h3] at h5
    cases h5
    exact ⟨t, h3, decide_eq_true ⟨h4, h6, h1, h2⟩⟩
  · rintro ⟨t, h1, h2⟩
    have h2 := of_decide_eq_true h2
    exact ⟨h2.2.2.1, h2.2.2.2, ⟨t, h1, h2.1⟩, ⟨t, h1, h2.2.1⟩⟩
theorem runN_lt {e : E} : ∀ (ps : List Nat) (t u : Nat), runN e t ps = some u → ∀ x ∈ ps, x < e.places
  | [], t, u, h, x, hx => (nomatch hx)
  | p :: ps, t, u, h, x, hx => by
    have h : (if p ∈ nearT e t then runN e (p + 1) ps else none) = some u := h
    by_cases hp : p ∈ nearT e t
    · rw [if_pos hp] at h
      rcases List.mem_cons.mp hx with rfl | hx
      · exact nearT_lt e t x hp
      · exact runN_lt ps (p + 1) u h x hx
    · rw [if_neg hp] at h
      cases h
theorem dj_conf {e : E} {j : J} (h : DJ e j) : confB e = true := by
  obtain ⟨ps, x, t, _, h1, h2⟩ := h
  have : (x.1, x.2) ∈ confL e := confL_mem.mpr ⟨t, runN_le ps 0 t h1 (Nat.zero_le _), h2⟩
  unfold confB
  cases hl : confL e with
  | nil => rw [hl] at this; cases this
  | cons a b => rfl
end My
namespace My
open PySem PySem.Spec PyProof.Rows L2
/-! ### the word of the first doubt -/
def spDW : Sp := fun vs H Q _ => ∃ (v : V) (e : E), vs = [v] ∧ Eok e ∧ Rep H v e.toD ∧ (confB e = false → ∀ H', Same H H' → Q .non H') ∧ (confB e = true → ∀ (z : Str) (path : List Nat) (x : Nat × Nat) H', Same H H' → FirstD e path x → z.cps.toList = (path ++ [x.1]).map (ltN e) → Q (.str z) H')
section
variable {P : Program} {w : World} {K : PySem.W.Frag} {mg : Str → Option Value} {base : Heap} {a_BOUNDS a_LONG_BOUNDS : Addr} {tL tM : Tok}
abbrev N_doubt_word : List Str := ["expression", "steps", "doubt", "before", "one", "_", "place"]
theorem sc_doubt_word : FnScope ["expression", "steps", "doubt", "before", "one", "_", "place"] ["expression"] (defScope s_doubt_word) := ⟨rfl, rfl, rfl, by decide +kernel, rfl, by decide +kernel, by decide +kernel⟩
theorem ok_dw {C f : Addr} {fd : FuncData} (T : StTxt K C) (B : Bt K mg a_BOUNDS a_LONG_BOUNDS tL tM) (Dd : Df K mg "doubt_word" s_doubt_word ["expression"] f fd) (Gcheck_long : Cl P w K mg base 6 "check_long" ["value"] spCheck) (Gsteps_of : Cl P w K mg base 87 "steps_of" ["expression"] (spSteps C)) (G_first_doubt : Cl P w K mg base 4 "_first_doubt" ["steps"] (spFD0 C)) : FnOk P w K mg base CX0 88 f fd ["expression"] spDW := by
  refine Dd.F.ok sc_doubt_word (fun vs H Q Ex h => ?_) (fun cdv A outer s H vs Q Ex hr h => ?_)
  · obtain ⟨v, e, rfl, _⟩ := h
    rfl
  obtain ⟨v, e, rfl, hE, hR, q0, q1⟩ := h
  refine ⟨_, (pss_cons (ps_expr (pe_cl Gcheck_long (hr.mono (by omega)) rfl (pa_cons (pv 0) pa_nil)))
    (pss_cons (ps_set (i := 1) sc_doubt_word.nd rfl (Or.inr rfl) (pe_cl Gsteps_of (hr.mono (by omega)) rfl (pa_cons (pv 0) pa_nil)))
    (pss_cons (ps_set (i := 2) sc_doubt_word.nd rfl (Or.inl rfl) (pe_cl G_first_doubt (hr.mono (by omega)) rfl (pa_cons (pv 1) pa_nil)))
    (pss_cons (ps_if (pt_cmpR op_isN (pv 2) pe_non (nomark _)) (pss_one (ps_ret pe_non)) pss_nil)
    (pss_cons (ps_asg (pv 2) (pg_tup rfl (pgs_cons (pg_name (i := 3) sc_doubt_word.nd rfl (Or.inl rfl)) (pgs_cons (pg_name (i := 4) sc_doubt_word.nd rfl (Or.inl rfl)) (pgs_cons (pg_name (i := 5) sc_doubt_word.nd rfl (Or.inl rfl)) pgs_nil)))))
    (pss_one (ps_ret (pe_join pe_str (pe_lc (own := [("place", 6)]) (g := gName 6) (tt := tYes) rfl sc_doubt_word.nd (pi_tup (pe_op op_catA (pv 3) (pe_tup (pa_cons (pv 4) pa_nil)))) (blkOk_by (N := N_doubt_word) (sc := defScope s_doubt_word) (by decide +kernel)) (fun _ _ _ _ _ => pg_name (i := 6) sc_doubt_word.nd rfl (Or.inl rfl)) (fun _ _ _ _ _ => pts_nil) (fun _ _ _ _ _ => (pe_ix ix_str (pe_fldB (K := K) rfl (pv 1) rfl) (pv 6) (fun _ _ => rfl)))))))))))), ?_⟩
  refine ⟨_, rfl, v, _, rfl, hR, fl_toD e, hE.sz, long_top hE, fun H1 s1 => ?_⟩
  refine ⟨_, rfl, v, e, rfl, hE.ok, Nat.lt_of_le_of_lt hE.dep (by decide), hE.pl, hR.pers (Pers.same s1), fun p H2 s2 S => ?_⟩
  have S2 := s1.trans s2
  refine ⟨_, rfl, p, e, rfl, S, hE.pl, hE.ok, fun hc H3 s3 => ?_, fun hc t path x H3 s3 h1 h2 => ?_⟩
  · exact ⟨_, rfl, rfl, _, rfl, iteT (q0 hc H3 (S2.trans s3))⟩
  obtain ⟨r, h2, h3⟩ := h2
  refine ⟨_, rfl, rfl, _, rfl, iteF ?_⟩
  obtain ⟨pl, pb, x1, x2⟩ := h1.bd
  have S3 := S2.trans s3
  obtain ⟨dx, f1, l1, o1, z', ts1, g1, g2, g3, g4, g5, g6, g7⟩ := (S.same s3).ex
  have hz' : z'.length = e.places := by rw [← len_toList2, g2, letters_len]
  have h40 := hE.pl
  refine ⟨_, rfl, t, _, rfl, SqT.of h2, rfl, _, _, rfl, _, _, rfl, _, _, rfl, rfl, ?_⟩
  refine ⟨⟨_, rfl⟩, _, rfl, _, rfl, by show 1 ≤ sizeLine; decide, fun Tp hT => ?_⟩
  have u4 := same_upd (o := .tup [V.int (x.1 : Int)]) hT
  refine catA_of (u4 _ _ h3) upd_same (by rw [natsV_len]; exact Nat.le_trans (m := 41) (by show path.length + 1 ≤ 41; omega) (by decide)) fun bq H4 s4 hbq => ?_
  rw [natsV_snoc2] at hbq
  have S4 := u4.trans s4
  have ln : (path ++ [x.1]).length = path.length + 1 := List.length_append
  refine ⟨bq, rfl, ⟨_, SqT.of hbq⟩, fun D hD => ?_⟩
  refine lc_tupR (K := K) (a := bq) (fun i => ((path ++ [x.1]).take i).map fun p => V.str ⟨#[ltN e p]⟩) rfl (fun i => by rw [List.length_map, List.length_take]; omega) hD (SqT.of hbq) (fun i y H5 hy s5 fin _ => ?_) (fun H5 s5 hk => ?_)
  · obtain ⟨k, hk, rfl⟩ := natsV_getB hy
    have hkp : k < e.places := by
      rcases List.mem_append.mp (List.mem_of_getElem? hk) with h | h
      · exact pb k h
      · rw [List.mem_singleton.mp h]
        exact x1
    have hat : atI z'.cps.toList (k : Int) = some (ltN e k) := by
      rw [g2]
      exact atI_nat (ltN_get hkp)
    refine ⟨rfl, tyes ⟨_, rfl, p, C, dx, _, _, rfl, s5 _ _ (S4 _ _ g1), T.cl, T.a1, stF_letters .., _, rfl, z', (k : Int), _, rfl, rfl, by rw [hz']; exact Nat.le_trans h40 (by decide), hat, fin _ _ ?_ (Same.refl _)⟩⟩
    rw [take_snoc hk, List.map_append]
    rfl
  rw [natsV_len, List.take_length] at hk
  refine ⟨sNo, D, (path ++ [x.1]).map fun p => (⟨#[ltN e p]⟩ : Str), rfl, rfl, .inl (SqL.of (by rw [List.map_map]; exact hk)), ?_, ?_⟩
  · have : ((path ++ [x.1]).map fun p => (⟨#[ltN e p]⟩ : Str)).map Str.length = List.replicate (path.length + 1) 1 := by
      rw [List.map_map, ← ln, ← List.map_const']
      rfl
    rw [this, List.sum_replicate_nat, lE]
    omega
  · refine q1 hc _ path x H5 (S3.trans (S4.trans s5)) h1 ?_
    rw [join_flat2, List.map_map]
    generalize path ++ [x.1] = cs
    induction cs with
    | nil => rfl
    | cons c cs ih =>
      rw [List.map_cons, List.flatten_cons, ih]
      rfl
end
end My
namespace My
open PySem PySem.Spec PyProof.Rows L2
/-! ### walks, and the first doubt as the least of all -/
def ndl (t : Nat) (r : List Nat) : Nat := r.foldl (fun _ p => p + 1) t
theorem ndl_snoc (t : Nat) (r : List Nat) (p : Nat) : ndl t (r ++ [p]) = p + 1 := by
  unfold ndl
  rw [List.foldl_append]
  rfl
theorem ndl_cons (t : Nat) (p : Nat) (r : List Nat) : ndl t (p :: r) = ndl (p + 1) r := rfl
def Wk (e : E) : Nat → List Nat → Prop
  | _, [] => True
  | t, p :: r => p ∈ nearT e t ∧ Wk e (p + 1) r
theorem wk_snoc {e : E} : ∀ {r : List Nat} {t p : Nat}, Wk e t (r ++ [p]) ↔ Wk e t r ∧ p ∈ nearT e (ndl t r)
  | [], t, p => by
    show (p ∈ nearT e t ∧ True) ↔ (True ∧ p ∈ nearT e t)
    exact ⟨fun h => ⟨trivial, h.1⟩, fun h => ⟨h.2, trivial⟩⟩
  | q :: r, t, p => by
    show (q ∈ nearT e t ∧ Wk e (q + 1) (r ++ [p])) ↔ ((q ∈ nearT e t ∧ Wk e (q + 1) r) ∧ p ∈ nearT e (ndl (q + 1) r))
    rw [wk_snoc]
    exact ⟨fun h => ⟨⟨h.1, h.2.1⟩, h.2.2⟩, fun h => ⟨h.1.1, h.1.2, h.2⟩⟩
theorem wk_bd {e : E} : ∀ {r : List Nat} {t : Nat}, Wk e t r → ∀ p ∈ r, p < e.places
  | [], _, _, p, hp => by cases hp
  | q :: r, t, h, p, hp => by
    rcases List.mem_cons.mp hp with rfl | hp
    · exact nearT_lt e t p h.1
    · exact wk_bd h.2 p hp
theorem ndl_bd {e : E} : ∀ {r : List Nat} {t : Nat}, t ≤ e.places → Wk e t r → ndl t r ≤ e.places
  | [], t, ht, _ => ht
  | q :: r, t, ht, h => by
    rw [ndl_cons]
    exact ndl_bd (nearT_lt e t q h.1) h.2
theorem wk_lvl {e : E} : ∀ {r : List Nat} {t : Nat} {x : Nat × Nat}, t ≤ e.places → Wk e t r → prB e (nearT e (ndl t r)) x.1 x.2 = true → t ∈ lvl e r.length
  | [], t, x, ht, _, hx => lvl_zero.mpr ⟨ht, hasC_iff.mpr ⟨x.1, x.2, hx⟩⟩
  | q :: r, t, x, ht, h, hx => lvl_succ.mpr ⟨ht, q, h.1, wk_lvl (nearT_lt e t q h.1) h.2 hx⟩
theorem same_let {e : E} {t p q : Nat} (ht : t ≤ e.places) (h0 : t ∉ lvl e 0) (hp : p ∈ nearT e t) (hq : q ∈ nearT e t) (hl : ltN e p = ltN e q) : p = q := by
  have key : ∀ a b, a ∈ nearT e t → b ∈ nearT e t → ltN e a = ltN e b → ¬ a < b := fun a b ha hb hl hab => by
    refine h0 (lvl_zero.mpr ⟨ht, hasC_iff.mpr ⟨a, b, ?_⟩⟩)
    unfold prB
    refine decide_eq_true ⟨ha, hb, hab, ?_⟩
    rw [ltN_get (nearT_lt e t a ha), ltN_get (nearT_lt e t b hb), hl]
  have h1 := key p q hp hq hl
  have h2 := key q p hq hp hl.symm
  omega
theorem lex_pair {a b c d : Int} (h : HT.lexLt [a, b] [c, d] = false) : c ≤ a ∧ (a = c → d ≤ b) := by
  rw [HT.lexLt_cons, HT.lexLt_cons] at h
  by_cases e : a = c
  · rw [if_pos e] at h
    by_cases e2 : b = d
    · omega
    · rw [if_neg e2] at h
      have := of_decide_eq_false h
      omega
  · rw [if_neg e] at h
    have := of_decide_eq_false h
    exact ⟨by omega, fun h => absurd h e⟩
/-- the greedy way has the least word -/
theorem fd_least {e : E} : ∀ {k t : Nat} {path r : List Nat} {x y : Nat × Nat}, t ≤ e.places → (∀ j < k, t ∉ lvl e j) → FD e k t path x → Wk e t r → r.length = k → prB e (nearT e (ndl t r)) y.1 y.2 = true → path.map (ltN e) < r.map (ltN e) ∨ path = r
  | 0, t, path, r, x, y, _, _, hf, _, hl, _ => by
    have hf1 : path = [] := hf.1
    rw [hf1, List.eq_nil_of_length_eq_zero hl]
    exact .inr rfl
  | k + 1, t, path, r, x, y, ht, hn, hf, hw, hl, hy => by
    obtain ⟨p, rest, rfl, hp, hf⟩ := hf
    cases r with
    | nil => cases hl
    | cons q r =>
      have hl2 : r.length = k := Nat.succ.inj hl
      have hq := hw.1
      have hqp := nearT_lt e t q hq
      have hql : q + 1 ∈ lvl e k := by
        have := wk_lvl (x := y) (show q + 1 ≤ e.places from hqp) hw.2 hy
        rw [hl2] at this
        exact this
      obtain ⟨m1, m2⟩ := lex_pair (hp.2.2 q hq hql)
      rw [List.map_cons, List.map_cons]
      by_cases c : ltN e p = ltN e q
      · obtain rfl := same_let ht (hn 0 (Nat.succ_pos k)) hp.1 hq c
        have ih := fd_least (x := x) (y := y) (show p + 1 ≤ e.places from hqp) (fun j hj h => hn (j + 1) (by omega) (lvl_succ.mpr ⟨ht, p, hq, h⟩)) hf hw.2 hl2 hy
        rcases ih with h | h
        · exact .inl (List.cons_lt_cons_iff.mpr (.inr ⟨rfl, h⟩))
        · exact .inr (by rw [h])
      · exact .inl (List.cons_lt_cons_iff.mpr (.inl (by omega)))
theorem fd_walk {e : E} : ∀ {k t : Nat} {path : List Nat} {x : Nat × Nat}, FD e k t path x → Wk e t path ∧ IsMinPr e (ndl t path) x
  | 0, t, path, x, h => by
    have h1 : path = [] := h.1
    subst h1
    exact ⟨trivial, h.2⟩
  | k + 1, t, path, x, ⟨p, rest, e1, h1, h2⟩ => by
    subst e1
    obtain ⟨a, b⟩ := fd_walk h2
    exact ⟨⟨h1.1, a⟩, b⟩
/-- rows of places, all of one length: each way's end is there, with a word that is none the greater -/
structure KpW (e : E) (m : Nat) (rs : List (List Nat)) : Prop where
  wk : ∀ r ∈ rs, Wk e 0 r ∧ r.length = m
  all : ∀ w, Wk e 0 w → w.length = m → ∃ r ∈ rs, ndl 0 r = ndl 0 w ∧ ¬ w.map (ltN e) < r.map (ltN e)
theorem kpw_zero (e : E) : KpW e 0 [[]] where
  wk r hr := by
    rw [List.mem_singleton.mp hr]
    exact ⟨trivial, rfl⟩
  all w _ hl := ⟨[], List.mem_singleton.mpr rfl, by rw [List.eq_nil_of_length_eq_zero hl], by rw [List.eq_nil_of_length_eq_zero hl]; exact List.lt_irrefl _⟩
abbrev Fnd := List Nat × Nat × Nat
def wdF (e : E) (a : Fnd) : List Nat := a.1.map (ltN e) ++ [ltN e a.2.1]
def ltF (e : E) (a b : Fnd) : Prop := wdF e a < wdF e b ∨ (wdF e a = wdF e b ∧ (a.1 < b.1 ∨ (a.1 = b.1 ∧ (a.2.1 < b.2.1 ∨ (a.2.1 = b.2.1 ∧ a.2.2 < b.2.2)))))
def IsFnd (e : E) (rs : List (List Nat)) (a : Fnd) : Prop := a.1 ∈ rs ∧ prB e (nearT e (ndl 0 a.1)) a.2.1 a.2.2 = true
theorem app_lt {v v' : List Nat} : ∀ {u u' : List Nat}, u.length = u'.length → (u ++ v < u' ++ v' ↔ u < u' ∨ (u = u' ∧ v < v'))
  | [], [], _ => by simp
  | [], _ :: _, h => by cases h
  | _ :: _, [], h => by cases h
  | a :: u, b :: u', h0 => by
    have ih := app_lt (v := v) (v' := v') (u := u) (u' := u') (Nat.succ.inj h0)
    clear h0
    rw [List.cons_append, List.cons_append, List.cons_lt_cons_iff, List.cons_lt_cons_iff, ih]
    constructor
    · rintro (h | ⟨rfl, h | ⟨rfl, h⟩⟩)
      · exact .inl (.inl h)
      · exact .inl (.inr ⟨rfl, h⟩)
      · exact .inr ⟨rfl, h⟩
    · rintro ((h | ⟨rfl, h⟩) | ⟨h1, h⟩)
      · exact .inl h
      · exact .inr ⟨rfl, .inl h⟩
      · obtain ⟨rfl, rfl⟩ := List.cons.inj h1
        exact .inr ⟨rfl, .inr ⟨rfl, h⟩⟩
theorem nat_tri : ∀ xs ys : List Nat, xs < ys ∨ xs = ys ∨ ys < xs
  | [], [] => .inr (.inl rfl)
  | [], _ :: _ => .inl (List.nil_lt_cons _ _)
  | _ :: _, [] => .inr (.inr (List.nil_lt_cons _ _))
  | x :: xs, y :: ys => by
    rcases Nat.lt_trichotomy x y with h | rfl | h
    · exact .inl (List.cons_lt_cons_iff.mpr (.inl h))
    · rcases nat_tri xs ys with h | rfl | h
      · exact .inl (List.cons_lt_cons_iff.mpr (.inr ⟨rfl, h⟩))
      · exact .inr (.inl rfl)
      · exact .inr (.inr (List.cons_lt_cons_iff.mpr (.inr ⟨rfl, h⟩)))
    · exact .inr (.inr (List.cons_lt_cons_iff.mpr (.inl h)))
theorem ltF_total {e : E} {a b : Fnd} (h1 : ¬ ltF e a b) (h2 : ¬ ltF e b a) : a = b := by
  unfold ltF at h1 h2
  have e1 : wdF e a = wdF e b := by
    rcases nat_tri (wdF e a) (wdF e b) with h | h | h
    · exact absurd (.inl h) h1
    · exact h
    · exact absurd (.inl h) h2
  have e2 : a.1 = b.1 := by
    rcases nat_tri a.1 b.1 with h | h | h
    · exact absurd (.inr ⟨e1, .inl h⟩) h1
    · exact h
    · exact absurd (.inr ⟨e1.symm, .inl h⟩) h2
  have e3 : a.2.1 = b.2.1 := by
    rcases Nat.lt_trichotomy a.2.1 b.2.1 with h | h | h
    · exact absurd (.inr ⟨e1, .inr ⟨e2, .inl h⟩⟩) h1
    · exact h
    · exact absurd (.inr ⟨e1.symm, .inr ⟨e2.symm, .inl h⟩⟩) h2
  have e4 : a.2.2 = b.2.2 := by
    rcases Nat.lt_trichotomy a.2.2 b.2.2 with h | h | h
    · exact absurd (.inr ⟨e1, .inr ⟨e2, .inr ⟨e3, h⟩⟩⟩) h1
    · exact h
    · exact absurd (.inr ⟨e1.symm, .inr ⟨e2.symm, .inr ⟨e3.symm, h⟩⟩⟩) h2
  exact Prod.ext e2 (Prod.ext e3 e4)
theorem lex_three {a b c a' b' c' : Int} (h : HT.lexLt [a, b, c] [a', b', c'] = false) : a' ≤ a ∧ (a = a' → b' ≤ b ∧ (b = b' → c' ≤ c)) := by
  rw [HT.lexLt_cons] at h
  by_cases e : a = a'
  · rw [if_pos e] at h
    obtain ⟨h1, h2⟩ := lex_pair h
    exact ⟨by omega, fun _ => ⟨h1, h2⟩⟩
  · rw [if_neg e] at h
    have := of_decide_eq_false h
    exact ⟨by omega, fun h => absurd h e⟩
/-- before the first level nothing is found -/
theorem fnd_none {e : E} {m : Nat} {rs : List (List Nat)} (hk : KpW e m rs) (hn : 0 ∉ lvl e m) (a : Fnd) : ¬ IsFnd e rs a := fun h => by
  obtain ⟨h1, h2⟩ := hk.wk a.1 h.1
  have := wk_lvl (x := a.2) (Nat.zero_le _) h1 h.2
  rw [h2] at this
  exact hn this
/-- at the first level the first doubt is found, and is the least -/
theorem fnd_first {e : E} {N : Nat} {rs : List (List Nat)} {path : List Nat} {x : Nat × Nat} (hN : FirstLv e N) (hf : FD e N 0 path x) (hk : KpW e N rs) : IsFnd e rs (path, x) ∧ ∀ a, IsFnd e rs a → ¬ ltF e a (path, x) := by
  obtain ⟨w1, w2⟩ := fd_walk hf
  have wl := hf.len
  have least : ∀ r ∈ rs, ∀ y : Nat × Nat, prB e (nearT e (ndl 0 r)) y.1 y.2 = true → path.map (ltN e) < r.map (ltN e) ∨ path = r := fun r hr y hy => by
    obtain ⟨h1, h2⟩ := hk.wk r hr
    exact fd_least (y := y) (Nat.zero_le _) hN.2 hf h1 h2 hy
  have hp : path ∈ rs := by
    obtain ⟨r, hr, e1, e2⟩ := hk.all path w1 wl
    rcases least r hr x (by rw [e1]; exact w2.1) with h | h
    · exact absurd h e2
    · rw [h]
      exact hr
  refine ⟨⟨hp, w2.1⟩, ?_⟩
  rintro ⟨r, y⟩ ⟨hr, hy⟩ hlt
  have hy : prB e (nearT e (ndl 0 r)) y.1 y.2 = true := hy
  have hr : r ∈ rs := hr
  have hl : r.length = path.length := by rw [(hk.wk r hr).2, wl]
  have hml : (r.map (ltN e)).length = (path.map (ltN e)).length := by rw [List.length_map, List.length_map, hl]
  rcases least r hr y hy with h | h
  · have hw : wdF e (path, x) < wdF e (r, y) := (app_lt hml.symm).mpr (.inl h)
    rcases hlt with h2 | ⟨h2, _⟩
    · exact List.lt_asymm hw h2
    · rw [h2] at hw
      exact List.lt_irrefl _ hw
  · subst h
    have mn := lex_three (w2.2 y hy)
    have hw : wdF e (path, y) < wdF e (path, x) ↔ ltN e y.1 < ltN e x.1 := by
      refine (app_lt rfl).trans ?_
      constructor
      · rintro (h | ⟨_, h⟩)
        · exact absurd h (List.lt_irrefl _)
        · rcases List.cons_lt_cons_iff.mp h with h | ⟨_, h⟩
          · exact h
          · exact absurd h (List.lt_irrefl _)
      · exact fun h => .inr ⟨rfl, List.cons_lt_cons_iff.mpr (.inl h)⟩
    rcases hlt with h2 | ⟨h2, h3⟩
    · have := hw.mp h2
      omega
    · have h2 : ltN e y.1 = ltN e x.1 := by
        have h4 : path.map (ltN e) ++ [ltN e y.1] = path.map (ltN e) ++ [ltN e x.1] := h2
        exact (List.cons.inj (List.append_cancel_left h4)).1
      rcases h3 with h | ⟨_, h | ⟨h, h'⟩⟩
      · exact List.lt_irrefl _ h
      · have h : y.1 < x.1 := h
        have := (mn.2 (by omega)).1
        omega
      · have h : y.1 = x.1 := h
        have h' : y.2 < x.2 := h'
        have := (mn.2 (by omega)).2 (by omega)
        omega

/-! what is sorted, as data -/
def wS (w : List Nat) : Str := ⟨w.toArray⟩
theorem wS_of {z : Str} {w : List Nat} (h : z.cps.toList = w) : z = wS w := by
  subst h
  rfl
def iD (r : List Nat) : List PyData := (r.map fun (i : Nat) => (i : Int)).map PyData.int
def encF (e : E) (a : Fnd) : PyData := .tuple [.str (wS (wdF e a)), .tuple (iD a.1), .int (a.2.1 : Int), .int (a.2.2 : Int)]
def encR (e : E) (r : List Nat) : PyData := .tuple [.str (wS (r.map (ltN e))), .tuple (iD r)]
def ltR (e : E) (a b : List Nat) : Prop := a.map (ltN e) < b.map (ltN e) ∨ (a.map (ltN e) = b.map (ltN e) ∧ a < b)
theorem cast_lt : ∀ {r s : List Nat}, (r.map fun (i : Nat) => (i : Int)) < (s.map fun (i : Nat) => (i : Int)) ↔ r < s
  | [], [] => by simp
  | [], _ :: _ => by simp
  | _ :: _, [] => by simp
  | a :: r, b :: s => by
    rw [List.map_cons, List.map_cons, List.cons_lt_cons_iff, List.cons_lt_cons_iff, cast_lt]
    exact or_congr (by omega) (and_congr (by omega) Iff.rfl)
theorem iD_eqv : ∀ {r s : List Nat}, PyData.eqv (.tuple (iD r)) (.tuple (iD s)) = decide (r = s) := by
  intro r s
  by_cases h : r = s
  · rw [h, decide_eq_true rfl]
    have : ∀ s : List Nat, PyData.eqvAll (iD s) (iD s) = true := fun s => by
      induction s with
      | nil => rfl
      | cons x s ih =>
        show (PyData.eqv (.int (x : Int)) (.int (x : Int)) && PyData.eqvAll (iD s) (iD s)) = true
        rw [ih]
        simp [PyData.eqv]
    exact this s
  · rw [decide_eq_false h]
    have : ∀ r s : List Nat, PyData.eqvAll (iD r) (iD s) = true → r = s := fun r => by
      induction r with
      | nil => intro s h; cases s with
        | nil => rfl
        | cons _ _ => cases h
      | cons x r ih =>
        intro s h
        cases s with
        | nil => cases h
        | cons y s =>
          have h : (PyData.eqv (.int (x : Int)) (.int (y : Int)) && PyData.eqvAll (iD r) (iD s)) = true := h
          rw [Bool.and_eq_true] at h
          have h1 : (x : Int) = (y : Int) := by simpa [PyData.eqv] using h.1
          rw [ih s h.2, show x = y by omega]
    cases hh : PyData.eqv (.tuple (iD r)) (.tuple (iD s)) with
    | false => rfl
    | true => exact absurd (this r s hh) h
theorem iD_lt {r s : List Nat} : PySem.W.dataLt (.tuple (iD r)) (.tuple (iD s)) = decide (r < s) := by
  rw [PySem.W.dataLt_tuple]
  exact (PySem.W.dataLt_ints _ _).trans (decide_eq_decide.mpr cast_lt)
theorem wS_eqv {w u : List Nat} : PyData.eqv (.str (wS w)) (.str (wS u)) = decide (w = u) := by
  have : (wS w = wS u) ↔ w = u := ⟨fun h => congrArg (fun s : Str => s.cps.toList) h, fun h => by rw [h]⟩
  show (wS w == wS u) = _
  by_cases h : w = u
  · rw [h, decide_eq_true rfl]
    simp
  · rw [decide_eq_false h]
    simpa using fun h2 => h (this.mp h2)
theorem wS_lt {w u : List Nat} : PySem.W.dataLt (.str (wS w)) (.str (wS u)) = decide (w < u) := by
  rw [PySem.W.dataLt_str]
  rfl
theorem al_str (x y : Str) : PySem.W.alike (.str x) (.str y) = true := by simp [PySem.W.alike]
theorem al_int (x y : Int) : PySem.W.alike (.int x) (.int y) = true := by simp [PySem.W.alike]
theorem al_row (r s : List Nat) : PySem.W.alike (.tuple (iD r)) (.tuple (iD s)) = true := by
  rw [PySem.W.alike]
  exact PySem.W.alike_ints _ _
theorem ite_lt {c : Prop} [Decidable c] {b d : Bool} {A B : Prop} (h1 : b = true ↔ A) (h2 : d = true ↔ B) (h3 : c → ¬ B) : ((if c then b else d) = true) ↔ (B ∨ (c ∧ A)) := by
  by_cases h : c
  · rw [if_pos h, h1]
    exact ⟨fun x => .inr ⟨h, x⟩, fun x => x.resolve_left (h3 h) |>.2⟩
  · rw [if_neg h, h2]
    exact ⟨.inl, fun x => x.resolve_right fun y => h y.1⟩
theorem encF_lt {e : E} {a b : Fnd} : PySem.W.dataLt (encF e a) (encF e b) = true ↔ ltF e a b := by
  unfold encF ltF
  rw [PySem.W.dataLt_tuple, PySem.W.dataLt_cons (al_str _ _), PySem.W.dataLt_cons (al_row _ _), PySem.W.dataLt_cons (al_int _ _), PySem.W.dataLt_cons (al_int _ _), wS_eqv, wS_lt, iD_eqv, iD_lt, PySem.W.dataLt_int, PySem.W.dataLt_int, PyProof.Rows.lex_irrefl]
  simp only [decide_eq_true_eq, PyData.eqv, beq_iff_eq]
  have ci : ((a.2.1 : Nat) : Int) = (b.2.1 : Int) ↔ a.2.1 = b.2.1 := by omega
  rw [← ci]
  refine ite_lt (ite_lt (ite_lt ?_ ?_ ?_) ?_ ?_) ?_ ?_
  · show (if ((a.2.2 : Nat) : Int) = (b.2.2 : Int) then false else decide (((a.2.2 : Nat) : Int) < (b.2.2 : Int))) = true ↔ a.2.2 < b.2.2
    by_cases h : ((a.2.2 : Nat) : Int) = (b.2.2 : Int)
    · rw [if_pos h]
      exact ⟨fun h => (by cases h), fun h2 => by omega⟩
    · rw [if_neg h, decide_eq_true_eq]
      omega
  · rw [decide_eq_true_eq]
    omega
  · omega
  · exact decide_eq_true_iff
  · intro h
    rw [h]
    exact List.lt_irrefl _
  · exact decide_eq_true_iff
  · intro h
    rw [h]
    exact List.lt_irrefl _
theorem encR_lt {e : E} {a b : List Nat} : PySem.W.dataLt (encR e a) (encR e b) = true ↔ ltR e a b := by
  unfold encR ltR
  rw [PySem.W.dataLt_tuple, PySem.W.dataLt_cons (al_str _ _), PySem.W.dataLt_cons (al_row _ _), wS_eqv, wS_lt, iD_eqv, iD_lt, PyProof.Rows.lex_irrefl]
  simp only [decide_eq_true_eq]
  refine ite_lt ?_ decide_eq_true_iff fun h => by rw [h]; exact List.lt_irrefl _
  by_cases h : a = b
  · rw [if_pos h, h]
    exact ⟨fun h => (by cases h), fun h => absurd h (List.lt_irrefl _)⟩
  · rw [if_neg h]
    exact decide_eq_true_iff
end My
namespace My
open PySem PySem.Spec PyProof.Rows L2
def RwAt (H : Hp) (e : E) (v : V) (r : List Nat) : Prop := ∃ a ra, v = .ref a ∧ H a = some (.tup [.str (wS (r.map (ltN e))), .ref ra]) ∧ H ra = some (.tup (natsV r))
theorem RwAt.same {H H' : Hp} {e : E} {v : V} {r : List Nat} (s : Same H H') (h : RwAt H e v r) : RwAt H' e v r := by
  obtain ⟨a, ra, e1, h1, h2⟩ := h
  exact ⟨a, ra, e1, s _ _ h1, s _ _ h2⟩
theorem RwAt.tk {H H' : Hp} {e : E} {v : V} {r : List Nat} (s : TK H H') (h : RwAt H e v r) : RwAt H' e v r := by
  obtain ⟨a, ra, e1, h1, h2⟩ := h
  exact ⟨a, ra, e1, s _ _ h1, s _ _ h2⟩
def FnAt (H : Hp) (e : E) (v : V) (a : Fnd) : Prop := ∃ b ra, v = .ref b ∧ H b = some (.tup [.str (wS (wdF e a)), .ref ra, .int (a.2.1 : Int), .int (a.2.2 : Int)]) ∧ H ra = some (.tup (natsV a.1))
theorem FnAt.same {H H' : Hp} {e : E} {v : V} {r : Fnd} (s : Same H H') (h : FnAt H e v r) : FnAt H' e v r := by
  obtain ⟨a, ra, e1, h1, h2⟩ := h
  exact ⟨a, ra, e1, s _ _ h1, s _ _ h2⟩
theorem FnAt.tk {H H' : Hp} {e : E} {v : V} {r : Fnd} (s : TK H H') (h : FnAt H e v r) : FnAt H' e v r := by
  obtain ⟨a, ra, e1, h1, h2⟩ := h
  exact ⟨a, ra, e1, s _ _ h1, s _ _ h2⟩
def longL (e : E) (rs : List (List Nat)) : List (List Nat) := rs.flatMap fun r => (nearT e (ndl 0 r)).map fun p => r ++ [p]
theorem longL_mem {e : E} {rs : List (List Nat)} {l : List Nat} : l ∈ longL e rs ↔ ∃ r ∈ rs, ∃ p ∈ nearT e (ndl 0 r), l = r ++ [p] := by
  unfold longL
  rw [List.mem_flatMap]
  refine exists_congr fun r => and_congr Iff.rfl ?_
  rw [List.mem_map]
  exact exists_congr fun p => and_congr Iff.rfl eq_comm
theorem longL_len {e : E} (h40 : e.places ≤ 40) : ∀ rs : List (List Nat), (longL e rs).length ≤ rs.length * 40
  | [] => Nat.zero_le _
  | r :: rs => by
    have ih := longL_len h40 rs
    unfold longL at ih ⊢
    rw [List.flatMap_cons, List.length_append, List.length_map, List.length_cons]
    have := nearT_len e (ndl 0 r)
    omega
theorem lvl_walk {e : E} : ∀ {k t : Nat}, t ∈ lvl e k → ∃ (w : List Nat) (x : Nat × Nat), Wk e t w ∧ w.length = k ∧ prB e (nearT e (ndl t w)) x.1 x.2 = true
  | 0, t, h => by
    obtain ⟨i, j, h⟩ := hasC_iff.mp (lvl_zero.mp h).2
    exact ⟨[], (i, j), trivial, rfl, h⟩
  | k + 1, t, h => by
    obtain ⟨_, p, hp, h⟩ := lvl_succ.mp h
    obtain ⟨w, x, h1, h2, h3⟩ := lvl_walk h
    exact ⟨p :: w, x, ⟨hp, h1⟩, by rw [List.length_cons, h2], h3⟩
theorem kpw_none {e : E} {m : Nat} {rs : List (List Nat)} (hk : KpW e m rs) (hn : ∀ a, ¬ IsFnd e rs a) : 0 ∉ lvl e m := fun h => by
  obtain ⟨w, x, h1, h2, h3⟩ := lvl_walk h
  obtain ⟨r, hr, e1, _⟩ := hk.all w h1 h2
  exact hn (r, x) ⟨hr, by show prB e (nearT e (ndl 0 r)) x.1 x.2 = true; rw [e1]; exact h3⟩
theorem firstLv_one {e : E} {i N : Nat} (h1 : 0 ∈ lvl e i) (h2 : ∀ j < i, 0 ∉ lvl e j) (h : FirstLv e N) : N = i := by
  rcases Nat.lt_trichotomy N i with h3 | h3 | h3
  · exact absurd h.1 (h2 N h3)
  · exact h3
  · exact absurd h1 (h.2 i h3)
/-- the rows that are kept -/
structure KeptW (e : E) (ss ks : List (List Nat)) : Prop where
  sub : ∀ k ∈ ks, k ∈ ss
  all : ∀ l ∈ ss, ∃ k ∈ ks, ndl 0 k = ndl 0 l ∧ ¬ ltR e l k
  nd : ks.Pairwise fun x y => ndl 0 x ≠ ndl 0 y
theorem nlt_trans {a b c : List Nat} (h1 : ¬ a < b) (h2 : ¬ b < c) : ¬ a < c := fun h => by
  rcases nat_tri b c with h3 | h3 | h3
  · exact h2 h3
  · exact h1 (h3 ▸ h)
  · exact h1 (List.lt_trans h h3)
theorem kpw_succ {e : E} {m : Nat} {rs ss ks : List (List Nat)} (hk : KpW e m rs) (hs : ∀ l, l ∈ ss ↔ l ∈ longL e rs) (hK : KeptW e ss ks) : KpW e (m + 1) ks where
  wk r hr := by
    obtain ⟨r0, h0, p, hp, rfl⟩ := longL_mem.mp ((hs r).mp (hK.sub r hr))
    obtain ⟨w1, w2⟩ := hk.wk r0 h0
    exact ⟨wk_snoc.mpr ⟨w1, hp⟩, by rw [List.length_append, w2]; rfl⟩
  all w hw hl := by
    obtain ⟨w0, p, rfl⟩ : ∃ w0 p, w = w0 ++ [p] := by
      rcases List.eq_nil_or_concat w with h | ⟨w0, p, h⟩
      · rw [h] at hl
        cases hl
      · exact ⟨w0, p, by rw [h, List.concat_eq_append]⟩
    obtain ⟨h1, h2⟩ := wk_snoc.mp hw
    have hl0 : w0.length = m := by
      rw [List.length_append] at hl
      exact Nat.succ.inj hl
    obtain ⟨r0, h0, e0, l0⟩ := hk.all w0 h1 hl0
    obtain ⟨k, hkk, e1, l1⟩ := hK.all (r0 ++ [p]) ((hs _).mpr (longL_mem.mpr ⟨r0, h0, p, by rw [e0]; exact h2, rfl⟩))
    refine ⟨k, hkk, by rw [e1, ndl_snoc, ndl_snoc], nlt_trans (b := (r0 ++ [p]).map (ltN e)) (fun h => ?_) fun h => l1 (.inl h)⟩
    rw [List.map_append, List.map_append] at h
    have hml : (w0.map (ltN e)).length = (r0.map (ltN e)).length := by rw [List.length_map, List.length_map, hl0, (hk.wk r0 h0).2]
    rcases (app_lt hml).mp h with h | ⟨_, h⟩
    · exact l0 h
    · exact List.lt_irrefl _ h
theorem kept_len {e : E} {m : Nat} {rs : List (List Nat)} (hk : KpW e m rs) (nd : rs.Pairwise fun x y => ndl 0 x ≠ ndl 0 y) : rs.length ≤ e.places + 1 := by
  have := nodup_len (e.places + 1) (rs.map fun r => ((ndl 0 r : Nat) : Int)) ?_ fun k hk' => ?_
  · rw [List.length_map] at this
    exact this
  · exact List.pairwise_map.mpr (nd.imp fun h h2 => h (by omega))
  · obtain ⟨r, hr, rfl⟩ := List.mem_map.mp hk'
    have := ndl_bd (Nat.zero_le _) (hk.wk r hr).1
    omega
/-- one more of the sorted rows is looked at -/
theorem kept_add {e : E} {ss ks : List (List Nat)} {l : List Nat} (hs : ∀ s ∈ ss, ¬ ltR e l s) (hK : KeptW e ss ks) (hn : ∀ k ∈ ks, ndl 0 k ≠ ndl 0 l) : KeptW e (ss ++ [l]) (ks ++ [l]) where
  sub k hk := by
    rcases List.mem_append.mp hk with h | h
    · exact List.mem_append_left _ (hK.sub k h)
    · exact List.mem_append_right _ h
  all x hx := by
    rcases List.mem_append.mp hx with h | h
    · obtain ⟨k, hk, h1⟩ := hK.all x h
      exact ⟨k, List.mem_append_left _ hk, h1⟩
    · rw [List.mem_singleton.mp h]
      refine ⟨l, List.mem_append_right _ (List.mem_singleton.mpr rfl), rfl, fun h => ?_⟩
      rcases h with h | ⟨_, h⟩ <;> exact List.lt_irrefl _ h
  nd := by
    rw [List.pairwise_append]
    exact ⟨hK.nd, List.pairwise_singleton _ _, fun a ha b hb => by rw [List.mem_singleton.mp hb]; exact hn a ha⟩
theorem kept_skip {e : E} {ss ks : List (List Nat)} {l : List Nat} (hs : ∀ s ∈ ss, ¬ ltR e l s) (hK : KeptW e ss ks) {k : List Nat} (hk : k ∈ ks) (h1 : ndl 0 k = ndl 0 l) : KeptW e (ss ++ [l]) ks where
  sub k hk := List.mem_append_left _ (hK.sub k hk)
  all x hx := by
    rcases List.mem_append.mp hx with h | h
    · exact hK.all x h
    · rw [List.mem_singleton.mp h]
      exact ⟨k, hk, h1, hs k (hK.sub k hk)⟩
  nd := hK.nd
theorem wS_app (w : List Nat) (c : Nat) : wS w ++ (⟨#[c]⟩ : Str) = wS (w ++ [c]) := by
  apply wS_of
  show (w.toArray ++ #[c]).toList = _
  rw [Array.toList_append]
theorem wS_len (w : List Nat) : (wS w).length = w.length := by
  show w.toArray.size = w.length
  exact List.size_toArray
theorem two_zip {α β : Type} {R : α → β → Prop} : ∀ {xs : List α} {ys : List β}, Two R xs ys → ∀ b ∈ xs.zip ys, R b.1 b.2
  | _, _, .nil, b, h => by cases h
  | _, _, .cons r t, b, h => by
    rw [List.zip_cons_cons] at h
    rcases List.mem_cons.mp h with rfl | h
    · exact r
    · exact two_zip t b h
theorem two_ofs {α β : Type} {R : α → β → Prop} : ∀ {cs : List (α × β)}, (∀ b ∈ cs, R b.1 b.2) → Two R (cs.map Prod.fst) (cs.map Prod.snd)
  | [], _ => .nil
  | c :: cs, h => .cons (h c List.mem_cons_self) (two_ofs fun b hb => h b (List.mem_cons_of_mem _ hb))
theorem dp_nats {K : PySem.W.Frag} {H : Hp} : ∀ r : List Nat, DpAll K H (natsV r) (iD r)
  | [] => .nil
  | x :: r => .cons (.int _) (dp_nats r)
theorem RwAt.dp {K : PySem.W.Frag} {H : Hp} {e : E} {v : V} {r : List Nat} (h : RwAt H e v r) : Dp K H v (encR e r) := by
  obtain ⟨a, ra, rfl, h1, h2⟩ := h
  exact .tup (SqT.of h1) (.cons (.str _) (.cons (.tup (SqT.of h2) (dp_nats r)) .nil))
theorem FnAt.dp {K : PySem.W.Frag} {H : Hp} {e : E} {v : V} {a : Fnd} (h : FnAt H e v a) : Dp K H v (encF e a) := by
  obtain ⟨b, ra, rfl, h1, h2⟩ := h
  exact .tup (SqT.of h1) (.cons (.str _) (.cons (.tup (SqT.of h2) (dp_nats a.1)) (.cons (.int _) (.cons (.int _) .nil))))
theorem iD_alike (r s : List Nat) : PySem.W.alikeAll (iD r) (iD s) = true := PySem.W.alike_ints _ _
theorem iD_depth (r : List Nat) : PyData.depthAll (iD r) = 0 := PySem.W.depth_ints _
theorem encF_alike (e : E) (a b : Fnd) : PySem.W.alike (encF e a) (encF e b) = true := by
  unfold encF
  simp [PySem.W.alike, PySem.W.alikeAll, iD_alike]
theorem encR_alike (e : E) (a b : List Nat) : PySem.W.alike (encR e a) (encR e b) = true := by
  unfold encR
  simp [PySem.W.alike, PySem.W.alikeAll, iD_alike]
theorem encF_depth (e : E) (a : Fnd) : (encF e a).depth ≤ 40 := by
  unfold encF
  simp [PyData.depth, PyData.depthAll, iD_depth]
theorem encR_depth (e : E) (a : List Nat) : (encR e a).depth ≤ 40 := by
  unfold encR
  simp [PyData.depth, PyData.depthAll, iD_depth]
/-- the least of what is found is the first doubt -/
theorem found_least {e : E} {N : Nat} {rs : List (List Nat)} {fs : List Fnd} {c : Fnd} (hk : KpW e N rs) (hn : ∀ j < N, 0 ∉ lvl e j) (mem : ∀ a, a ∈ fs ↔ IsFnd e rs a) (hc : c ∈ fs) (hm : ∀ a ∈ fs, ¬ ltF e a c) : confB e = true ∧ ∀ path x, FirstD e path x → c = (path, x) := by
  have hcf := (mem c).mp hc
  obtain ⟨w1, w2⟩ := hk.wk c.1 hcf.1
  have h0 : 0 ∈ lvl e N := by
    have := wk_lvl (x := c.2) (Nat.zero_le _) w1 hcf.2
    rw [w2] at this
    exact this
  refine ⟨?_, fun path x ⟨M, h1, h2⟩ => ?_⟩
  · cases h : confB e with
    | true => rfl
    | false =>
      rw [lvl_none h N] at h0
      cases h0
  · obtain rfl := firstLv_one h0 hn h1
    obtain ⟨g1, g2⟩ := fnd_first h1 h2 hk
    exact ltF_total (g2 c hcf) (hm _ ((mem _).mpr g1))
theorem iD_any (x : Nat) : ∀ r : List Nat, ((iD r).any fun z => PyData.eqv z (.int (x : Int))) = decide (x ∈ r)
  | [] => rfl
  | y :: r => by
    show (PyData.eqv (.int (y : Int)) (.int (x : Int)) || (iD r).any fun z => PyData.eqv z (.int (x : Int))) = _
    rw [iD_any x r]
    have : PyData.eqv (.int (y : Int)) (.int (x : Int)) = decide (x = y) := by
      by_cases h : x = y
      · rw [h]
        simp [PyData.eqv]
      · rw [decide_eq_false h]
        simp only [PyData.eqv, beq_eq_false_iff_ne, ne_eq]
        omega
    rw [this, ← Bool.decide_or]
    exact decide_eq_decide.mpr List.mem_cons.symm
theorem int_shaped (x : Int) : SeqAt.shaped (.int x) = true := by
  unfold SeqAt.shaped
  simp [PyData.canLay0, PyData.depth]
theorem iD_lay : ∀ r : List Nat, PyData.canLayAll0 (iD r) = true
  | [] => rfl
  | x :: r => by
    show PyData.canLayAll0 (.int (x : Int) :: iD r) = true
    rw [PyData.canLayAll0, iD_lay r]
    simp [PyData.canLay0]
theorem iD_shaped (r : List Nat) : SeqAt.shaped (.list (iD r)) = true := by
  unfold SeqAt.shaped
  rw [PyData.canLay0, PyData.depth, iD_lay r, show PyData.depthAll (iD r) = 0 from PySem.W.depth_ints _]
  rfl
def lstP (k : List Nat) : Nat := ndl 0 k - 1
theorem lstP_snoc (r : List Nat) (p : Nat) : lstP (r ++ [p]) = p := by
  unfold lstP
  rw [ndl_snoc]
  exact Nat.add_sub_cancel ..
theorem last_in {e : E} {rs ks : List (List Nat)} {r0 : List Nat} {p : Nat} (hs : ∀ k ∈ ks, k ∈ longL e rs) : p ∈ ks.map lstP ↔ ∃ k ∈ ks, ndl 0 k = ndl 0 (r0 ++ [p]) := by
  rw [List.mem_map]
  refine exists_congr fun k => ⟨fun h => ⟨h.1, ?_⟩, fun h => ⟨h.1, ?_⟩⟩
  · obtain ⟨r, _, q, _, rfl⟩ := longL_mem.mp (hs k h.1)
    rw [ndl_snoc, ndl_snoc, ← h.2, lstP_snoc]
  · obtain ⟨r, _, q, _, rfl⟩ := longL_mem.mp (hs k h.1)
    have := h.2
    rw [ndl_snoc, ndl_snoc] at this
    rw [lstP_snoc]
    omega
theorem kpw_all {e : E} {m : Nat} {rs : List (List Nat)} (hk : KpW e m rs) : KpW e (m + 1) (longL e rs) where
  wk r hr := by
    obtain ⟨r0, h0, p, hp, rfl⟩ := longL_mem.mp hr
    obtain ⟨w1, w2⟩ := hk.wk r0 h0
    exact ⟨wk_snoc.mpr ⟨w1, hp⟩, by rw [List.length_append, w2]; rfl⟩
  all w hw hl := by
    obtain ⟨w0, p, rfl⟩ : ∃ w0 p, w = w0 ++ [p] := by
      rcases List.eq_nil_or_concat w with h | ⟨w0, p, h⟩
      · rw [h] at hl
        cases hl
      · exact ⟨w0, p, by rw [h, List.concat_eq_append]⟩
    obtain ⟨h1, h2⟩ := wk_snoc.mp hw
    have hl0 : w0.length = m := by
      rw [List.length_append] at hl
      exact Nat.succ.inj hl
    obtain ⟨r0, h0, e0, l0⟩ := hk.all w0 h1 hl0
    refine ⟨r0 ++ [p], longL_mem.mpr ⟨r0, h0, p, by rw [e0]; exact h2, rfl⟩, by rw [ndl_snoc, ndl_snoc], fun h => ?_⟩
    rw [List.map_append, List.map_append] at h
    have hml : (w0.map (ltN e)).length = (r0.map (ltN e)).length := by rw [List.length_map, List.length_map, hl0, (hk.wk r0 h0).2]
    rcases (app_lt hml).mp h with h | ⟨_, h⟩
    · exact l0 h
    · exact List.lt_irrefl _ h
def TpAt (H : Hp) (v : V) (r : List Nat) : Prop := ∃ a, v = .ref a ∧ H a = some (.tup (natsV r))
theorem TpAt.same {H H' : Hp} {v : V} {r : List Nat} (s : Same H H') (h : TpAt H v r) : TpAt H' v r := by
  obtain ⟨a, e1, h1⟩ := h
  exact ⟨a, e1, s _ _ h1⟩
theorem TpAt.tk {H H' : Hp} {v : V} {r : List Nat} (s : TK H H') (h : TpAt H v r) : TpAt H' v r := by
  obtain ⟨a, e1, h1⟩ := h
  exact ⟨a, e1, s _ _ h1⟩
def DuF (H : Hp) (e : E) (dv : V) : Prop := ∃ c : Fnd, FnAt H e dv c ∧ confB e = true ∧ ∀ path x, FirstD e path x → c = (path, x)
theorem DuF.same {H H' : Hp} {e : E} {v : V} (s : Same H H') (h : DuF H e v) : DuF H' e v := by
  obtain ⟨c, h1, h2⟩ := h
  exact ⟨c, h1.same s, h2⟩
theorem DuF.ref {H : Hp} {e : E} {v : V} (h : DuF H e v) : ∃ a, v = .ref a := by
  obtain ⟨c, ⟨b, ra, h1, _⟩, _⟩ := h
  exact ⟨b, h1⟩
end My
namespace My
open PySem PySem.Spec PyProof.Rows L2
theorem repJ_two {H : Hp} {p : Addr} {xs : List V} {js : List J} {n : Nat} (h : H p = some (.tup xs)) (z : xs.length ≤ 100000) (two : Two (fun x j => RepJ H x j n) xs js) : RepJ H (.ref p) (.tup js) (n + 1) := .tup h z two.len fun _ _ _ hx hj => two.get2 hx hj
def dbtJ (path : List Nat) (x : Nat × Nat) : J := .tup [jRow path, .int (x.1 : Int), .int (x.2 : Int)]
theorem dbt_rep {H : Hp} {t : Addr} {path : List Nat} {x : Nat × Nat} (hl : path.length ≤ 100000) (h : DbtAt H t path x) : RepJ H (.ref t) (dbtJ path x) 2 := by
  obtain ⟨r, h1, h2⟩ := h
  refine repJ_two h1 (by show 3 ≤ 100000; decide) (.cons (repJ_two h2 (by rw [natsV_len]; exact hl) ?_) (.cons (.int _) (.cons (.int _) .nil)))
  have : ∀ l : List Nat, Two (fun x j => RepJ H x j 0) (natsV l) (l.map fun (x : Nat) => J.int (x : Int)) := fun l => by
    induction l with
    | nil => exact .nil
    | cons x l ih => exact .cons (.int _) ih
  exact this path
theorem dbtR {H : Hp} {t r : Addr} {path : List Nat} {x : Nat × Nat} (hl : path.length ≤ 100000) (h1 : H t = some (.tup [.ref r, .int (x.1 : Int), .int (x.2 : Int)])) (h2 : H r = some (.tup (natsV path))) : RepJ H (.ref t) (dbtJ path x) 2 := dbt_rep hl ⟨r, h1, h2⟩
section
variable {P : Program} {w : World} {K : PySem.W.Frag} {mg : Str → Option Value} {base : Heap} {a_BOUNDS a_LONG_BOUNDS : Addr} {tL tM : Tok}
abbrev N_law : List Str := ["script", "stream", "expression", "letters", "tables", "follow", "due", "rows", "turn", "found", "longer", "row", "behind", "word", "told", "place", "one", "other"]
theorem sc_law : FnScope ["script", "stream", "expression", "letters", "tables", "follow", "due", "rows", "turn", "found", "longer", "row", "behind", "word", "told", "place", "one", "other"] ["script"] (defScope s_law) := ⟨rfl, rfl, rfl, by decide +kernel, rfl, by decide +kernel, by decide +kernel⟩
set_option maxHeartbeats 8000000 in
theorem ok_law {f : Addr} {fd : FuncData} (B : Bt K mg a_BOUNDS a_LONG_BOUNDS tL tM) (Dd : Df K mg "law" s_law ["script"] f fd)
    (G_law_stream : Cl P w K mg base 1 "_law_stream" ["script"] (spStream K)) (G_law_next : Cl P w K mg base 1 "_law_next" ["stream", "many"] spNext) (G_law_expression : Cl P w K mg base 2 "_law_expression" ["stream", "most", "letters"] spExp2)
    (G_law_letters : Cl P w K mg base 13 "_law_letters" ["expression"] (spLet2 13)) (G_law_tables : Cl P w K mg base 13 "_law_tables" ["expression", "shift"] (spTab 13))
    (G_law_follow : Cl P w K mg base 1 "_law_follow" ["tables", "many"] spFollow) (G_law_pairs : Cl P w K mg base 1 "_law_pairs" ["letters", "places"] spLPairs) (G_law_equal : Cl P w K mg base 6 "_law_equal" ["actual", "due"] (spEqual 5))
    (Gfirst_doubt : Cl P w K mg base 88 "first_doubt" ["expression"] spFD) (Gdoubt_word : Cl P w K mg base 88 "doubt_word" ["expression"] spDW) (Gis_sure : Cl P w K mg base 88 "is_sure" ["expression"] spSure) : FnOk P w K mg base CX0 90 f fd ["script"] (spLaw K) := by
  refine Dd.F.ok sc_law (fun vs H Q Ex h => ?_) (fun cdv A outer s H vs Q Ex hr h => ?_)
  · obtain ⟨s, ns, rfl, _⟩ := h
    rfl
  obtain ⟨s, ns, rfl, hs, hn, q⟩ := h
  refine ⟨_, (pss_cons (ps_set (i := 1) sc_law.nd rfl (Or.inl rfl) (pe_cl G_law_stream (hr.mono (by omega)) rfl (pa_cons (pv 0) pa_nil)))
    (pss_cons (ps_set (i := 2) sc_law.nd rfl (Or.inl rfl) (pe_cl G_law_expression (hr.mono (by omega)) rfl (pa_cons (pv 1) (pa_cons pe_int (pa_cons (pe_slice sl_str pe_str po_none (po_some (pe_op op_add pe_int (pe_cl G_law_next (hr.mono (by omega)) rfl (pa_cons (pv 1) (pa_cons pe_int pa_nil)))))) pa_nil)))))
    (pss_cons (ps_set (i := 3) sc_law.nd rfl (Or.inr rfl) (pe_cl G_law_letters (hr.mono (by omega)) rfl (pa_cons (pv 2) pa_nil)))
    (pss_cons (ps_set (i := 4) sc_law.nd rfl (Or.inl rfl) (pe_cl G_law_tables (hr.mono (by omega)) rfl (pa_cons (pv 2) (pa_cons pe_int pa_nil))))
    (pss_cons (ps_set (i := 5) sc_law.nd rfl (Or.inl rfl) (pe_cl G_law_follow (hr.mono (by omega)) rfl (pa_cons (pv 4) (pa_cons (pe_callB call_len rfl B.b_len boot_len (pa_cons (pv 3) pa_nil)) pa_nil))))
    (pss_cons (ps_set (i := 6) sc_law.nd rfl (Or.inl rfl) pe_non)
    (pss_cons (ps_set (i := 7) sc_law.nd rfl (Or.inl rfl) (pe_lst (pa_cons (pe_tup pa_nil) pa_nil)))
    (pss_cons (ps_for PassesOwn.never rfl (pi_range1 rfl B.b_range (pa_cons (pe_op op_add (pe_callB call_len rfl B.b_len boot_len (pa_cons (pv 3) pa_nil)) pe_int) pa_nil)) (pg_name (i := 8) sc_law.nd rfl (Or.inl rfl)) (pss_cons (ps_set (i := 9) sc_law.nd rfl (Or.inl rfl) (pe_lst pa_nil))
    (pss_cons (ps_set (i := 10) sc_law.nd rfl (Or.inl rfl) (pe_lst pa_nil))
    (pss_cons (ps_for PassesOwn.never rfl (pi_list (pv 7)) (pg_name (i := 11) sc_law.nd rfl (Or.inr rfl)) (pss_cons (ps_set (i := 12) sc_law.nd rfl (Or.inl rfl) (pe_callB cr_sortedI rfl B.b_sorted boot_sorted (pa_cons (pe_ix (r := rIxL K) ix_list (pv 4) pe_int (fun _ _ => rfl)) pa_nil)))
    (C8.pss_cut (ps_if (pt_truthN (K := K) rfl (pv 11) (by intro _; rfl)) (pss_one (ps_set (i := 12) sc_law.nd rfl (Or.inl rfl) (pe_ix (r := rIxL K) ix_list (pv 5) (pe_ix (r := rIxT K) ix_tup (pv 11) (pe_un un_neg pe_int) (fun _ _ => rfl)) (fun _ _ => rfl)))) pss_nil)
    (pss_cons (ps_set (i := 13) sc_law.nd rfl (Or.inr rfl) (pe_join pe_str (pe_lc (own := [("place", 15)]) (g := gName 15) (tt := tYes) rfl sc_law.nd (pi_tup (pv 11)) (blkOk_by (N := N_law) (sc := defScope s_law) (by decide +kernel)) (fun _ _ _ _ _ => pg_name (i := 15) sc_law.nd rfl (Or.inl rfl)) (fun _ _ _ _ _ => pts_nil) (fun _ _ _ _ _ => (pe_ix ix_str (pv 3) (pv 15) (fun _ _ => rfl))))))
    (pss_cons (ps_set (i := 9) sc_law.nd rfl (Or.inl rfl) (pe_op op_cat (pv 9) (pe_lc (own := [("one", 16), ("other", 17)]) (g := gTup K 2 (gCons (gName 16) (gCons (gName 17) gNil))) (tt := tYes) rfl sc_law.nd (pi_list (pe_cl G_law_pairs (hr.mono (by omega)) rfl (pa_cons (pv 3) (pa_cons (pv 12) pa_nil)))) (blkOk_by (N := N_law) (sc := defScope s_law) (by decide +kernel)) (fun _ _ _ _ _ => pg_tup rfl (pgs_cons (pg_name (i := 16) sc_law.nd rfl (Or.inl rfl)) (pgs_cons (pg_name (i := 17) sc_law.nd rfl (Or.inl rfl)) pgs_nil))) (fun _ _ _ _ _ => pts_nil) (fun _ _ _ _ _ => (pe_tup (pa_cons (pe_op op_add_str (pv 13) (pe_ix ix_str (pv 3) (pv 16) (fun _ _ => rfl))) (pa_cons (pv 11) (pa_cons (pv 16) (pa_cons (pv 17) pa_nil)))))))))
    (pss_one (ps_set (i := 10) sc_law.nd rfl (Or.inl rfl) (pe_op op_cat (pv 10) (pe_lc (own := [("place", 15)]) (g := gName 15) (tt := tYes) rfl sc_law.nd (pi_list (pv 12)) (blkOk_by (N := N_law) (sc := defScope s_law) (by decide +kernel)) (fun _ _ _ _ _ => pg_name (i := 15) sc_law.nd rfl (Or.inl rfl)) (fun _ _ _ _ _ => pts_nil) (fun _ _ _ _ _ => (pe_op (r := rCatA K) op_catA (pv 11) (pe_tup (pa_cons (pv 15) pa_nil)))))))))))))
    (C8.pss_cut (ps_if (PW.pt (pw_and (pt_cmpR op_isN (pv 6) pe_non (nomark _)) (pw_and1 (pt_truth (pv 9) (by intro _; rfl))))) (pss_one (ps_set (i := 6) sc_law.nd rfl (Or.inl rfl) (pe_ix (r := rIxL K) ix_list (pe_callB (cr_sortedP (u64 hr)) rfl B.b_sorted boot_sorted (pa_cons (pv 9) pa_nil)) pe_int (fun _ _ => rfl)))) pss_nil)
    (pss_cons (ps_set (i := 7) sc_law.nd rfl (Or.inl rfl) (pv 10))
    (pss_cons (ps_if (PW.pt (pw_and (pt_cmpR op_isN (pv 6) pe_non (nomark _)) (pw_and1 (pt_cmpR op_gt (pe_callB call_len rfl B.b_len boot_len (pa_cons (pv 7) pa_nil)) pe_int (nomark _))))) (pss_one (ps_ret pe_bl)) pss_nil)
    (pss_one (ps_if (pt_cmpR op_notN (pv 6) pe_non (nomark _)) (pss_one (ps_set (i := 7) sc_law.nd rfl (Or.inl rfl) (pe_lst pa_nil))) pss_nil)))))))))
    (pss_cons (ps_set (i := 14) sc_law.nd rfl (Or.inl rfl) (pe_cl Gfirst_doubt (hr.mono (by omega)) rfl (pa_cons (pv 2) pa_nil)))
    (pss_cons (ps_if (pt_cmpR op_isN (pv 6) pe_non (nomark _)) (pss_one (ps_ret (pe_and (pe_cmpR op_isN (pv 14) pe_non (nomark _)) (pe_and (pe_cmpR op_isN (pe_cl Gdoubt_word (hr.mono (by omega)) rfl (pa_cons (pv 2) pa_nil)) pe_non (nomark _)) (pe_one (pe_cmpR op_isBl (pe_cl Gis_sure (hr.mono (by omega)) rfl (pa_cons (pv 2) pa_nil)) pe_bl (nomark _))))))) pss_nil)
    (pss_one (ps_ret (pe_and (pe_cl G_law_equal (hr.mono (by omega)) rfl (pa_cons (pv 14) (pa_cons (pe_slice sl_tupA (pv 6) (po_some pe_int) po_none) pa_nil))) (pe_one (pe_cl G_law_equal (hr.mono (by omega)) rfl (pa_cons (pe_cl Gdoubt_word (hr.mono (by omega)) rfl (pa_cons (pv 2) pa_nil)) (pa_cons (pe_ix (r := rIxT K) ix_tup (pv 6) pe_int (fun _ _ => rfl)) pa_nil))))))))))))))))), ?_⟩
  refine ⟨_, rfl, s, ns, rfl, hs, hn, fun a H1 s1 ha st1 => ?_⟩
  have ab3 : (Str.ofString "abc").length = 3 := by decide +kernel
  refine ⟨_, rfl, _, rfl, a, 3, rfl, st1, by decide, by decide, fun d H2 d0 d1 g2 => ⟨_, _, rfl, rfl, _, rfl, _, rfl, (by rw [ab3]; decide), ?_⟩⟩
  refine ⟨a, 5, _, rfl, g2.st, by decide, by decide, cut_lets3 d0 d1, fun v H3 e g3 hR hok p1 p2 lv wr => ?_⟩
  have Cc := cnt hok
  have Cd := Cc.d
  have Cp := Cc.p
  have Cs := Cc.s
  have hE : Eok e := eok_of hok (by omega) (by omega) (by omega)
  refine ⟨_, rfl, v, e, rfl, hok, by omega, by omega, hR, fun z H4 s4 hz1 hz2 => ?_⟩
  have hR4 := hR.pers (Pers.same s4)
  refine ⟨_, rfl, v, e, 0, rfl, hok, by omega, by omega, by omega, by omega, hR4, fun t1 f1 l1 p1' ij1 H5 s5 ht1 hf1 hl1 hP1 hm1 hlen => ?_⟩
  have st5 := (g3.st.same s4).same s5
  have T5 : Tabs H5 a t1 (gl e 0) := tabs_of st5 ht1 hf1 hl1 hP1 hm1 (len_bound hlen wr p2 (by decide))
  have hR5 := hR4.pers (Pers.same s5)
  have TF := tabF_of T5
  have h40 := hE.pl
  have h5 : e.places ≤ 5 := by omega
  have zl : z.length = e.places := by rw [← len_toList2, hz1, letters_len]
  have zs : z.length ≤ sizeLine := by rw [zl]; exact Nat.le_trans h40 (by decide)
  obtain ⟨f0, l0, p0, ij, h1, h2, h3, h4, h5', h6⟩ := TF.ex
  refine ⟨_, rfl, _, rfl, _, e.places, rfl, ⟨zs, zl.symm⟩, t1, e, rfl, h40, TF, fun fq fts H6 s6 hfq hfql twoF => ?_⟩
  refine ⟨Nat.zero_le _, fun b0 hb0 => ⟨by show 1 ≤ sizeLine; decide, fun q2 hq2 => ?_⟩⟩
  have u0 := same_upd (o := .tup []) hb0
  have u2 := same_upd (o := .lst [V.ref b0]) hq2
  refine ⟨_, rfl, _, e.places, rfl, ⟨zs, zl.symm⟩, _, _, rfl, rfl, _, rfl, by omega, by omega, for_range (lo := 0) (n := e.places + 1) (fun i σ' H' => ∃ (dv : V) (q : Addr) (ts : List V) (rs : List (List Nat)) (o8 o9 o10 o11 o12 o13 o15 o16 o17 : Option V), σ' = [some (.ref s), some (.ref a), some v, some (.str z), some (.ref t1), some (.ref fq), some dv, some (.ref q), o8, o9, o10, o11, o12, o13, none, o15, o16, o17] ∧ Same H6 H' ∧ H' q = some (.lst ts) ∧ Two (TpAt H') ts rs ∧ rs.length ≤ 500 ∧ (∀ r ∈ rs, Wk e 0 r ∧ r.length = i) ∧ ((dv = .non ∧ KpW e i rs ∧ ∀ j < i, 0 ∉ lvl e j) ∨ (DuF H' e dv ∧ rs = []))) ?_ ?_ ?_⟩
  · exact ⟨.non, q2, _, [[]], none, none, none, none, none, none, none, none, none, rfl, u0.trans u2, upd_same, .cons ⟨b0, rfl, u2 _ _ upd_same⟩ .nil, by decide, (kpw_zero e).wk, .inl ⟨rfl, kpw_zero e, fun j hj => absurd hj (Nat.not_lt_zero j)⟩⟩
  · rintro m σ' H7 hm ⟨dv, q1, ts, rs, o8, o9, o10, o11, o12, o13, o15, o16, o17, rfl, s7, hq, two, hrl, hwk, hd⟩
    refine ⟨Nat.zero_le _, fun q5 hq5 => ⟨Nat.zero_le _, fun q6 hq6 => ?_⟩⟩
    have u5 := same_upd (o := .lst []) hq5
    have u6 := same_upd (o := .lst []) hq6
    have U2 := u5.trans u6
    refine ⟨_, rfl, q1, rfl, ⟨_, SqL.of (U2 _ _ hq)⟩, for_list (K := K) (a := q1) (xs := ts) (fun k σ' H' => ∃ (q5 q6 : Addr) (fvs lvs : List V) (fs : List Fnd) (o11 o12 o13 o15 o16 o17 : Option V), σ' = [some (.ref s), some (.ref a), some v, some (.str z), some (.ref t1), some (.ref fq), some dv, some (.ref q1), some (.int (0 + (m : Int))), some (.ref q5), some (.ref q6), o11, o12, o13, none, o15, o16, o17] ∧ Same H7 H' ∧ H' q5 = some (.lst fvs) ∧ H' q6 = some (.lst lvs) ∧ Two (FnAt H' e) fvs fs ∧ (∀ a, a ∈ fs ↔ IsFnd e (rs.take k) a) ∧ fs.length ≤ k * 1600 ∧ Two (TpAt H') lvs (longL e (rs.take k))) ?_ ?_ ?_ ?_⟩
    · exact ⟨q5, q6, [], [], [], o11, o12, o13, o15, o16, o17, rfl, U2, u6 _ _ upd_same, upd_same, .nil, fun a => ⟨fun h => (by cases h), fun h => (by cases h.1)⟩, Nat.zero_le _, .nil⟩
    · rintro k σ' H' _ ⟨q5, q6, fvs, lvs, fs, o11, o12, o13, o15, o16, o17, rfl, s3, _⟩
      exact SqL.of (s3 _ _ hq)
    · rintro k v' σ' H8 hv ⟨q5, q6, fvs, lvs, fs, o11, o12, o13, o15, o16, o17, rfl, s8, hf5, hl6, twoFn, memF, lenF, twoL⟩
      obtain ⟨r, hr', ra, rfl, hra⟩ := two.get hv
      have hrm := List.mem_of_getElem? hr'
      obtain ⟨wkr, lenr⟩ := hwk r hrm
      have S3 := s6.trans (s7.trans s8)
      refine ⟨_, rfl, t1, _, 0, _, rfl, rfl, SqL.of (S3 _ _ h1), at_zero, f0, (gl e 0).fst.map fun (i : Nat) => (i : Int), rfl, SqL.of (by rw [← natsV_int]; exact S3 _ _ h2), fun ys p1 hp hs hp1 => ?_⟩
      obtain rfl := sorted_same hp hs (gl_rise e 0).fst
      rw [← natsV_int]
      have v1 := same_upd (o := .lst (natsV (gl e 0).fst)) hp1
      refine ⟨fun σ' H' => ∃ (b : Addr), σ' = [some (.ref s), some (.ref a), some v, some (.str z), some (.ref t1), some (.ref fq), some dv, some (.ref q1), some (.int (0 + (m : Int))), some (.ref q5), some (.ref q6), some (.ref ra), some (.ref b), o13, none, o15, o16, o17] ∧ Same H8 H' ∧ H' b = some (.lst (natsV (nearT e (ndl 0 r)))), ?_, ?_⟩
      · refine ⟨_, rfl, !(natsV r).isEmpty, .inr (.inl ⟨_, SqT.of (v1 _ _ (s8 _ _ hra)), rfl⟩), ?_⟩
        rcases List.eq_nil_or_concat r with h | ⟨r', p, h⟩
        · subst h
          exact iteF ⟨p1, rfl, v1, upd_same⟩
        · rw [List.concat_eq_append] at h
          subst h
          rw [← natsV_snoc2]
          have hpp := wk_bd wkr p (List.mem_append_right _ (List.mem_singleton.mpr rfl))
          obtain ⟨fv, hfv⟩ : ∃ fv, fts[p]? = some fv := by
            have := twoF.len
            rw [List.length_range] at this
            exact ⟨fts[p], List.getElem?_eq_getElem (by omega)⟩
          obtain ⟨p', hp', fr, rfl, hfr⟩ := twoF.get hfv
          obtain rfl : p' = p := by
            rw [List.getElem?_range hpp] at hp'
            exact (Option.some.inj hp').symm
          refine ite2 (fun _ => ?_) (fun c => absurd (show (!(natsV r' ++ [V.int (p' : Int)]).isEmpty) = true by cases natsV r' <;> rfl) c)
          refine ⟨_, rfl, _, rfl, 1, rfl, ra, _, -1, _, rfl, rfl, SqT.of (v1 _ _ (s8 _ _ (by rw [natsV_snoc2]; exact hra))), atI_last _ _, fq, fts, (p' : Int), _, rfl, rfl, SqL.of (v1 _ _ ((s7.trans s8) _ _ hfql)), atI_nat hfv, ?_⟩
          exact ⟨fr, rfl, v1, by rw [ndl_snoc, near_succ]; exact v1 _ _ ((s7.trans s8) _ _ hfr)⟩
      · rintro σ' H9 ⟨b, rfl, s9, hb⟩
        have S9 := s8.trans s9
        have ltr : ∀ i, i < e.places → atI z.cps.toList (i : Int) = some (ltN e i) := fun i hi => by
          rw [hz1]
          exact atI_nat (ltN_get hi)
        have rl41 : r.length ≤ 6 := by rw [lenr]; omega
        refine ⟨⟨_, rfl⟩, _, rfl, ra, rfl, ⟨_, SqT.of (S9 _ _ hra)⟩, fun D0 hD0 => ?_⟩
        refine lc_tupR (K := K) (a := ra) (fun i => (r.take i).map fun p => V.str ⟨#[ltN e p]⟩) rfl (fun i => by rw [List.length_map, List.length_take]; omega) hD0 (SqT.of (S9 _ _ hra)) (fun i y H10 hy s10 fin _ => ?_) (fun H10 s10 hk0 => ?_)
        · obtain ⟨k, hk, rfl⟩ := natsV_getB hy
          have hkp := wk_bd wkr k (List.mem_of_getElem? hk)
          refine ⟨rfl, tyes ⟨_, rfl, _, rfl, z, (k : Int), _, rfl, rfl, zs, ltr k hkp, fin _ _ ?_ (Same.refl _)⟩⟩
          rw [take_snoc hk, List.map_append]
          rfl
        rw [natsV_len, List.take_length] at hk0
        have ew : Txt.join sNo (r.map fun p => (⟨#[ltN e p]⟩ : Str)) = wS (r.map (ltN e)) := wS_of (by
          rw [join_flat2, List.map_map]
          generalize r = cs
          induction cs with
          | nil => rfl
          | cons c cs ih =>
            rw [List.map_cons, List.flatten_cons, ih]
            rfl)
        refine ⟨sNo, D0, r.map fun p => (⟨#[ltN e p]⟩ : Str), rfl, rfl, .inl (SqL.of (by rw [List.map_map]; exact hk0)), ?_, ?_⟩
        · have : (r.map fun p => (⟨#[ltN e p]⟩ : Str)).map Str.length = List.replicate r.length 1 := by
            rw [List.map_map, ← List.map_const']
            rfl
          rw [this, List.sum_replicate_nat, lE]
          omega
        rw [ew]
        have T10 := s9.trans s10
        have S10 := S9.trans s10
        refine ⟨_, rfl, _, rfl, _, rfl, z, b, e, nearT e (ndl 0 r), rfl, h40, hz1, s10 _ _ hb, nearT_rise e _, nearT_lt e _, fun q7 ts7 ps H11 s11 hq7 hq7l two7 nd7 mem7 => ⟨q7, rfl, ⟨_, SqL.of hq7l⟩, fun D hD => ?_⟩⟩
        have ps16 : ps.length ≤ 1600 := prs_len nd7 fun x hx => by
          have := pr_lt ((mem7 x).mp hx)
          omega
        refine lc_list (K := K) (a := q7) (xs := ts7) (fun j H' => Same H11 H' ∧ ∃ us, H' D = some (.lst us) ∧ Two (FnAt H' e) us ((ps.take j).map fun x => (r, x))) ⟨same_upd hD, [], upd_same, .nil⟩ (fun j H' _ h => SqL.of (h.1 _ _ hq7l)) (fun j x H12 hx h => ?_) (fun H12 h => ?_)
        · obtain ⟨s12, us, hus, twoU⟩ := h
          obtain ⟨y, hy, ya, rfl, hya⟩ := two7.get hx
          have hyb := pr_lt ((mem7 y).mp (List.mem_of_getElem? hy))
          have S12 := S10.trans (s11.trans s12)
          refine ⟨ya, _, rfl, SqT.of (s12 _ _ hya), rfl, _, _, rfl, _, _, rfl, rfl, rfl, tyes ?_⟩
          refine ⟨_, rfl, _, rfl, _, rfl, z, (y.1 : Int), _, rfl, rfl, zs, ltr y.1 hyb.1, _, _, rfl, rfl, ?_, ?_⟩
          · rw [wS_len, List.length_map]
            exact Nat.le_trans (m := 42) (by show r.length + 1 ≤ 42; omega) (by decide)
          rw [wS_app]
          refine ⟨_, rfl, _, rfl, _, rfl, by show 4 ≤ sizeLine; decide, fun T1 hT1 => ?_⟩
          have w1 := same_upd (o := .tup [V.str (wS (r.map (ltN e) ++ [ltN e y.1])), V.ref ra, V.int (y.1 : Int), V.int (y.2 : Int)]) hT1
          have ul : us.length ≤ 1600 := by
            rw [twoU.len, List.length_map, List.length_take]
            omega
          refine ⟨us, w1 _ _ hus, Nat.lt_of_le_of_lt ul (by decide), keepD hD s12 w1, us ++ [.ref T1], upd_same, ?_⟩
          have tkk : TK H12 (upd (upd H12 T1 (.tup [V.str (wS (r.map (ltN e) ++ [ltN e y.1])), V.ref ra, V.int (y.1 : Int), V.int (y.2 : Int)])) D (.lst (us ++ [.ref T1]))) := (TK.same w1).trans (TK.upd (w1 _ _ hus) fun xs z => by cases z)
          rw [take_snoc hy, List.map_append]
          refine (twoU.mono fun _ _ h => h.tk tkk).app (.cons ⟨T1, ra, rfl, ?_, tkk _ _ (S12 _ _ hra)⟩ .nil)
          rw [upd_ne fun e => by rw [e, hus] at hT1; cases hT1]
          exact upd_same
        obtain ⟨s12, us, hus, twoU⟩ := h
        rw [two7.len, List.take_length] at twoU
        have S12 := T10.trans (s11.trans s12)
        have T12 := s10.trans (s11.trans s12)
        have kl : k < 500 := by
          have := (List.getElem?_eq_some_iff.mp hr').1
          omega
        have fl : fvs.length + us.length ≤ (k + 1) * 1600 := by
          rw [twoFn.len, twoU.len, List.length_map]
          omega
        refine ⟨q5, D, fvs, us, rfl, rfl, S12 _ _ hf5, hus, Nat.le_trans (m := 800000) (by omega) (by decide), fun q8 hq8 => ?_⟩
        have w2 := same_upd (o := .lst (fvs ++ us)) hq8
        have S7 := S12.trans w2
        have T7 := T12.trans w2
        have nrl := nearT_len e (ndl 0 r)
        refine ⟨_, rfl, _, rfl, b, rfl, ⟨_, SqL.of (T7 _ _ hb)⟩, fun D2 hD2 => ?_⟩
        refine lc_list (K := K) (a := b) (xs := natsV (nearT e (ndl 0 r))) (fun j H' => Same (upd H12 q8 (.lst (fvs ++ us))) H' ∧ ∃ vs, H' D2 = some (.lst vs) ∧ Two (TpAt H') vs (((nearT e (ndl 0 r)).take j).map fun p => r ++ [p])) ⟨same_upd hD2, [], upd_same, .nil⟩ (fun j H' _ h => SqL.of (h.1 _ _ (T7 _ _ hb))) (fun j x H13 hx h => ?_) (fun H13 h => ?_)
        · obtain ⟨s13, vs, hvs, twoV⟩ := h
          obtain ⟨y, hy, rfl⟩ := natsV_getB hx
          have hyp := nearT_lt e _ y (List.mem_of_getElem? hy)
          have S13 := s8.trans (S7.trans s13)
          refine ⟨rfl, tyes ⟨_, rfl, _, rfl, by show 1 ≤ sizeLine; decide, fun Tp hT => ?_⟩⟩
          have u9 := same_upd (o := .tup [V.int (y : Int)]) hT
          refine catA_of (u9 _ _ (S13 _ _ hra)) upd_same (by rw [natsV_len]; exact Nat.le_trans (m := 42) (by show r.length + 1 ≤ 42; omega) (by decide)) fun bq H14 s14 hbq => ?_
          rw [natsV_snoc2] at hbq
          have vl : vs.length ≤ 40 := by
            rw [twoV.len, List.length_map, List.length_take]
            omega
          have u10 := u9.trans s14
          refine ⟨vs, u10 _ _ hvs, Nat.lt_of_le_of_lt vl (by decide), keepD hD2 s13 u10, vs ++ [.ref bq], upd_same, ?_⟩
          have tkk : TK H13 (upd H14 D2 (.lst (vs ++ [.ref bq]))) := (TK.same u10).trans (TK.upd (u10 _ _ hvs) fun xs z => by cases z)
          rw [take_snoc hy, List.map_append]
          refine (twoV.mono fun _ _ h => h.tk tkk).app (.cons ⟨bq, rfl, ?_⟩ .nil)
          rw [upd_ne fun e => by rw [e, u10 _ _ hvs] at hbq; cases hbq]
          exact hbq
        obtain ⟨s13, vs, hvs, twoV⟩ := h
        rw [natsV_len, List.take_length] at twoV
        have S13 := S7.trans s13
        have ll := longL_len h40 (rs.take k)
        refine ⟨q6, D2, lvs, vs, rfl, rfl, S13 _ _ hl6, hvs, Nat.le_trans (m := 21000) (by rw [twoL.len, twoV.len, List.length_map]; rw [List.length_take] at ll; have : min k rs.length * 40 ≤ 500 * 40 := Nat.mul_le_mul_right _ (by omega); omega) (by decide), fun q9 hq9 => ?_⟩
        have w3 := same_upd (o := .lst (lvs ++ vs)) hq9
        have S14 := S13.trans w3
        refine ⟨q8, q9, fvs ++ us, lvs ++ vs, fs ++ ps.map fun x => (r, x), _, _, _, _, _, _, rfl, s8.trans S14, (s13.trans w3) _ _ upd_same, upd_same, (twoFn.mono fun _ _ h => h.same S14).app (twoU.mono fun _ _ h => h.same (w2.trans (s13.trans w3))), fun x => ?_, ?_, ?_⟩
        · rw [List.mem_append, memF, List.mem_map]
          unfold IsFnd
          rw [take_snoc hr', List.mem_append, List.mem_singleton]
          constructor
          · rintro (⟨g1, g2⟩ | ⟨y, g1, rfl⟩)
            · exact ⟨.inl g1, g2⟩
            · exact ⟨.inr rfl, (mem7 y).mp g1⟩
          · rintro ⟨g1 | g1, g2⟩
            · exact .inl ⟨g1, g2⟩
            · exact .inr ⟨x.2, (mem7 x.2).mpr (by rw [← g1]; exact g2), Prod.ext g1.symm rfl⟩
        · rw [List.length_append, List.length_map, Nat.succ_mul]
          omega
        · rw [take_snoc hr']
          unfold longL
          rw [List.flatMap_append, List.flatMap_singleton]
          exact (twoL.mono fun _ _ h => h.same S14).app (twoV.mono fun _ _ h => h.same w3)
    · rintro σ' H8 ⟨q5, q6, fvs, lvs, fs, o11, o12, o13, o15, o16, o17, rfl, s8, hf5, hl6, twoFn, memF, lenF, twoL⟩
      rw [two.len, List.take_length] at memF twoL
      have zf : (fvs.zip fs).map Prod.fst = fvs := List.map_fst_zip (by rw [twoFn.len]; exact Nat.le_refl _)
      refine ⟨fun σ' H' => ∃ (dv' : V), σ' = [some (.ref s), some (.ref a), some v, some (.str z), some (.ref t1), some (.ref fq), some dv', some (.ref q1), some (.int (0 + (m : Int))), some (.ref q5), some (.ref q6), o11, o12, o13, none, o15, o16, o17] ∧ Same H8 H' ∧ ((dv' = .non ∧ KpW e m rs ∧ ∀ j < m + 1, 0 ∉ lvl e j) ∨ DuF H' e dv'), ?_, ?_⟩
      · rcases hd with ⟨rfl, hk, hnl⟩ | ⟨hdu, _⟩
        · refine ⟨_, rfl, rfl, _, rfl, iteT ⟨_, rfl, !fvs.isEmpty, .inl ⟨_, SqL.of hf5, rfl⟩, ?_⟩⟩
          cases hfe : fvs.isEmpty with
          | false =>
            refine ite2 (fun _ => ?_) (fun c => absurd rfl c)
            refine ⟨_, rfl, q5, V × Fnd, fvs.zip fs, Prod.fst, fun b => encF e b.2, rfl, SqL.of (by rw [zf]; exact hf5), fun b hb => (two_zip twoFn b hb).dp, PySem.W.AllAlike.of fun b b' => encF_alike e _ _, PySem.W.Sortable.tuples fun b => ⟨_, _, rfl⟩, fun b hb => encF_depth e _, fun cs p hp hw hpn => ?_⟩
            cases cs with
            | nil =>
              rw [← zf, List.nil_perm.mp hp] at hfe
              cases hfe
            | cons c cr =>
              have hcz : c ∈ fvs.zip fs := hp.mem_iff.mp List.mem_cons_self
              have v2 := same_upd (o := .lst ((c :: cr).map Prod.fst)) hpn
              have hc2 : c.2 ∈ fs := (List.of_mem_zip hcz).2
              obtain ⟨cB, cF⟩ := found_least (c := c.2) hk hnl memF hc2 fun a ha => by
                obtain ⟨va, hva⟩ : ∃ va, (va, a) ∈ fvs.zip fs := by
                  have : a ∈ (fvs.zip fs).map Prod.snd := by rw [List.map_snd_zip (by rw [twoFn.len]; exact Nat.le_refl _)]; exact ha
                  obtain ⟨y, hy, rfl⟩ := List.mem_map.mp this
                  exact ⟨y.1, hy⟩
                rcases List.mem_cons.mp (hp.mem_iff.mpr hva) with h | h
                · rw [← h]
                  intro h2
                  have := encF_lt.mpr h2
                  rw [show PySem.W.dataLt (encF e a) (encF e a) = false from PyProof.Rows.lex_irrefl _] at this
                  cases this
                · intro h2
                  have := (List.pairwise_cons.mp hw).1 _ h
                  rw [show PySem.W.dataLt (encF e a) (encF e c.2) = true from encF_lt.mpr h2] at this
                  cases this
              refine ⟨p, _, 0, _, rfl, rfl, SqL.of upd_same, at_zero, ?_⟩
              exact ⟨c.1, rfl, v2, .inr ⟨c.2, (two_zip twoFn c hcz).same v2, cB, cF⟩⟩
          | true =>
            have hf0 : fvs = [] := List.isEmpty_iff.mp hfe
            subst hf0
            cases twoFn
            have hnm : 0 ∉ lvl e m := kpw_none hk fun a h => by cases (memF a).mpr h
            refine iteF ⟨.non, rfl, Same.refl _, .inl ⟨rfl, hk, fun j hj => ?_⟩⟩
            rcases Nat.lt_succ_iff_lt_or_eq.mp hj with h | h
            · exact hnl j h
            · rw [h]
              exact hnm
        · obtain ⟨da, rfl⟩ := hdu.ref
          exact ⟨_, rfl, rfl, _, rfl, iteF ⟨_, rfl, Same.refl _, .inr (hdu.same s8)⟩⟩
      · rintro σ' H9 ⟨dv', rfl, s9, hd'⟩
        have S9 := s7.trans (s8.trans s9)
        rcases hd' with ⟨rfl, hk, hnl⟩ | hdu
        · refine ⟨_, rfl, _, rfl, rfl, _, rfl, iteT ?_⟩
          refine ⟨_, rfl, _, lvs.length, rfl, .inl ⟨_, SqL.of (s9 _ _ hl6), rfl⟩, _, _, rfl, rfl, _, rfl, ite2 (fun _ => q H9) (fun c => ?_)⟩
          have c1 : ¬ (500 : Int) < (lvs.length : Int) := fun h => c (decide_eq_true h)
          have hk1 := kpw_all hk
          refine ⟨_, rfl, rfl, _, rfl, iteF ⟨.non, q6, lvs, longL e rs, _, _, _, _, _, _, _, _, _, rfl, S9, s9 _ _ hl6, twoL.mono fun _ _ h => h.same s9, ?_, hk1.wk, .inl ⟨rfl, hk1, hnl⟩⟩⟩
          rw [← twoL.len]
          omega
        · obtain ⟨da, rfl⟩ := hdu.ref
          refine ⟨_, rfl, _, rfl, rfl, _, rfl, iteF ⟨_, rfl, rfl, _, rfl, iteT ⟨Nat.zero_le _, fun q7 hq7 => ?_⟩⟩⟩
          have u7 := same_upd (o := .lst []) hq7
          exact ⟨_, q7, [], [], _, _, _, _, _, _, _, _, _, rfl, S9.trans u7, upd_same, .nil, Nat.zero_le _, (fun r hr => (by cases hr)), .inr ⟨hdu.same u7, rfl⟩⟩
  · rintro σ' H7 ⟨dv, q1, ts, rs, o8, o9, o10, o11, o12, o13, o15, o16, o17, rfl, s7, hq, two, hrl, hwk, hd⟩
    have S7 := s6.trans s7
    rcases hd with ⟨rfl, hk, hnl⟩ | ⟨⟨c, hcF, hcB, hcU⟩, _⟩
    · have hc : confB e = false := by
        cases hc : confB e with
        | false => rfl
        | true =>
          obtain ⟨N, g1, g2⟩ := lvl_first hok hc
          have := lvl_le g1 g2
          exact absurd g1 (hnl N (by omega))
      refine ⟨_, rfl, v, e, rfl, hE, hR5.pers (Pers.same S7), (fun _ H8 s8 => ?_), (fun h => by rw [hc] at h; cases h)⟩
      refine ⟨_, rfl, rfl, _, rfl, iteT ⟨_, rfl, rfl, _, rfl, iteT ?_⟩⟩
      refine ⟨_, rfl, v, e, rfl, hE, hR5.pers (Pers.same (S7.trans s8)), (fun _ H9 s9 => ?_), (fun h => by rw [hc] at h; cases h)⟩
      refine ⟨rfl, _, rfl, iteT ?_⟩
      refine ⟨_, rfl, v, e, rfl, hE, hR5.pers (Pers.same ((S7.trans s8).trans s9)), fun H10 s10 => ⟨_, true, rfl, rfl, ?_⟩⟩
      rw [hc]
      exact q H10
    · obtain ⟨da, dr, rfl, hda, hdr⟩ := hcF
      refine ⟨_, rfl, v, e, rfl, hE, hR5.pers (Pers.same S7), (fun h => by rw [hcB] at h; cases h), (fun _ ft path x H8 s8 hF hft => ?_)⟩
      obtain rfl := hcU path x hF
      have S8 := S7.trans s8
      refine ⟨_, rfl, rfl, _, rfl, iteF ?_⟩
      have pl : path.length ≤ 100000 := by
        have := hF.bd
        omega
      refine ⟨_, rfl, _, rfl, 1, rfl, da, _, rfl, SqT.of (s8 _ _ hda), (fun c => absurd c.1 (show ¬ HT.sIx 4 0 (some 1) = 0 by decide)), fun _ R hR => ?_⟩
      have u9 := same_upd (o := .tup [V.ref dr, V.int (x.1 : Int), V.int (x.2 : Int)]) hR
      have hcut : cutV [V.str (wS (wdF e (path, x))), V.ref dr, V.int (x.1 : Int), V.int (x.2 : Int)] (some 1) none = [V.ref dr, V.int (x.1 : Int), V.int (x.2 : Int)] := rfl
      refine ⟨_, _, dbtJ path x, 2, rfl, by decide, (dbt_rep pl hft).same (by rw [hcut]; exact u9), dbtR pl (by rw [hcut]; exact upd_same) (by rw [hcut]; exact u9 _ _ (s8 _ _ hdr)), fun H9 s9 => ⟨_, rfl, iteT ?_⟩⟩
      rw [hcut] at s9
      have S9 := S8.trans (u9.trans s9)
      refine ⟨_, rfl, v, e, rfl, hE, hR5.pers (Pers.same S9), (fun h => by rw [hcB] at h; cases h), (fun _ z2 path2 x2 H10 s10 hF2 hz2' => ?_)⟩
      have e2 := hcU path2 x2 hF2
      have ez : z2 = wS (wdF e (path, x)) := by
        refine wS_of (hz2'.trans ?_)
        rw [e2, List.map_append]
        rfl
      subst ez
      exact ⟨_, rfl, da, _, 0, _, rfl, rfl, SqT.of ((s8.trans (u9.trans (s9.trans s10))) _ _ hda), at_zero, _, _, .str _, 0, rfl, by decide, .str _, .str _, fun H11 s11 => q H11⟩
end
end My
namespace My
open PySem PySem.Spec PyProof.Rows L2
section
variable {P : Program} {w : World} {K : PySem.W.Frag} {mg : Str → Option Value} {base : Heap} {a_BOUNDS a_LONG_BOUNDS : Addr} {tL tM : Tok}
theorem all_ends {f fj fo : Addr} {fd fdj fdo : FuncData} (B : Bt K mg a_BOUNDS a_LONG_BOUNDS tL tM) (Dd : Df K mg "_ends_of" s__ends_of ["part", "letters", "rows"] f fd) (Dj : Df K mg "_ends_of_join" s__ends_of_join ["parts", "letters", "rows"] fj fdj) (Do : Df K mg "_ends_of_or" s__ends_of_or ["parts", "letters", "rows"] fo fdo)
    (G1 : Cl P w K mg base 1 "_link" ["rows", "ends", "begins"] (spLink K)) (G2 : Cl P w K mg base 1 "_ends_of_leaf" ["part", "letters", "rows"] spLeaf) : ∀ n, FnOk P w K mg base CX0 (2 * n + 2) f fd ["part", "letters", "rows"] (spEnds n)
  | 0 => none_left fun vs H Q Ex h => by
    obtain ⟨H0, v, la, ra, e, cs, F, _, _, h, _⟩ := h
    exact absurd h (Nat.not_lt_zero _)
  | n + 1 => by
    have ih := Dd.cl (all_ends B Dd Dj Do G1 G2 n)
    exact ok_ends_step B Dd G1 G2 n (2 * n + 2) (by omega) ih (Dj.cl (ok_joinends B Dj G1 n (2 * n + 2) (by omega) ih)) (Do.cl (ok_orends B Do n (2 * n + 2) ih))
theorem all_equal {f : Addr} {fd : FuncData} (B : Bt K mg a_BOUNDS a_LONG_BOUNDS tL tM) (Dd : Df K mg "_law_equal" s__law_equal ["actual", "due"] f fd) (G1 : Cl P w K mg base 1 "_law_is_integer" ["actual"] spIsInt) :
    ∀ n, FnOk P w K mg base CX0 (n + 1) f fd ["actual", "due"] (spEqual n)
  | 0 => none_left fun vs H Q Ex h => by
    obtain ⟨x, y, j, k, _, h, _⟩ := h
    exact absurd h (Nat.not_lt_zero _)
  | n + 1 => ok_equal_step B Dd G1 n (Dd.cl (all_equal B Dd G1 n))
theorem all_letters2 {f : Addr} {fd : FuncData} (B : Bt K mg a_BOUNDS a_LONG_BOUNDS tL tM) (Dd : Df K mg "_law_letters" s__law_letters ["expression"] f fd) : ∀ n, FnOk P w K mg base CX0 n f fd ["expression"] (spLet2 n)
  | 0 => none_left fun vs H Q Ex h => by
    obtain ⟨v, e, _, _, h, _⟩ := h
    exact absurd h (Nat.not_lt_zero _)
  | n + 1 => ok_letters2_step B Dd n (Dd.cl (all_letters2 B Dd n))
theorem all_tables {f fl : Addr} {fd fdl : FuncData} (B : Bt K mg a_BOUNDS a_LONG_BOUNDS tL tM) (Dd : Df K mg "_law_tables" s__law_tables ["expression", "shift"] f fd) (Dl : Df K mg "_law_letters" s__law_letters ["expression"] fl fdl) : ∀ n, FnOk P w K mg base CX0 n f fd ["expression", "shift"] (spTab n)
  | 0 => none_left fun vs H Q Ex h => by
    obtain ⟨v, e, o, _, _, h, _⟩ := h
    exact absurd h (Nat.not_lt_zero _)
  | n + 1 => ok_tables_step B Dd n (Dl.cl (all_letters2 B Dl n)) (Dd.cl (all_tables B Dd Dl n))
end
/-! ### what the top has left -/
set_option maxHeartbeats 2000000 in
theorem all_mk {l : PySem.W.OpenLaw} {w : World} {K : PySem.W.Frag} {h : Heap} {mg : Str → Option Value} {fa : Addr} (X : K.In h) (G : h.Ns mainGlobals mg) (hfa : mg "law" = some (.ref fa))
    {od1 an1 od2 an2 od3 an3 od4 an4 od5 an5 od6 an6 od7 an7 od8 an8 od9 an9 od10 an10 od11 an11 od12 an12 od13 an13 od14 an14 od15 an15 od16 an16 od17 an17 od18 an18 od19 an19 od20 an20 od21 an21 od22 an22 od23 an23 od24 an24 od25 an25 od26 an26 od27 an27 od28 an28 od29 an29 od30 an30 od31 an31 od32 an32 od33 an33 od34 an34 : Option Addr} {sl1 sl2 sl3 sl4 sl5 sl6 sl7 sl8 sl9 sl10 sl11 sl12 sl13 sl14 sl15 sl16 sl17 sl18 sl19 sl20 sl21 sl22 sl23 sl24 sl25 sl26 sl27 sl28 sl29 sl30 sl31 sl32 sl33 sl34 : Array (Option Value)} {oc1 kV1 dc1 pm1 cd1 ct1 oc2 kV2 dc2 pm2 cd2 ct2 oc3 kV3 dc3 pm3 cd3 ct3 oc4 kV4 dc4 pm4 cd4 ct4 oc5 kV5 dc5 pm5 cd5 ct5 oc6 kV6 dc6 pm6 cd6 ct6 oc7 kV7 dc7 pm7 cd7 ct7 oc8 kV8 dc8 pm8 cd8 ct8 oc9 kV9 dc9 pm9 cd9 ct9 oc10 kV10 dc10 pm10 cd10 ct10 oc11 kV11 dc11 pm11 cd11 ct11 oc12 kV12 dc12 pm12 cd12 ct12 oc13 kV13 dc13 pm13 cd13 ct13 oc14 kV14 dc14 pm14 cd14 ct14 oc15 kV15 dc15 pm15 cd15 ct15 oc16 kV16 dc16 pm16 cd16 ct16 oc17 kV17 dc17 pm17 cd17 ct17 oc18 kV18 dc18 pm18 cd18 ct18 oc19 kV19 dc19 pm19 cd19 ct19 oc20 kV20 dc20 pm20 cd20 ct20 oc21 kV21 dc21 pm21 cd21 ct21 oc22 kV22 dc22 pm22 cd22 ct22 oc23 kV23 dc23 pm23 cd23 ct23 oc24 kV24 dc24 pm24 cd24 ct24 oc25 kV25 dc25 pm25 cd25 ct25 oc26 kV26 dc26 pm26 cd26 ct26 oc27 kV27 dc27 pm27 cd27 ct27 oc28 kV28 dc28 pm28 cd28 ct28 oc29 kV29 dc29 pm29 cd29 ct29 oc30 kV30 dc30 pm30 cd30 ct30 oc31 kV31 dc31 pm31 cd31 ct31 oc32 kV32 dc32 pm32 cd32 ct32 oc33 kV33 dc33 pm33 cd33 ct33 oc34 kV34 dc34 pm34 cd34 ct34 : Value} {f1 f2 f3 f4 f5 f6 f7 f8 f9 f10 f11 f12 f13 f14 f15 f16 f17 f18 f19 f20 f21 f22 f23 f24 f25 f26 f27 f28 f29 f30 f31 f32 f33 f34 : Addr}
    (a1 : PySem.W.nsIn K mainGlobals "steps_of" = some (some (.ref f1))) (l1 : K.lookup f1 = some ⟨oc1, od1, .func (PySem.W.fnOf "steps_of" "steps_of" (defArgs s_steps_of) (defBody s_steps_of) (defScope s_steps_of) .none kV1 dc1 pm1 an1 cd1 ct1), sl1⟩) (c1 : PySem.W.codeIn K cd1 "steps_of" = true) (k1 : PySem.W.keepIn K (.ref f1) = true)
    (a2 : PySem.W.nsIn K mainGlobals "_ends_of" = some (some (.ref f2))) (l2 : K.lookup f2 = some ⟨oc2, od2, .func (PySem.W.fnOf "_ends_of" "_ends_of" (defArgs s__ends_of) (defBody s__ends_of) (defScope s__ends_of) .none kV2 dc2 pm2 an2 cd2 ct2), sl2⟩) (c2 : PySem.W.codeIn K cd2 "_ends_of" = true) (k2 : PySem.W.keepIn K (.ref f2) = true)
    (a3 : PySem.W.nsIn K mainGlobals "_ends_of_leaf" = some (some (.ref f3))) (l3 : K.lookup f3 = some ⟨oc3, od3, .func (PySem.W.fnOf "_ends_of_leaf" "_ends_of_leaf" (defArgs s__ends_of_leaf) (defBody s__ends_of_leaf) (defScope s__ends_of_leaf) .none kV3 dc3 pm3 an3 cd3 ct3), sl3⟩) (c3 : PySem.W.codeIn K cd3 "_ends_of_leaf" = true) (k3 : PySem.W.keepIn K (.ref f3) = true)
    (a4 : PySem.W.nsIn K mainGlobals "_ends_of_join" = some (some (.ref f4))) (l4 : K.lookup f4 = some ⟨oc4, od4, .func (PySem.W.fnOf "_ends_of_join" "_ends_of_join" (defArgs s__ends_of_join) (defBody s__ends_of_join) (defScope s__ends_of_join) .none kV4 dc4 pm4 an4 cd4 ct4), sl4⟩) (c4 : PySem.W.codeIn K cd4 "_ends_of_join" = true) (k4 : PySem.W.keepIn K (.ref f4) = true)
    (a5 : PySem.W.nsIn K mainGlobals "_ends_of_or" = some (some (.ref f5))) (l5 : K.lookup f5 = some ⟨oc5, od5, .func (PySem.W.fnOf "_ends_of_or" "_ends_of_or" (defArgs s__ends_of_or) (defBody s__ends_of_or) (defScope s__ends_of_or) .none kV5 dc5 pm5 an5 cd5 ct5), sl5⟩) (c5 : PySem.W.codeIn K cd5 "_ends_of_or" = true) (k5 : PySem.W.keepIn K (.ref f5) = true)
    (a6 : PySem.W.nsIn K mainGlobals "_link" = some (some (.ref f6))) (l6 : K.lookup f6 = some ⟨oc6, od6, .func (PySem.W.fnOf "_link" "_link" (defArgs s__link) (defBody s__link) (defScope s__link) .none kV6 dc6 pm6 an6 cd6 ct6), sl6⟩) (c6 : PySem.W.codeIn K cd6 "_link" = true) (k6 : PySem.W.keepIn K (.ref f6) = true)
    (a7 : PySem.W.nsIn K mainGlobals "by_letter" = some (some (.ref f7))) (l7 : K.lookup f7 = some ⟨oc7, od7, .func (PySem.W.fnOf "by_letter" "by_letter" (defArgs s_by_letter) (defBody s_by_letter) (defScope s_by_letter) .none kV7 dc7 pm7 an7 cd7 ct7), sl7⟩) (c7 : PySem.W.codeIn K cd7 "by_letter" = true) (k7 : PySem.W.keepIn K (.ref f7) = true)
    (a8 : PySem.W.nsIn K mainGlobals "is_long" = some (some (.ref f8))) (l8 : K.lookup f8 = some ⟨oc8, od8, .func (PySem.W.fnOf "is_long" "is_long" (defArgs s_is_long) (defBody s_is_long) (defScope s_is_long) .none kV8 dc8 pm8 an8 cd8 ct8), sl8⟩) (c8 : PySem.W.codeIn K cd8 "is_long" = true) (k8 : PySem.W.keepIn K (.ref f8) = true)
    (a9 : PySem.W.nsIn K mainGlobals "is_letter" = some (some (.ref f9))) (l9 : K.lookup f9 = some ⟨oc9, od9, .func (PySem.W.fnOf "is_letter" "is_letter" (defArgs s_is_letter) (defBody s_is_letter) (defScope s_is_letter) .none kV9 dc9 pm9 an9 cd9 ct9), sl9⟩) (c9 : PySem.W.codeIn K cd9 "is_letter" = true) (k9 : PySem.W.keepIn K (.ref f9) = true)
    (a10 : PySem.W.nsIn K mainGlobals "check_long" = some (some (.ref f10))) (l10 : K.lookup f10 = some ⟨oc10, od10, .func (PySem.W.fnOf "check_long" "check_long" (defArgs s_check_long) (defBody s_check_long) (defScope s_check_long) .none kV10 dc10 pm10 an10 cd10 ct10), sl10⟩) (c10 : PySem.W.codeIn K cd10 "check_long" = true) (k10 : PySem.W.keepIn K (.ref f10) = true)
    (a11 : PySem.W.nsIn K mainGlobals "sizes_within" = some (some (.ref f11))) (l11 : K.lookup f11 = some ⟨oc11, od11, .func (PySem.W.fnOf "sizes_within" "sizes_within" (defArgs s_sizes_within) (defBody s_sizes_within) (defScope s_sizes_within) .none kV11 dc11 pm11 an11 cd11 ct11), sl11⟩) (c11 : PySem.W.codeIn K cd11 "sizes_within" = true) (k11 : PySem.W.keepIn K (.ref f11) = true)
    (a12 : PySem.W.nsIn K mainGlobals "_parts_of" = some (some (.ref f12))) (l12 : K.lookup f12 = some ⟨oc12, od12, .func (PySem.W.fnOf "_parts_of" "_parts_of" (defArgs s__parts_of) (defBody s__parts_of) (defScope s__parts_of) .none kV12 dc12 pm12 an12 cd12 ct12), sl12⟩) (c12 : PySem.W.codeIn K cd12 "_parts_of" = true) (k12 : PySem.W.keepIn K (.ref f12) = true)
    (a13 : PySem.W.nsIn K mainGlobals "_is_row" = some (some (.ref f13))) (l13 : K.lookup f13 = some ⟨oc13, od13, .func (PySem.W.fnOf "_is_row" "_is_row" (defArgs s__is_row) (defBody s__is_row) (defScope s__is_row) .none kV13 dc13 pm13 an13 cd13 ct13), sl13⟩) (c13 : PySem.W.codeIn K cd13 "_is_row" = true) (k13 : PySem.W.keepIn K (.ref f13) = true)
    (a14 : PySem.W.nsIn K mainGlobals "_begins_with" = some (some (.ref f14))) (l14 : K.lookup f14 = some ⟨oc14, od14, .func (PySem.W.fnOf "_begins_with" "_begins_with" (defArgs s__begins_with) (defBody s__begins_with) (defScope s__begins_with) .none kV14 dc14 pm14 an14 cd14 ct14), sl14⟩) (c14 : PySem.W.codeIn K cd14 "_begins_with" = true) (k14 : PySem.W.keepIn K (.ref f14) = true)
    (a15 : PySem.W.nsIn K mainGlobals "is_sure" = some (some (.ref f15))) (l15 : K.lookup f15 = some ⟨oc15, od15, .func (PySem.W.fnOf "is_sure" "is_sure" (defArgs s_is_sure) (defBody s_is_sure) (defScope s_is_sure) .none kV15 dc15 pm15 an15 cd15 ct15), sl15⟩) (c15 : PySem.W.codeIn K cd15 "is_sure" = true) (k15 : PySem.W.keepIn K (.ref f15) = true)
    (a16 : PySem.W.nsIn K mainGlobals "has_conflict" = some (some (.ref f16))) (l16 : K.lookup f16 = some ⟨oc16, od16, .func (PySem.W.fnOf "has_conflict" "has_conflict" (defArgs s_has_conflict) (defBody s_has_conflict) (defScope s_has_conflict) .none kV16 dc16 pm16 an16 cd16 ct16), sl16⟩) (c16 : PySem.W.codeIn K cd16 "has_conflict" = true) (k16 : PySem.W.keepIn K (.ref f16) = true)
    (a17 : PySem.W.nsIn K mainGlobals "_nodes" = some (some (.ref f17))) (l17 : K.lookup f17 = some ⟨oc17, od17, .func (PySem.W.fnOf "_nodes" "_nodes" (defArgs s__nodes) (defBody s__nodes) (defScope s__nodes) .none kV17 dc17 pm17 an17 cd17 ct17), sl17⟩) (c17 : PySem.W.codeIn K cd17 "_nodes" = true) (k17 : PySem.W.keepIn K (.ref f17) = true)
    (a18 : PySem.W.nsIn K mainGlobals "_near" = some (some (.ref f18))) (l18 : K.lookup f18 = some ⟨oc18, od18, .func (PySem.W.fnOf "_near" "_near" (defArgs s__near) (defBody s__near) (defScope s__near) .none kV18 dc18 pm18 an18 cd18 ct18), sl18⟩) (c18 : PySem.W.codeIn K cd18 "_near" = true) (k18 : PySem.W.keepIn K (.ref f18) = true)
    (a19 : PySem.W.nsIn K mainGlobals "_pairs_behind" = some (some (.ref f19))) (l19 : K.lookup f19 = some ⟨oc19, od19, .func (PySem.W.fnOf "_pairs_behind" "_pairs_behind" (defArgs s__pairs_behind) (defBody s__pairs_behind) (defScope s__pairs_behind) .none kV19 dc19 pm19 an19 cd19 ct19), sl19⟩) (c19 : PySem.W.codeIn K cd19 "_pairs_behind" = true) (k19 : PySem.W.keepIn K (.ref f19) = true)
    (a20 : PySem.W.nsIn K mainGlobals "first_doubt" = some (some (.ref f20))) (l20 : K.lookup f20 = some ⟨oc20, od20, .func (PySem.W.fnOf "first_doubt" "first_doubt" (defArgs s_first_doubt) (defBody s_first_doubt) (defScope s_first_doubt) .none kV20 dc20 pm20 an20 cd20 ct20), sl20⟩) (c20 : PySem.W.codeIn K cd20 "first_doubt" = true) (k20 : PySem.W.keepIn K (.ref f20) = true)
    (a21 : PySem.W.nsIn K mainGlobals "doubt_word" = some (some (.ref f21))) (l21 : K.lookup f21 = some ⟨oc21, od21, .func (PySem.W.fnOf "doubt_word" "doubt_word" (defArgs s_doubt_word) (defBody s_doubt_word) (defScope s_doubt_word) .none kV21 dc21 pm21 an21 cd21 ct21), sl21⟩) (c21 : PySem.W.codeIn K cd21 "doubt_word" = true) (k21 : PySem.W.keepIn K (.ref f21) = true)
    (a22 : PySem.W.nsIn K mainGlobals "_first_doubt" = some (some (.ref f22))) (l22 : K.lookup f22 = some ⟨oc22, od22, .func (PySem.W.fnOf "_first_doubt" "_first_doubt" (defArgs s__first_doubt) (defBody s__first_doubt) (defScope s__first_doubt) .none kV22 dc22 pm22 an22 cd22 ct22), sl22⟩) (c22 : PySem.W.codeIn K cd22 "_first_doubt" = true) (k22 : PySem.W.keepIn K (.ref f22) = true)
    (a23 : PySem.W.nsIn K mainGlobals "_levels" = some (some (.ref f23))) (l23 : K.lookup f23 = some ⟨oc23, od23, .func (PySem.W.fnOf "_levels" "_levels" (defArgs s__levels) (defBody s__levels) (defScope s__levels) .none kV23 dc23 pm23 an23 cd23 ct23), sl23⟩) (c23 : PySem.W.codeIn K cd23 "_levels" = true) (k23 : PySem.W.keepIn K (.ref f23) = true)
    (a24 : PySem.W.nsIn K mainGlobals "_law_stream" = some (some (.ref f24))) (l24 : K.lookup f24 = some ⟨oc24, od24, .func (PySem.W.fnOf "_law_stream" "_law_stream" (defArgs s__law_stream) (defBody s__law_stream) (defScope s__law_stream) .none kV24 dc24 pm24 an24 cd24 ct24), sl24⟩) (c24 : PySem.W.codeIn K cd24 "_law_stream" = true) (k24 : PySem.W.keepIn K (.ref f24) = true)
    (a25 : PySem.W.nsIn K mainGlobals "_law_next" = some (some (.ref f25))) (l25 : K.lookup f25 = some ⟨oc25, od25, .func (PySem.W.fnOf "_law_next" "_law_next" (defArgs s__law_next) (defBody s__law_next) (defScope s__law_next) .none kV25 dc25 pm25 an25 cd25 ct25), sl25⟩) (c25 : PySem.W.codeIn K cd25 "_law_next" = true) (k25 : PySem.W.keepIn K (.ref f25) = true)
    (a26 : PySem.W.nsIn K mainGlobals "_law_is_integer" = some (some (.ref f26))) (l26 : K.lookup f26 = some ⟨oc26, od26, .func (PySem.W.fnOf "_law_is_integer" "_law_is_integer" (defArgs s__law_is_integer) (defBody s__law_is_integer) (defScope s__law_is_integer) .none kV26 dc26 pm26 an26 cd26 ct26), sl26⟩) (c26 : PySem.W.codeIn K cd26 "_law_is_integer" = true) (k26 : PySem.W.keepIn K (.ref f26) = true)
    (a27 : PySem.W.nsIn K mainGlobals "_law_equal" = some (some (.ref f27))) (l27 : K.lookup f27 = some ⟨oc27, od27, .func (PySem.W.fnOf "_law_equal" "_law_equal" (defArgs s__law_equal) (defBody s__law_equal) (defScope s__law_equal) .none kV27 dc27 pm27 an27 cd27 ct27), sl27⟩) (c27 : PySem.W.codeIn K cd27 "_law_equal" = true) (k27 : PySem.W.keepIn K (.ref f27) = true)
    (a28 : PySem.W.nsIn K mainGlobals "_law_row" = some (some (.ref f28))) (l28 : K.lookup f28 = some ⟨oc28, od28, .func (PySem.W.fnOf "_law_row" "_law_row" (defArgs s__law_row) (defBody s__law_row) (defScope s__law_row) .none kV28 dc28 pm28 an28 cd28 ct28), sl28⟩) (c28 : PySem.W.codeIn K cd28 "_law_row" = true) (k28 : PySem.W.keepIn K (.ref f28) = true)
    (a29 : PySem.W.nsIn K mainGlobals "_law_expression" = some (some (.ref f29))) (l29 : K.lookup f29 = some ⟨oc29, od29, .func (PySem.W.fnOf "_law_expression" "_law_expression" (defArgs s__law_expression) (defBody s__law_expression) (defScope s__law_expression) .none kV29 dc29 pm29 an29 cd29 ct29), sl29⟩) (c29 : PySem.W.codeIn K cd29 "_law_expression" = true) (k29 : PySem.W.keepIn K (.ref f29) = true)
    (a30 : PySem.W.nsIn K mainGlobals "_law_letters" = some (some (.ref f30))) (l30 : K.lookup f30 = some ⟨oc30, od30, .func (PySem.W.fnOf "_law_letters" "_law_letters" (defArgs s__law_letters) (defBody s__law_letters) (defScope s__law_letters) .none kV30 dc30 pm30 an30 cd30 ct30), sl30⟩) (c30 : PySem.W.codeIn K cd30 "_law_letters" = true) (k30 : PySem.W.keepIn K (.ref f30) = true)
    (a31 : PySem.W.nsIn K mainGlobals "_law_tables" = some (some (.ref f31))) (l31 : K.lookup f31 = some ⟨oc31, od31, .func (PySem.W.fnOf "_law_tables" "_law_tables" (defArgs s__law_tables) (defBody s__law_tables) (defScope s__law_tables) .none kV31 dc31 pm31 an31 cd31 ct31), sl31⟩) (c31 : PySem.W.codeIn K cd31 "_law_tables" = true) (k31 : PySem.W.keepIn K (.ref f31) = true)
    (a32 : PySem.W.nsIn K mainGlobals "_law_follow" = some (some (.ref f32))) (l32 : K.lookup f32 = some ⟨oc32, od32, .func (PySem.W.fnOf "_law_follow" "_law_follow" (defArgs s__law_follow) (defBody s__law_follow) (defScope s__law_follow) .none kV32 dc32 pm32 an32 cd32 ct32), sl32⟩) (c32 : PySem.W.codeIn K cd32 "_law_follow" = true) (k32 : PySem.W.keepIn K (.ref f32) = true)
    (a33 : PySem.W.nsIn K mainGlobals "_law_pairs" = some (some (.ref f33))) (l33 : K.lookup f33 = some ⟨oc33, od33, .func (PySem.W.fnOf "_law_pairs" "_law_pairs" (defArgs s__law_pairs) (defBody s__law_pairs) (defScope s__law_pairs) .none kV33 dc33 pm33 an33 cd33 ct33), sl33⟩) (c33 : PySem.W.codeIn K cd33 "_law_pairs" = true) (k33 : PySem.W.keepIn K (.ref f33) = true)
    (a34 : PySem.W.nsIn K mainGlobals "law" = some (some (.ref f34))) (l34 : K.lookup f34 = some ⟨oc34, od34, .func (PySem.W.fnOf "law" "law" (defArgs s_law) (defBody s_law) (defScope s_law) .none kV34 dc34 pm34 an34 cd34 ct34), sl34⟩) (c34 : PySem.W.codeIn K cd34 "law" = true) (k34 : PySem.W.keepIn K (.ref f34) = true)
    (z_ValueError : PySem.W.nsIn K mainGlobals "ValueError" = some none) (z_abs : PySem.W.nsIn K mainGlobals "abs" = some none) (z_all : PySem.W.nsIn K mainGlobals "all" = some none) (z_any : PySem.W.nsIn K mainGlobals "any" = some none) (z_bool : PySem.W.nsIn K mainGlobals "bool" = some none) (z_enumerate : PySem.W.nsIn K mainGlobals "enumerate" = some none) (z_int : PySem.W.nsIn K mainGlobals "int" = some none) (z_isinstance : PySem.W.nsIn K mainGlobals "isinstance" = some none) (z_len : PySem.W.nsIn K mainGlobals "len" = some none) (z_list : PySem.W.nsIn K mainGlobals "list" = some none) (z_max : PySem.W.nsIn K mainGlobals "max" = some none) (z_min : PySem.W.nsIn K mainGlobals "min" = some none) (z_range : PySem.W.nsIn K mainGlobals "range" = some none) (z_reversed : PySem.W.nsIn K mainGlobals "reversed" = some none) (z_sorted : PySem.W.nsIn K mainGlobals "sorted" = some none) (z_str : PySem.W.nsIn K mainGlobals "str" = some none) (z_super : PySem.W.nsIn K mainGlobals "super" = some none) (z_tuple : PySem.W.nsIn K mainGlobals "tuple" = some none)
    {tL tB tG1 tG2 tG3 : Tok} {aG : Addr} {dG : Option Addr} {nG : Nat} {slG : Array (Option Value)}
    (gL : PySem.W.nsIn K mainGlobals "LETTERS" = some (some (.str "abcd" tL)))
    (gG : PySem.W.nsIn K mainGlobals "LONG_BOUNDS" = some (some (.ref aG))) (lG : K.lookup aG = some ⟨.type "tuple", dG, .seq #[.int 40 tG1, .int 40 tG2, .int 200 tG3] nG, slG⟩)
    {CS fI : Addr} {odI anI : Option Addr} {slI : Array (Option Value)} {ocI kVI dcI pmI cdI ctI : Value}
    (aS : PySem.W.nsIn K mainGlobals "Steps" = some (some (.ref CS))) (aI : PySem.W.findIn K (.ref CS) "__init__" = some (some (.ref fI))) (iI : PySem.W.isFn K (.ref fI) = true)
    (lI : K.lookup fI = some ⟨ocI, odI, .func (PySem.W.fnOf "__init__" "Steps.__init__" (defArgs s_Steps___init__) (defBody s_Steps___init__) (defScope s_Steps___init__) .none kVI dcI pmI anI cdI ctI), slI⟩) (cI : PySem.W.codeIn K cdI "Steps.__init__" = true) (kI : PySem.W.keepIn K (.ref fI) = true)
    (pgS : PySem.W.plainGet K CS Str.empty = true) (hdS : PySem.W.hasDictIn K CS = true) (poS : PySem.W.plainOver K CS = true) (saS : PySem.W.findIn K (.ref CS) "__setattr__" = some (some (.builtin "object.__setattr__"))) (mkS : PySem.W.makesIn K CS = true) (kcS : PySem.W.keepIn K (.ref CS) = true)
    (n1 : PySem.W.findIn K (.ref CS) "letters" = some none) (n2 : PySem.W.findIn K (.ref CS) "empty" = some none) (n3 : PySem.W.findIn K (.ref CS) "first" = some none) (n4 : PySem.W.findIn K (.ref CS) "last" = some none) (n5 : PySem.W.findIn K (.ref CS) "following" = some none)
    (gB : PySem.W.nsIn K mainGlobals "BEGIN" = some (some (.int (-1) tB))) :
    ∃ fd : FuncData, (∀ (s : Shared) (v : Value), BindsTo s fd ⟨[v], []⟩ [("script", v)]) ∧ ∀ base : Heap, K.In base → base.Ns mainGlobals mg → FnOk l.prog w K mg base CX0 90 fa fd ["script"] (spLaw K) := by
  have F1 := fun_mk (st := s_steps_of) l1 c1 k1
  have b1 := F1.binds (ps := ["expression"]) fun _ _ _ _ _ _ us hl => match us, hl with | [_], _ => rfl
  have D_steps_of : Df K mg "steps_of" s_steps_of ["expression"] f1 _ := ⟨F1, b1, PySem.W.mg_of X G a1⟩
  have F2 := fun_mk (st := s__ends_of) l2 c2 k2
  have b2 := F2.binds (ps := ["part", "letters", "rows"]) fun _ _ _ _ _ _ us hl => match us, hl with | [_, _, _], _ => rfl
  have D__ends_of : Df K mg "_ends_of" s__ends_of ["part", "letters", "rows"] f2 _ := ⟨F2, b2, PySem.W.mg_of X G a2⟩
  have F3 := fun_mk (st := s__ends_of_leaf) l3 c3 k3
  have b3 := F3.binds (ps := ["part", "letters", "rows"]) fun _ _ _ _ _ _ us hl => match us, hl with | [_, _, _], _ => rfl
  have D__ends_of_leaf : Df K mg "_ends_of_leaf" s__ends_of_leaf ["part", "letters", "rows"] f3 _ := ⟨F3, b3, PySem.W.mg_of X G a3⟩
  have F4 := fun_mk (st := s__ends_of_join) l4 c4 k4
  have b4 := F4.binds (ps := ["parts", "letters", "rows"]) fun _ _ _ _ _ _ us hl => match us, hl with | [_, _, _], _ => rfl
  have D__ends_of_join : Df K mg "_ends_of_join" s__ends_of_join ["parts", "letters", "rows"] f4 _ := ⟨F4, b4, PySem.W.mg_of X G a4⟩
  have F5 := fun_mk (st := s__ends_of_or) l5 c5 k5
  have b5 := F5.binds (ps := ["parts", "letters", "rows"]) fun _ _ _ _ _ _ us hl => match us, hl with | [_, _, _], _ => rfl
  have D__ends_of_or : Df K mg "_ends_of_or" s__ends_of_or ["parts", "letters", "rows"] f5 _ := ⟨F5, b5, PySem.W.mg_of X G a5⟩
  have F6 := fun_mk (st := s__link) l6 c6 k6
  have b6 := F6.binds (ps := ["rows", "ends", "begins"]) fun _ _ _ _ _ _ us hl => match us, hl with | [_, _, _], _ => rfl
  have D__link : Df K mg "_link" s__link ["rows", "ends", "begins"] f6 _ := ⟨F6, b6, PySem.W.mg_of X G a6⟩
  have F7 := fun_mk (st := s_by_letter) l7 c7 k7
  have b7 := F7.binds (ps := ["steps", "near"]) fun _ _ _ _ _ _ us hl => match us, hl with | [_, _], _ => rfl
  have D_by_letter : Df K mg "by_letter" s_by_letter ["steps", "near"] f7 _ := ⟨F7, b7, PySem.W.mg_of X G a7⟩
  have F8 := fun_mk (st := s_is_long) l8 c8 k8
  have b8 := F8.binds (ps := ["value"]) fun _ _ _ _ _ _ us hl => match us, hl with | [_], _ => rfl
  have D_is_long : Df K mg "is_long" s_is_long ["value"] f8 _ := ⟨F8, b8, PySem.W.mg_of X G a8⟩
  have F9 := fun_mk (st := s_is_letter) l9 c9 k9
  have b9 := F9.binds (ps := ["value"]) fun _ _ _ _ _ _ us hl => match us, hl with | [_], _ => rfl
  have D_is_letter : Df K mg "is_letter" s_is_letter ["value"] f9 _ := ⟨F9, b9, PySem.W.mg_of X G a9⟩
  have F10 := fun_mk (st := s_check_long) l10 c10 k10
  have b10 := F10.binds (ps := ["value"]) fun _ _ _ _ _ _ us hl => match us, hl with | [_], _ => rfl
  have D_check_long : Df K mg "check_long" s_check_long ["value"] f10 _ := ⟨F10, b10, PySem.W.mg_of X G a10⟩
  have F11 := fun_mk (st := s_sizes_within) l11 c11 k11
  have b11 := F11.binds (ps := ["value", "bounds"]) fun _ _ _ _ _ _ us hl => match us, hl with | [_, _], _ => rfl
  have D_sizes_within : Df K mg "sizes_within" s_sizes_within ["value", "bounds"] f11 _ := ⟨F11, b11, PySem.W.mg_of X G a11⟩
  have F12 := fun_mk (st := s__parts_of) l12 c12 k12
  have b12 := F12.binds (ps := ["value"]) fun _ _ _ _ _ _ us hl => match us, hl with | [_], _ => rfl
  have D__parts_of : Df K mg "_parts_of" s__parts_of ["value"] f12 _ := ⟨F12, b12, PySem.W.mg_of X G a12⟩
  have F13 := fun_mk (st := s__is_row) l13 c13 k13
  have b13 := F13.binds (ps := ["word", "value"]) fun _ _ _ _ _ _ us hl => match us, hl with | [_, _], _ => rfl
  have D__is_row : Df K mg "_is_row" s__is_row ["word", "value"] f13 _ := ⟨F13, b13, PySem.W.mg_of X G a13⟩
  have F14 := fun_mk (st := s__begins_with) l14 c14 k14
  have b14 := F14.binds (ps := ["value", "word"]) fun _ _ _ _ _ _ us hl => match us, hl with | [_, _], _ => rfl
  have D__begins_with : Df K mg "_begins_with" s__begins_with ["value", "word"] f14 _ := ⟨F14, b14, PySem.W.mg_of X G a14⟩
  have F15 := fun_mk (st := s_is_sure) l15 c15 k15
  have b15 := F15.binds (ps := ["expression"]) fun _ _ _ _ _ _ us hl => match us, hl with | [_], _ => rfl
  have D_is_sure : Df K mg "is_sure" s_is_sure ["expression"] f15 _ := ⟨F15, b15, PySem.W.mg_of X G a15⟩
  have F16 := fun_mk (st := s_has_conflict) l16 c16 k16
  have b16 := F16.binds (ps := ["steps"]) fun _ _ _ _ _ _ us hl => match us, hl with | [_], _ => rfl
  have D_has_conflict : Df K mg "has_conflict" s_has_conflict ["steps"] f16 _ := ⟨F16, b16, PySem.W.mg_of X G a16⟩
  have F17 := fun_mk (st := s__nodes) l17 c17 k17
  have b17 := F17.binds (ps := ["steps"]) fun _ _ _ _ _ _ us hl => match us, hl with | [_], _ => rfl
  have D__nodes : Df K mg "_nodes" s__nodes ["steps"] f17 _ := ⟨F17, b17, PySem.W.mg_of X G a17⟩
  have F18 := fun_mk (st := s__near) l18 c18 k18
  have b18 := F18.binds (ps := ["steps", "node"]) fun _ _ _ _ _ _ us hl => match us, hl with | [_, _], _ => rfl
  have D__near : Df K mg "_near" s__near ["steps", "node"] f18 _ := ⟨F18, b18, PySem.W.mg_of X G a18⟩
  have F19 := fun_mk (st := s__pairs_behind) l19 c19 k19
  have b19 := F19.binds (ps := ["steps", "node"]) fun _ _ _ _ _ _ us hl => match us, hl with | [_, _], _ => rfl
  have D__pairs_behind : Df K mg "_pairs_behind" s__pairs_behind ["steps", "node"] f19 _ := ⟨F19, b19, PySem.W.mg_of X G a19⟩
  have F20 := fun_mk (st := s_first_doubt) l20 c20 k20
  have b20 := F20.binds (ps := ["expression"]) fun _ _ _ _ _ _ us hl => match us, hl with | [_], _ => rfl
  have D_first_doubt : Df K mg "first_doubt" s_first_doubt ["expression"] f20 _ := ⟨F20, b20, PySem.W.mg_of X G a20⟩
  have F21 := fun_mk (st := s_doubt_word) l21 c21 k21
  have b21 := F21.binds (ps := ["expression"]) fun _ _ _ _ _ _ us hl => match us, hl with | [_], _ => rfl
  have D_doubt_word : Df K mg "doubt_word" s_doubt_word ["expression"] f21 _ := ⟨F21, b21, PySem.W.mg_of X G a21⟩
  have F22 := fun_mk (st := s__first_doubt) l22 c22 k22
  have b22 := F22.binds (ps := ["steps"]) fun _ _ _ _ _ _ us hl => match us, hl with | [_], _ => rfl
  have D__first_doubt : Df K mg "_first_doubt" s__first_doubt ["steps"] f22 _ := ⟨F22, b22, PySem.W.mg_of X G a22⟩
  have F23 := fun_mk (st := s__levels) l23 c23 k23
  have b23 := F23.binds (ps := ["steps"]) fun _ _ _ _ _ _ us hl => match us, hl with | [_], _ => rfl
  have D__levels : Df K mg "_levels" s__levels ["steps"] f23 _ := ⟨F23, b23, PySem.W.mg_of X G a23⟩
  have F24 := fun_mk (st := s__law_stream) l24 c24 k24
  have b24 := F24.binds (ps := ["script"]) fun _ _ _ _ _ _ us hl => match us, hl with | [_], _ => rfl
  have D__law_stream : Df K mg "_law_stream" s__law_stream ["script"] f24 _ := ⟨F24, b24, PySem.W.mg_of X G a24⟩
  have F25 := fun_mk (st := s__law_next) l25 c25 k25
  have b25 := F25.binds (ps := ["stream", "many"]) fun _ _ _ _ _ _ us hl => match us, hl with | [_, _], _ => rfl
  have D__law_next : Df K mg "_law_next" s__law_next ["stream", "many"] f25 _ := ⟨F25, b25, PySem.W.mg_of X G a25⟩
  have F26 := fun_mk (st := s__law_is_integer) l26 c26 k26
  have b26 := F26.binds (ps := ["actual"]) fun _ _ _ _ _ _ us hl => match us, hl with | [_], _ => rfl
  have D__law_is_integer : Df K mg "_law_is_integer" s__law_is_integer ["actual"] f26 _ := ⟨F26, b26, PySem.W.mg_of X G a26⟩
  have F27 := fun_mk (st := s__law_equal) l27 c27 k27
  have b27 := F27.binds (ps := ["actual", "due"]) fun _ _ _ _ _ _ us hl => match us, hl with | [_, _], _ => rfl
  have D__law_equal : Df K mg "_law_equal" s__law_equal ["actual", "due"] f27 _ := ⟨F27, b27, PySem.W.mg_of X G a27⟩
  have F28 := fun_mk (st := s__law_row) l28 c28 k28
  have b28 := F28.binds (ps := ["word", "first", "second"]) fun _ _ _ _ _ _ us hl => match us, hl with | [_, _, _], _ => rfl
  have D__law_row : Df K mg "_law_row" s__law_row ["word", "first", "second"] f28 _ := ⟨F28, b28, PySem.W.mg_of X G a28⟩
  have F29 := fun_mk (st := s__law_expression) l29 c29 k29
  have b29 := F29.binds (ps := ["stream", "most", "letters"]) fun _ _ _ _ _ _ us hl => match us, hl with | [_, _, _], _ => rfl
  have D__law_expression : Df K mg "_law_expression" s__law_expression ["stream", "most", "letters"] f29 _ := ⟨F29, b29, PySem.W.mg_of X G a29⟩
  have F30 := fun_mk (st := s__law_letters) l30 c30 k30
  have b30 := F30.binds (ps := ["expression"]) fun _ _ _ _ _ _ us hl => match us, hl with | [_], _ => rfl
  have D__law_letters : Df K mg "_law_letters" s__law_letters ["expression"] f30 _ := ⟨F30, b30, PySem.W.mg_of X G a30⟩
  have F31 := fun_mk (st := s__law_tables) l31 c31 k31
  have b31 := F31.binds (ps := ["expression", "shift"]) fun _ _ _ _ _ _ us hl => match us, hl with | [_, _], _ => rfl
  have D__law_tables : Df K mg "_law_tables" s__law_tables ["expression", "shift"] f31 _ := ⟨F31, b31, PySem.W.mg_of X G a31⟩
  have F32 := fun_mk (st := s__law_follow) l32 c32 k32
  have b32 := F32.binds (ps := ["tables", "many"]) fun _ _ _ _ _ _ us hl => match us, hl with | [_, _], _ => rfl
  have D__law_follow : Df K mg "_law_follow" s__law_follow ["tables", "many"] f32 _ := ⟨F32, b32, PySem.W.mg_of X G a32⟩
  have F33 := fun_mk (st := s__law_pairs) l33 c33 k33
  have b33 := F33.binds (ps := ["letters", "places"]) fun _ _ _ _ _ _ us hl => match us, hl with | [_, _], _ => rfl
  have D__law_pairs : Df K mg "_law_pairs" s__law_pairs ["letters", "places"] f33 _ := ⟨F33, b33, PySem.W.mg_of X G a33⟩
  have F34 := fun_mk (st := s_law) l34 c34 k34
  have b34 := F34.binds (ps := ["script"]) fun _ _ _ _ _ _ us hl => match us, hl with | [_], _ => rfl
  have D_law : Df K mg "law" s_law ["script"] f34 _ := ⟨F34, b34, PySem.W.mg_of X G a34⟩
  have B : Bt K mg aG aG tL tL := ⟨PySem.W.mg_none_of X G z_ValueError, PySem.W.mg_none_of X G z_abs, PySem.W.mg_none_of X G z_all, PySem.W.mg_none_of X G z_any, PySem.W.mg_none_of X G z_bool, PySem.W.mg_none_of X G z_enumerate, PySem.W.mg_none_of X G z_int, PySem.W.mg_none_of X G z_isinstance, PySem.W.mg_none_of X G z_len, PySem.W.mg_none_of X G z_list, PySem.W.mg_none_of X G z_max, PySem.W.mg_none_of X G z_min, PySem.W.mg_none_of X G z_range, PySem.W.mg_none_of X G z_reversed, PySem.W.mg_none_of X G z_sorted, PySem.W.mg_none_of X G z_str, PySem.W.mg_none_of X G z_super, PySem.W.mg_none_of X G z_tuple, PySem.W.mg_of X G gL, PySem.W.mg_of X G gG, fun H => .inr ⟨_, _, _, lG, rfl, rfl, (by show 3 ≤ sizeLine; decide), .cons ⟨_, rfl⟩ (.cons ⟨_, rfl⟩ (.cons ⟨_, rfl⟩ .nil))⟩, ⟨_, PySem.W.mg_of X G gB⟩⟩
  have FI := fun_mk (st := s_Steps___init__) lI cI kI
  have bI := FI.binds (ps := ["self", "letters", "empty", "first", "last", "following"]) fun _ _ _ _ _ _ us hl => match us, hl with | [_, _, _, _, _, _], _ => rfl
  have T : StTxt K CS := ⟨⟨pgS, hdS, poS, saS⟩, n1, n2, n3, n4, n5⟩
  have e := hfa.symm.trans D_law.g
  cases e
  refine ⟨(PySem.W.fnOf "law" "law" (defArgs s_law) (defBody s_law) (defScope s_law) .none kV34 dc34 pm34 an34 cd34 ct34), fun s v => .of_eq rfl, fun base _ _ => ?_⟩
  have MS : Ck l.prog w K mg base 1 "Steps" ["self", "letters", "empty", "first", "last", "following"] (spInit CS) CS := ⟨fI, _, ⟨mkS, aI, iI, kcS⟩, ok_stepsinit FI T, bI, PySem.W.mg_of X G aS⟩
  have C_is_letter := D_is_letter.cl (ok_letter (P := l.prog) (w := w) (base := base) B D_is_letter)
  have C_begins := D__begins_with.cl (ok_begins (P := l.prog) (w := w) (base := base) B D__begins_with)
  have C_isrow := D__is_row.cl (ok_isrow (P := l.prog) (w := w) (base := base) B D__is_row C_begins)
  have C_parts := D__parts_of.cl (ok_parts (P := l.prog) (w := w) (base := base) B D__parts_of C_is_letter C_isrow)
  have C_sizes := D_sizes_within.cl (ok_sizes (P := l.prog) (w := w) (base := base) B D_sizes_within C_parts)
  have C_is_long := D_is_long.cl (ok_islong (P := l.prog) (w := w) (base := base) B D_is_long C_sizes)
  have C_check_long := D_check_long.cl (ok_checklong (P := l.prog) (w := w) (base := base) B D_check_long C_is_long)
  have C_link := D__link.cl (ok_link (P := l.prog) (w := w) (base := base) B D__link)
  have C_leaf := D__ends_of_leaf.cl (ok_leaf (P := l.prog) (w := w) (base := base) B D__ends_of_leaf)
  have C_ends := D__ends_of.cl (all_ends (P := l.prog) (w := w) (base := base) B D__ends_of D__ends_of_join D__ends_of_or C_link C_leaf 42)
  have C_steps := D_steps_of.cl (ok_stepsof (P := l.prog) (w := w) (base := base) B D_steps_of C_ends MS)
  have C__law_stream := D__law_stream.cl (ok_stream (P := l.prog) (w := w) (base := base) B D__law_stream)
  have C__law_next := D__law_next.cl (ok_next (P := l.prog) (w := w) (base := base) B D__law_next)
  have C__law_row := D__law_row.cl (ok_row2 (P := l.prog) (w := w) (base := base) B D__law_row)
  have C__law_expression := D__law_expression.cl (ok_expr2 (P := l.prog) (w := w) (base := base) B D__law_expression C__law_next C__law_row)
  have C__law_letters := D__law_letters.cl (all_letters2 (P := l.prog) (w := w) (base := base) B D__law_letters 13)
  have C__law_tables := D__law_tables.cl (all_tables (P := l.prog) (w := w) (base := base) B D__law_tables D__law_letters 13)
  have C__law_is_integer := D__law_is_integer.cl (ok_isint (P := l.prog) (w := w) (base := base) B D__law_is_integer)
  have C__law_equal := D__law_equal.cl (all_equal (P := l.prog) (w := w) (base := base) B D__law_equal C__law_is_integer 5)
  have C_byl := D_by_letter.cl (ok_byletter (P := l.prog) (w := w) (base := base) T B D_by_letter)
  have C_nodes := D__nodes.cl (ok_nodes (P := l.prog) (w := w) (base := base) T B D__nodes)
  have C_near := D__near.cl (ok_near (P := l.prog) (w := w) (base := base) T B D__near)
  have C_pairs := D__pairs_behind.cl (ok_pairs (P := l.prog) (w := w) (base := base) T B D__pairs_behind C_byl C_near)
  have C_hasc := D_has_conflict.cl (ok_hasc (P := l.prog) (w := w) (base := base) T B D_has_conflict C_nodes C_pairs)
  have C_sure := D_is_sure.cl (ok_sure (P := l.prog) (w := w) (base := base) T B D_is_sure C_check_long C_steps C_hasc)
  have C_follow := D__law_follow.cl (ok_follow (P := l.prog) (w := w) (base := base) B D__law_follow)
  have C_lpairs := D__law_pairs.cl (ok_lpairs (P := l.prog) (w := w) (base := base) B D__law_pairs)
  have C_levels := D__levels.cl (ok_levels (P := l.prog) (w := w) (base := base) T B D__levels C_nodes C_pairs C_near)
  have C_fd0 := D__first_doubt.cl (ok_fd0 (P := l.prog) (w := w) (base := base) T B D__first_doubt C_hasc C_levels C_pairs C_near)
  have C_fd := D_first_doubt.cl (ok_fd (P := l.prog) (w := w) (base := base) T B D_first_doubt C_check_long C_steps C_fd0)
  have C_dw := D_doubt_word.cl (ok_dw (P := l.prog) (w := w) (base := base) T B D_doubt_word C_check_long C_steps C_fd0)
  exact ok_law B D_law C__law_stream C__law_next C__law_expression C__law_letters C__law_tables C_follow C_lpairs C__law_equal C_fd C_dw C_sure
theorem walk {l : PySem.W.OpenLaw} {q : Program} {loose : List Str} {XP : (Str → Option Value) → Heap → Prop} {YP : World → Heap → Prop} {d : DefRec} {K : Params → PySem.W.Frag} (hn : l.most = some 63) (hdf : d.params.defaults = [])
    (hY : ∀ (w : World) (h : Heap), YP w h → (K w.params).In h)
    (F : ∀ (w : World) (mg : Str → Option Value) (fa : Addr) (h : Heap), (K w.params).In h → h.Ns mainGlobals mg → mg d.name = some (.ref fa) →
      ∃ fd : FuncData, (∀ (s : Shared) (u : Value), BindsTo s fd ⟨[u], []⟩ [("script", u)]) ∧ ∀ base : Heap, (K w.params).In base → base.Ns mainGlobals mg → FnOk l.prog w (K w.params) mg base CX0 90 fa fd ["script"] (spLaw (K w.params))) :
    PySem.W.WalkO q loose XP YP l.row.toRowW d [] (fun f vs => PySem.call f vs) :=
  L2.walk_of (n := 63) (k := 90) (x := "script") (CX := fun _ => CX0) (sp := fun w => spLaw (K w.params)) hn (by decide) hdf ⟨rfl, by decide, by decide⟩ hY F (fun _ _ a ns hl _ hS => ⟨a, ns, rfl, hS, hl, fun _ => rfl⟩) fun _ _ _ _ _ z => z
end My
open PySem PySem.W PyProof.Rows
set_option maxRecDepth 100000 in
set_option maxHeartbeats 0 in
theorem PySem.Challenge.cw_nodoubt_k17_whole_first_doubts_holds : PySem.Challenge.rw_nodoubt_k17_whole_first_doubts.Holds := by
  w_on; o_law; k_head; (case hw => w_witness2)
  k_fill
  refine My.walk (l := PySem.Challenge.rw_nodoubt_k17_whole_first_doubts) rfl rfl (fun w h Y => PySem.W.kIn_of Y) ?F
  case F =>
    intro w mg fa h KX G hmg
    refine' My.all_mk KX G hmg ?a1 ?l1 ?c1 ?k1 ?a2 ?l2 ?c2 ?k2 ?a3 ?l3 ?c3 ?k3 ?a4 ?l4 ?c4 ?k4 ?a5 ?l5 ?c5 ?k5 ?a6 ?l6 ?c6 ?k6 ?a7 ?l7 ?c7 ?k7 ?a8 ?l8 ?c8 ?k8 ?a9 ?l9 ?c9 ?k9 ?a10 ?l10 ?c10 ?k10 ?a11 ?l11 ?c11 ?k11 ?a12 ?l12 ?c12 ?k12 ?a13 ?l13 ?c13 ?k13 ?a14 ?l14 ?c14 ?k14 ?a15 ?l15 ?c15 ?k15 ?a16 ?l16 ?c16 ?k16 ?a17 ?l17 ?c17 ?k17 ?a18 ?l18 ?c18 ?k18 ?a19 ?l19 ?c19 ?k19 ?a20 ?l20 ?c20 ?k20 ?a21 ?l21 ?c21 ?k21 ?a22 ?l22 ?c22 ?k22 ?a23 ?l23 ?c23 ?k23 ?a24 ?l24 ?c24 ?k24 ?a25 ?l25 ?c25 ?k25 ?a26 ?l26 ?c26 ?k26 ?a27 ?l27 ?c27 ?k27 ?a28 ?l28 ?c28 ?k28 ?a29 ?l29 ?c29 ?k29 ?a30 ?l30 ?c30 ?k30 ?a31 ?l31 ?c31 ?k31 ?a32 ?l32 ?c32 ?k32 ?a33 ?l33 ?c33 ?k33 ?a34 ?l34 ?c34 ?k34 ?z_ValueError ?z_abs ?z_all ?z_any ?z_bool ?z_enumerate ?z_int ?z_isinstance ?z_len ?z_list ?z_max ?z_min ?z_range ?z_reversed ?z_sorted ?z_str ?z_super ?z_tuple ?gL ?gG ?lG ?aS ?aI ?iI ?lI ?cI ?kI ?pgS ?hdS ?poS ?saS ?mkS ?kcS ?n1 ?n2 ?n3 ?n4 ?n5 ?gB
    (case a1 => k_is); (case l1 => k_is); (case c1 => k_is); (case k1 => k_is); (case a2 => k_is); (case l2 => k_is); (case c2 => k_is); (case k2 => k_is); (case a3 => k_is); (case l3 => k_is); (case c3 => k_is); (case k3 => k_is); (case a4 => k_is); (case l4 => k_is); (case c4 => k_is); (case k4 => k_is); (case a5 => k_is); (case l5 => k_is); (case c5 => k_is); (case k5 => k_is); (case a6 => k_is); (case l6 => k_is); (case c6 => k_is); (case k6 => k_is); (case a7 => k_is); (case l7 => k_is); (case c7 => k_is); (case k7 => k_is); (case a8 => k_is); (case l8 => k_is); (case c8 => k_is); (case k8 => k_is); (case a9 => k_is); (case l9 => k_is); (case c9 => k_is); (case k9 => k_is); (case a10 => k_is); (case l10 => k_is); (case c10 => k_is); (case k10 => k_is); (case a11 => k_is); (case l11 => k_is); (case c11 => k_is); (case k11 => k_is); (case a12 => k_is); (case l12 => k_is); (case c12 => k_is); (case k12 => k_is); (case a13 => k_is); (case l13 => k_is); (case c13 => k_is); (case k13 => k_is); (case a14 => k_is); (case l14 => k_is); (case c14 => k_is); (case k14 => k_is); (case a15 => k_is); (case l15 => k_is); (case c15 => k_is); (case k15 => k_is); (case a16 => k_is); (case l16 => k_is); (case c16 => k_is); (case k16 => k_is); (case a17 => k_is); (case l17 => k_is); (case c17 => k_is); (case k17 => k_is); (case a18 => k_is); (case l18 => k_is); (case c18 => k_is); (case k18 => k_is); (case a19 => k_is); (case l19 => k_is); (case c19 => k_is); (case k19 => k_is); (case a20 => k_is); (case l20 => k_is); (case c20 => k_is); (case k20 => k_is); (case a21 => k_is); (case l21 => k_is); (case c21 => k_is); (case k21 => k_is); (case a22 => k_is); (case l22 => k_is); (case c22 => k_is); (case k22 => k_is); (case a23 => k_is); (case l23 => k_is); (case c23 => k_is); (case k23 => k_is); (case a24 => k_is); (case l24 => k_is); (case c24 => k_is); (case k24 => k_is); (case a25 => k_is); (case l25 => k_is); (case c25 => k_is); (case k25 => k_is); (case a26 => k_is); (case l26 => k_is); (case c26 => k_is); (case k26 => k_is); (case a27 => k_is); (case l27 => k_is); (case c27 => k_is); (case k27 => k_is); (case a28 => k_is); (case l28 => k_is); (case c28 => k_is); (case k28 => k_is); (case a29 => k_is); (case l29 => k_is); (case c29 => k_is); (case k29 => k_is); (case a30 => k_is); (case l30 => k_is); (case c30 => k_is); (case k30 => k_is); (case a31 => k_is); (case l31 => k_is); (case c31 => k_is); (case k31 => k_is); (case a32 => k_is); (case l32 => k_is); (case c32 => k_is); (case k32 => k_is); (case a33 => k_is); (case l33 => k_is); (case c33 => k_is); (case k33 => k_is); (case a34 => k_is); (case l34 => k_is); (case c34 => k_is); (case k34 => k_is); (case z_ValueError => k_is); (case z_abs => k_is); (case z_all => k_is); (case z_any => k_is); (case z_bool => k_is); (case z_enumerate => k_is); (case z_int => k_is); (case z_isinstance => k_is); (case z_len => k_is); (case z_list => k_is); (case z_max => k_is); (case z_min => k_is); (case z_range => k_is); (case z_reversed => k_is); (case z_sorted => k_is); (case z_str => k_is); (case z_super => k_is); (case z_tuple => k_is)
    (case gL => k_is); (case gG => k_is); (case lG => k_is)
    (case aS => k_is); (case aI => k_is); (case iI => k_is); (case lI => k_is); (case cI => k_is); (case kI => k_is)
    (case pgS => k_is); (case hdS => k_is); (case poS => k_is); (case saS => k_is); (case mkS => k_is); (case kcS => k_is)
    (case n1 => k_is); (case n2 => k_is); (case n3 => k_is); (case n4 => k_is); (case n5 => k_is); (case gB => k_is)
