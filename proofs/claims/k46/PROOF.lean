import PyProof.Rows.All
import Wide.All
import OpenK.AllK
import Wide.FinOn
import HandS.ForMost
import HandS.IsInst
import HandS.TupAny
import HandS.TupMul
import HandS.Codes
import HandS.Style
import HandS.Wide
import PyProof.StrBlock2
import HandS.DictComp
import HandS.TupLe
import HandS.Dict
import HandS.List
import HandS.Flow
import HandS.Text
import HandS.DictTup
import HandS.SortInts
import HandS.Iter
import KE.KDictWalk
import KE.KItemsList
import HandS.More
import HandS.Deep
import PyProof.P3In
import PySem.Challenge.RW_nodoubt_k46_reached_states_and_orbits
set_option Elab.async false
set_option maxRecDepth 100000
set_option linter.all false
namespace My
open PySem PySem.Spec PyProof.Rows L2
/-! ### a def of the text, and what a caller needs of it -/
structure Df (K : PySem.W.Frag) (mg : Str → Option Value) (x : Str) (st : Stmt) (ps : List Str) (f : Addr) (fd : FuncData) : Prop where
  F : Fun K x x st f fd
  b : Binds K fd ps []
  g : mg x = some (.ref f)
structure Cl (P : Program) (w : World) (K : PySem.W.Frag) (mg : Str → Option Value) (base : Heap) (k : Nat) (x : Str) (ps : List Str) (sp : Sp) : Prop where
  ex : ∃ (f : Addr) (fd : FuncData), FnOk P w K mg base CX0 k f fd ps sp ∧ Binds K fd ps [] ∧ mg x = some (.ref f) ∧ PySem.W.keepIn K (.ref f) = true
theorem Df.cl {P : Program} {w : World} {K : PySem.W.Frag} {mg : Str → Option Value} {base : Heap} {x : Str} {st : Stmt} {ps : List Str} {f : Addr} {fd : FuncData} {k : Nat} {sp : Sp} (D : Df K mg x st ps f fd) (h : FnOk P w K mg base CX0 k f fd ps sp) : Cl P w K mg base k x ps sp :=
  ⟨f, fd, h, D.b, D.g, D.F.kp⟩
theorem pe_cl {X : Cx} {k : Nat} {x : Str} {ps : List Str} {sp : Sp} {p pos : Pos} {e : Expr} {es : List Expr} {t : TA} (C : Cl X.prog X.w X.K X.mg X.base k x ps sp) (hr : Room k X.A) (hg : Gl X x) (ha : PA X (e :: es) t)
    (hdb : (x == ("__debug__" : Str)) = false := by decide) (he : starEach (e :: es) X.env = (false, eval e X.env) :: starEach es X.env := by rfl) (hpl : (backTo pos (starEach es X.env)).any (·.1) = false := by rfl) :
    PE X (.Call (.Name x p) (e :: es) [] pos) (tCall sp [] E0 t) := by
  obtain ⟨f, fd, F, b, m, kp⟩ := C.ex
  exact pe_call F hr hg m kp b .nil pass0 ha hdb he hpl
/-! ### lists of values -/
theorem vals_of : ∀ (vs : List V) (us : List Value), vs.length = us.length → (∀ (j : Nat) (v : V) (u : Value), vs[j]? = some v → us[j]? = some u → RelV v u) → Vals vs us
  | [], [], _, _ => .nil
  | [], _ :: _, h, _ => by cases h
  | _ :: _, [], h, _ => by cases h
  | v :: vs, u :: us, h, k => .cons (k 0 v u rfl rfl) (vals_of vs us (Nat.succ.inj h) fun j v' u' h1 h2 => k (j + 1) v' u' h1 h2)
/-! ### list(text) -/
def signsV (z : Str) : List V := z.cps.toList.map fun c => V.str ⟨#[c]⟩
theorem call_list_text {X : Cx} (hc : X.calm = true) : CallR X (.type "list") (fun xs H Q => ∃ z : Str, xs = [.str z] ∧ z.length ≤ sizeLine ∧ ∀ l, H l = none → Q (.ref l) (upd H l (.lst (signsV z)))) := by
  intro pins s σ H xs us Q I r h
  obtain ⟨z, rfl, hz, q⟩ := h
  obtain ⟨u, rfl, t, rfl⟩ := vals1 r
  have hz' : z.cps.size ≤ sizeLine := hz
  refine call_list_str (I.ok.hd hc) z t (hn := hz) fun h' tk acc' c' hk hS hacc => ?_
  have vals : Vals (signsV z) acc'.toList := by
    refine vals_of _ _ (by unfold signsV; simp [hacc.1]) fun j v u h1 h2 => ?_
    obtain ⟨c, t', hc', rfl⟩ := hacc.2 j u (by simpa using h2)
    unfold signsV at h1
    rw [List.getElem?_map] at h1
    rw [show z.cps.toList[j]? = some c by simpa using hc'] at h1
    cases h1
    exact ⟨_, rfl⟩
  exact ⟨.ref s.heap.objs.size, _, I.laid (t' := tk) hk (Nat.le_refl _) (show ObjOk X.prog X.w _ h' _ (.lst (signsV z)) from ⟨by unfold signsV; simpa using hz', acc'.toList, c', vals, by simpa using hS⟩), rfl, q _ (I.hok.fresh (Nat.le_refl _))⟩

/-- text * number -/
theorem op_mul_str {X : Cx} : OpR X (binaryOp .Mult) (fun x y H Q => ∃ z n, x = .str z ∧ y = .int n ∧ MulOk z n ∧ Q (.str (Txt.mul z n)) H) := by
  intro pins s σ H x y v u Q I rx ry h
  obtain ⟨z, n, rfl, rfl, hok, q⟩ := h
  obtain ⟨t, rfl⟩ := rx
  obtain ⟨t', rfl⟩ := ry
  exact SB.mul hok fun t' k => ⟨.str _, H, I.tok k, ⟨_, rfl⟩, q⟩
/-! ### heaps -/
theorem same_upd {H : Hp} {p : Addr} {o : HO} (h : H p = none) : Same H (upd H p o) := fun b u q => by rw [upd_ne (ne_of_none q h)]; exact q
/-- all but what stands at a is as it was -/
def Keep (a : Addr) (H H' : Hp) : Prop := ∀ b o, H b = some o → b ≠ a → H' b = some o
theorem Keep.refl (a : Addr) (H : Hp) : Keep a H H := fun _ _ h _ => h
theorem Keep.trans {a : Addr} {H H1 H2 : Hp} (x : Keep a H H1) (y : Keep a H1 H2) : Keep a H H2 := fun b o h n => y b o (x b o h n) n
theorem Keep.same {a : Addr} {H H' : Hp} (x : Same H H') : Keep a H H' := fun b o h _ => x b o h
theorem Keep.new {a p : Addr} {H : Hp} {o : HO} (h : H p = none) : Keep a H (upd H p o) := Keep.same (same_upd h)
theorem Keep.store {a : Addr} {H : Hp} {o : HO} : Keep a H (upd H a o) := fun b u q n => by rw [upd_ne n]; exact q
/-- tuples stay, lists stay lists -/
structure Pers (H H' : Hp) : Prop where
  tup : ∀ b xs, H b = some (.tup xs) → H' b = some (.tup xs)
  lst : ∀ b xs, H b = some (.lst xs) → ∃ ys, H' b = some (.lst ys)
theorem Pers.refl (H : Hp) : Pers H H := ⟨fun _ _ h => h, fun _ xs h => ⟨xs, h⟩⟩
theorem Pers.trans {H H1 H2 : Hp} (x : Pers H H1) (y : Pers H1 H2) : Pers H H2 := ⟨fun b xs h => y.tup b xs (x.tup b xs h), fun b xs h => by
  obtain ⟨ys, h1⟩ := x.lst b xs h
  exact y.lst b ys h1⟩
theorem Pers.same {H H' : Hp} (x : Same H H') : Pers H H' := ⟨fun b xs h => x b _ h, fun b xs h => ⟨xs, x b _ h⟩⟩
theorem Pers.new {p : Addr} {H : Hp} {o : HO} (h : H p = none) : Pers H (upd H p o) := Pers.same (same_upd h)
theorem Pers.store {a : Addr} {H : Hp} {xs ys : List V} (h : H a = some (.lst xs)) : Pers H (upd H a (.lst ys)) := ⟨fun b zs q => by
  have n : b ≠ a := fun e => by
    rw [e, h] at q
    cases q
  rw [upd_ne n]
  exact q, fun b zs q => by
  by_cases n : b = a
  · subst n
    exact ⟨ys, upd_same⟩
  · rw [upd_ne n]
    exact ⟨zs, q⟩⟩
/-! ### the stream of draws -/
def StrmW (H : Hp) (a l : Addr) (c k : Int) (ns : List Int) : Prop := H a = some (.lst [.ref l, .int c, .int k]) ∧ H l = some (.lst (ns.map V.int)) ∧ l ≠ a ∧ 0 ≤ k
def Strm (H : Hp) (a : Addr) : Prop := ∃ l c k ns, StrmW H a l c k ns
/-- what a call that draws leaves: all but the stream as it was -/
structure Go (a : Addr) (H H' : Hp) : Prop where
  keep : Keep a H H'
  st0 : Strm H a
  mv : ∀ l c k ns, StrmW H a l c k ns → ∃ c' k' ns', StrmW H' a l c' k' ns'
theorem Go.st {a : Addr} {H H' : Hp} (g : Go a H H') : Strm H' a := by
  obtain ⟨l, c, k, ns, h⟩ := g.st0
  obtain ⟨c', k', ns', h'⟩ := g.mv l c k ns h
  exact ⟨l, c', k', ns', h'⟩
theorem Go.refl {a : Addr} {H : Hp} (h : Strm H a) : Go a H H := ⟨Keep.refl a H, h, fun l c k ns h => ⟨c, k, ns, h⟩⟩
theorem Go.trans {a : Addr} {H H1 H2 : Hp} (x : Go a H H1) (y : Go a H1 H2) : Go a H H2 := ⟨x.keep.trans y.keep, x.st0, fun l c k ns h => by
  obtain ⟨c', k', ns', h'⟩ := x.mv l c k ns h
  exact y.mv l c' k' ns' h'⟩
theorem StrmW.same {a l : Addr} {c k : Int} {ns : List Int} {H H' : Hp} (h : StrmW H a l c k ns) (s : Same H H') : StrmW H' a l c k ns := ⟨s _ _ h.1, s _ _ h.2.1, h.2.2.1, h.2.2.2⟩
theorem Strm.same {a : Addr} {H H' : Hp} (h : Strm H a) (s : Same H H') : Strm H' a := by
  obtain ⟨l, c, k, ns, h⟩ := h
  exact ⟨l, c, k, ns, h.same s⟩
theorem Go.same {a : Addr} {H H' : Hp} (h : Strm H a) (s : Same H H') : Go a H H' := ⟨Keep.same s, h, fun l c k ns w => ⟨c, k, ns, w.same s⟩⟩
theorem Go.new {a p : Addr} {H : Hp} {o : HO} (h : Strm H a) (n : H p = none) : Go a H (upd H p o) := Go.same h (same_upd n)
/-- a store to what is new since H -/
theorem Go.loc {a p : Addr} {H H' : Hp} {o : HO} (g : Go a H H') (n : H p = none) : Go a H (upd H' p o) := ⟨fun b u hb hn => by
  rw [upd_ne (ne_of_none hb n)]
  exact g.keep b u hb hn, g.st0, fun l c k ns h => by
  obtain ⟨c', k', ns', h1, h2, h3, h4⟩ := g.mv l c k ns h
  exact ⟨c', k', ns', by rw [upd_ne (ne_of_none h.1 n)]; exact h1, by rw [upd_ne (ne_of_none h.2.1 n)]; exact h2, h3, h4⟩⟩
theorem Strm.isl {a : Addr} {H : Hp} (h : Strm H a) : ∃ xs, H a = some (.lst xs) := by
  obtain ⟨l, c, k, ns, h1, h2⟩ := h
  exact ⟨_, h1⟩
theorem Go.pers {a : Addr} {H H' : Hp} (g : Go a H H') : Pers H H' := by
  obtain ⟨xs, h1⟩ := g.st0.isl
  obtain ⟨ys, h2⟩ := g.st.isl
  refine ⟨fun b zs q => g.keep b _ q fun e => ?_, fun b zs q => ?_⟩
  · rw [e, h1] at q
    cases q
  · by_cases n : b = a
    · subst n
      exact ⟨ys, h2⟩
    · exact ⟨zs, g.keep b _ q n⟩
theorem Strm.ne {a p : Addr} {H : Hp} (h : Strm H a) (n : H p = none) : a ≠ p := by
  obtain ⟨xs, h1⟩ := h.isl
  exact ne_of_none h1 n
theorem Strm.neT {a p : Addr} {H : Hp} {xs : List V} (h : Strm H a) (n : H p = some (.tup xs)) : p ≠ a := fun e => by
  obtain ⟨ys, h1⟩ := h.isl
  rw [e, h1] at n
  cases n
/-! ### two lists, item by item -/
inductive Two {α β : Type} (R : α → β → Prop) : List α → List β → Prop where
  | nil : Two R [] []
  | cons {a : α} {b : β} {as : List α} {bs : List β} (h : R a b) (t : Two R as bs) : Two R (a :: as) (b :: bs)
theorem Two.len {α β : Type} {R : α → β → Prop} {as : List α} {bs : List β} (h : Two R as bs) : as.length = bs.length := by
  induction h with
  | nil => rfl
  | cons _ _ ih => rw [List.length_cons, List.length_cons, ih]
theorem Two.mono {α β : Type} {R S : α → β → Prop} (k : ∀ a b, R a b → S a b) {as : List α} {bs : List β} (h : Two R as bs) : Two S as bs := by
  induction h with
  | nil => exact .nil
  | cons h _ ih => exact .cons (k _ _ h) ih
theorem Two.monoM {α β : Type} {R S : α → β → Prop} {as : List α} {bs : List β} (h : Two R as bs) (k : ∀ a b, a ∈ as → b ∈ bs → R a b → S a b) : Two S as bs := by
  induction h with
  | nil => exact .nil
  | cons h _ ih => exact .cons (k _ _ (List.mem_cons_self ..) (List.mem_cons_self ..) h) (ih fun a b ha hb => k a b (List.mem_cons_of_mem _ ha) (List.mem_cons_of_mem _ hb))
theorem Two.app {α β : Type} {R : α → β → Prop} {as as' : List α} {bs bs' : List β} (h : Two R as bs) (h' : Two R as' bs') : Two R (as ++ as') (bs ++ bs') := by
  induction h with
  | nil => exact h'
  | cons h _ ih => exact .cons h ih
theorem Two.get {α β : Type} {R : α → β → Prop} {as : List α} {bs : List β} (h : Two R as bs) : ∀ {i : Nat} {a : α}, as[i]? = some a → ∃ b, bs[i]? = some b ∧ R a b := by
  induction h with
  | nil => intro i a h; simp at h
  | cons h _ ih =>
    intro i a e
    cases i with
    | zero => cases e; exact ⟨_, rfl, h⟩
    | succ i => exact ih e
theorem Two.get2 {α β : Type} {R : α → β → Prop} {as : List α} {bs : List β} (h : Two R as bs) {i : Nat} {a : α} {b : β} (ha : as[i]? = some a) (hb : bs[i]? = some b) : R a b := by
  obtain ⟨b', h1, h2⟩ := h.get ha
  rw [h1] at hb
  cases hb
  exact h2
theorem Two.of_get {α β : Type} {R : α → β → Prop} : ∀ {as : List α} {bs : List β}, as.length = bs.length → (∀ (i : Nat) (a : α) (b : β), as[i]? = some a → bs[i]? = some b → R a b) → Two R as bs
  | [], [], _, _ => .nil
  | [], _ :: _, h, _ => by cases h
  | _ :: _, [], h, _ => by cases h
  | a :: as, b :: bs, h, k => .cons (k 0 a b rfl rfl) (Two.of_get (Nat.succ.inj h) fun i a' b' h1 h2 => k (i + 1) a' b' h1 h2)
theorem Two.unsnoc {α β : Type} {R : α → β → Prop} {as : List α} {bs : List β} {b : β} (h : Two R as (bs ++ [b])) : ∃ as' a, as = as' ++ [a] ∧ Two R as' bs ∧ R a b := by
  induction bs generalizing as with
  | nil =>
    cases h with
    | cons h t =>
      cases t
      exact ⟨[], _, rfl, .nil, h⟩
  | cons c bs ih =>
    cases h with
    | cons h t =>
      obtain ⟨as', a, rfl, h1, h2⟩ := ih t
      exact ⟨_ :: as', a, rfl, .cons h h1, h2⟩
theorem Two.map_right {α β γ : Type} {R : α → γ → Prop} {f : β → γ} {as : List α} {bs : List β} (h : Two (fun a b => R a (f b)) as bs) : Two R as (bs.map f) := by
  induction h with
  | nil => exact .nil
  | cons h _ ih => exact .cons h ih
/-! ### data: what stands at a value -/
inductive D where
  | str (z : Str)
  | tup (ds : List D)
  | lst
  | flat
inductive Rep (H : Hp) : V → D → Prop where
  | str {z : Str} (h : z.length ≤ 1000) : Rep H (.str z) (.str z)
  | tup {p : Addr} {xs : List V} {ds : List D} (h : H p = some (.tup xs)) (z : xs.length ≤ 100000) (l : xs.length = ds.length) (k : ∀ (i : Nat) (x : V) (d : D), xs[i]? = some x → ds[i]? = some d → Rep H x d) : Rep H (.ref p) (.tup ds)
  | lst {p : Addr} {xs : List V} (h : H p = some (.lst xs)) : Rep H (.ref p) .lst
  | non : Rep H .non .flat
  | bl (b : Bool) : Rep H (.bl b) .flat
  | int (i : Int) : Rep H (.int i) .flat
theorem Rep.tup2 {H : Hp} {p : Addr} {xs : List V} {ds : List D} (h : H p = some (.tup xs)) (z : xs.length ≤ 100000) (k : Two (Rep H) xs ds) : Rep H (.ref p) (.tup ds) := .tup h z k.len fun _ _ _ h1 h2 => k.get2 h1 h2
theorem Rep.pers {H H' : Hp} (k : Pers H H') {v : V} {d : D} (h : Rep H v d) : Rep H' v d := by
  induction h with
  | str h => exact .str h
  | tup h z l _ ih => exact .tup (k.tup _ _ h) z l ih
  | lst h =>
    obtain ⟨ys, h1⟩ := k.lst _ _ h
    exact .lst h1
  | non => exact .non
  | bl b => exact .bl b
  | int i => exact .int i
theorem Rep.pers2 {H H' : Hp} (k : Pers H H') {vs : List V} {ds : List D} (h : Two (Rep H) vs ds) : Two (Rep H') vs ds := h.mono fun _ _ => Rep.pers k
theorem Rep.untup {H : Hp} {v : V} {ds : List D} (h : Rep H v (.tup ds)) : ∃ p xs, v = .ref p ∧ H p = some (.tup xs) ∧ xs.length ≤ 100000 ∧ Two (Rep H) xs ds := by
  cases h with
  | tup h z l k => exact ⟨_, _, rfl, h, z, Two.of_get l k⟩
def isStr : D → Bool | .str _ => true | _ => false
def isTup : D → Bool | .tup _ => true | _ => false
/-- its type, for isinstance -/
theorem Rep.ty {K : PySem.W.Frag} {H : Hp} {v : V} {d : D} (h : Rep H v d) : ∃ t : String, TyX K H v (.type t) ∧ PySem.W.kitOne K (.type t) (.type "str") = some (isStr d) ∧ PySem.W.kitOne K (.type t) (.type "tuple") = some (isTup d) := by
  cases h with
  | str h => exact ⟨"str", .base (.str _), kit_ty (r := true) (by decide +kernel), kit_ty (r := false) (by decide +kernel)⟩
  | tup h _ _ _ => exact ⟨"tuple", .base (.tup h), kit_ty (r := false) (by decide +kernel), kit_ty (r := true) (by decide +kernel)⟩
  | lst h => exact ⟨"list", .base (.lst h), kit_ty (r := false) (by decide +kernel), kit_ty (r := false) (by decide +kernel)⟩
  | non => exact ⟨"NoneType", .base .non, kit_ty (r := false) (by decide +kernel), kit_ty (r := false) (by decide +kernel)⟩
  | bl b => exact ⟨"bool", .base (.bl _), kit_ty (r := false) (by decide +kernel), kit_ty (r := false) (by decide +kernel)⟩
  | int i => exact ⟨"int", .base (.int _), kit_ty (r := false) (by decide +kernel), kit_ty (r := false) (by decide +kernel)⟩
/-! ### short words for readings -/
theorem vstr {a b : Str} (h : decide (V.str a = V.str b) = true) : a = b := by
  have e := of_decide_eq_true h
  cases e
  rfl
theorem vstrN {a b : Str} (h : ¬ decide (V.str a = V.str b) = true) : ¬ a = b := fun e => h (decide_eq_true (congrArg V.str e))
theorem tyes {σ : L2.St} {H : Hp} {A B : Hp → Prop} (h : A H) : tYes σ H (fun b H3 => if b = true then A H3 else B H3) := by
  show (if true = true then A H else B H)
  rw [if_pos rfl]
  exact h
theorem at_zero {x : V} {xs : List V} : atI (x :: xs) 0 = some x := at_of (j := 0) rfl rfl
theorem at_one {x y : V} {xs : List V} : atI (x :: y :: xs) 1 = some y := at_of (j := 1) rfl rfl
theorem or2 {a b : Prop} {A B : Prop} [Decidable a] [Decidable b] (h1 : a ∨ b → A) (h2 : ¬ (a ∨ b) → B) : if a then A else if b then A else B := by
  by_cases c : a
  · rw [if_pos c]
    exact h1 (.inl c)
  · rw [if_neg c]
    by_cases d : b
    · rw [if_pos d]
      exact h1 (.inr d)
    · rw [if_neg d]
      exact h2 fun z => z.elim c d
theorem lc_str {z : Str} {g : TG} {tt : TT} {te : TE} {vs : List Nat} {σ : L2.St} {H1 : Hp} {D : Addr} {Qd : Hp → Prop} (Pv : Nat → Hp → Prop) (h0 : Pv 0 (upd H1 D (.lst [])))
    (hs : ∀ i c H, z.cps[i]? = some c → Pv i H → g (.str ⟨#[c]⟩) (wipe σ vs) H fun σ2 H2 => wipe σ2 vs = wipe σ vs ∧ tt σ2 H2 fun b H3 =>
      if b = true then te σ2 H3 fun y H4 => ∃ acc, H4 D = some (.lst acc) ∧ acc.length < sizeLine ∧ Pv (i + 1) (upd H4 D (.lst (acc ++ [y]))) else Pv (i + 1) H3) (hd : ∀ H, Pv z.cps.size H → Qd H) :
    ∃ W : Nat → Nat → Hp → Prop, (∃ m, W 0 m (upd H1 D (.lst []))) ∧ ∀ i m H, W i m H →
      ((Its z).stop i H ∧ Qd H) ∨ ((Its z).go i H ∧ ∃ Nx : Hp → Prop, (∀ H', Nx H' → ∃ m', m' < m ∧ W (i + 1) m' H') ∧ ∀ x H', (Its z).yld i H x H' → g x (wipe σ vs) H' fun σ2 H2 => wipe σ2 vs = wipe σ vs ∧ tt σ2 H2 fun b H3 =>
        if b = true then te σ2 H3 fun y H4 => ∃ acc, H4 D = some (.lst acc) ∧ acc.length < sizeLine ∧ Nx (upd H4 D (.lst (acc ++ [y]))) else Nx H3) := by
  refine ⟨fun i m H => m = z.cps.size - i ∧ i ≤ z.cps.size ∧ Pv i H, ⟨z.cps.size, by simp, Nat.zero_le _, h0⟩, ?_⟩
  rintro i m H ⟨rfl, hi, p⟩
  by_cases hlt : i < z.cps.size
  · refine .inr ⟨hlt, Pv (i + 1), fun H' p' => ⟨z.cps.size - (i + 1), by omega, rfl, hlt, p'⟩, fun x H' y => ?_⟩
    obtain ⟨rfl, c, hc, rfl⟩ := y
    exact hs i c _ hc p
  · have e : i = z.cps.size := by omega
    subst e
    exact .inl ⟨Nat.le_refl _, hd H p⟩
/-! ### plain data, for the law's own comparison -/
inductive J where
  | non
  | bl (b : Bool)
  | int (i : Int)
  | str (z : Str)
  | tup (js : List J)
  | lst (js : List J)
inductive RepJ (H : Hp) : V → J → Nat → Prop where
  | non {n : Nat} : RepJ H .non .non n
  | bl {n : Nat} (b : Bool) : RepJ H (.bl b) (.bl b) n
  | int {n : Nat} (i : Int) : RepJ H (.int i) (.int i) n
  | str {n : Nat} (z : Str) : RepJ H (.str z) (.str z) n
  | tup {n : Nat} {p : Addr} {xs : List V} {js : List J} (h : H p = some (.tup xs)) (z : xs.length ≤ 100000) (l : xs.length = js.length) (k : ∀ (i : Nat) (x : V) (j : J), xs[i]? = some x → js[i]? = some j → RepJ H x j n) : RepJ H (.ref p) (.tup js) (n + 1)
  | lst {n : Nat} {p : Addr} {xs : List V} {js : List J} (h : H p = some (.lst xs)) (z : xs.length ≤ 100000) (l : xs.length = js.length) (k : ∀ (i : Nat) (x : V) (j : J), xs[i]? = some x → js[i]? = some j → RepJ H x j n) : RepJ H (.ref p) (.lst js) (n + 1)
theorem RepJ.same {H H' : Hp} (s : Same H H') {v : V} {j : J} {n : Nat} (h : RepJ H v j n) : RepJ H' v j n := by
  induction h with
  | non => exact .non
  | bl b => exact .bl b
  | int i => exact .int i
  | str z => exact .str z
  | tup h z l _ ih => exact .tup (s _ _ h) z l ih
  | lst h z l _ ih => exact .lst (s _ _ h) z l ih
/-! ### the promises of the draws -/
def spStream (K : PySem.W.Frag) : Sp := fun vs H Q _ => ∃ (s : Addr) (ns : List Int), vs = [.ref s] ∧ SqL K H s (ns.map V.int) ∧ ns.length ≤ 63 ∧ ∀ a H', Same H H' → H a = none → Strm H' a → Q (.ref a) H'
def spNext : Sp := fun vs H Q _ => ∃ (a : Addr) (m : Int), vs = [.ref a, .int m] ∧ Strm H a ∧ 0 < m ∧ m < 1000000 ∧ ∀ d H', 0 ≤ d → d < m → Go a H H' → Q (.int d) H'
def spPick (K : PySem.W.Frag) : Sp := fun vs H Q _ => ∃ (a r : Addr) (xs : List V), vs = [.ref a, .ref r] ∧ Strm H a ∧ SqL K H r xs ∧ r ≠ a ∧ 0 < xs.length ∧ xs.length < 1000 ∧ ∀ v H', v ∈ xs → Go a H H' → Q v H'
theorem Go.seq {K : PySem.W.Frag} {a r : Addr} {H H' : Hp} {xs : List V} (g : Go a H H') (n : r ≠ a) (h : SqL K H r xs) : SqL K H' r xs := by
  rcases h with (h | ⟨o, h⟩) | h
  · exact .inl (.inl (g.keep _ _ h n))
  · exact .inl (.inr ⟨o, g.keep _ _ h n⟩)
  · exact .inr h
end My
namespace My
open PySem PySem.Spec PyProof.Rows L2
/-! ### letters and words -/
def isLet (z : Str) : Bool := match z.cps.toList with | [c] => decide (97 ≤ c) && decide (c ≤ 100) | _ => false
abbrev sJoin : Str := "join"
abbrev sOr : Str := "or"
abbrev sMaybe : Str := "maybe"
abbrev sMany : Str := "many"
abbrev sNo : Str := ""
theorem jo : ¬ sJoin = sOr := by decide +kernel
theorem jm : ¬ sJoin = sMaybe := by decide +kernel
theorem jn : ¬ sJoin = sMany := by decide +kernel
theorem je : ¬ sJoin = sNo := by decide +kernel
theorem om : ¬ sOr = sMaybe := by decide +kernel
theorem on : ¬ sOr = sMany := by decide +kernel
theorem oe : ¬ sOr = sNo := by decide +kernel
theorem mn : ¬ sMaybe = sMany := by decide +kernel
theorem lJ : sJoin.length = 4 := by decide +kernel
theorem lO : sOr.length = 2 := by decide +kernel
theorem lM : sMaybe.length = 5 := by decide +kernel
theorem lN : sMany.length = 4 := by decide +kernel
theorem lE : sNo.length = 0 := by decide +kernel
/-! ### the parts directly in a datum -/
def begins (w : Str) : D → Bool
  | .tup (.str x :: _) => decide (x = w)
  | _ => false
def rowOk (w : Str) : D → Bool
  | .tup ys => decide (2 ≤ ys.length) && !(ys.any (begins w))
  | _ => false
def rowItems : D → Option (List D)
  | .tup ys => some ys
  | _ => none
def innerPair (w : Str) (y : D) : Option (List D) := if w = sMaybe ∨ w = sMany then some [y] else if (w = sJoin ∨ w = sOr) ∧ rowOk w y = true then rowItems y else none
def inner : D → Option (List D)
  | .str z => if z = sNo ∨ isLet z = true then some [] else none
  | .tup [.str w, y] => innerPair w y
  | _ => none
theorem inner_pair (w : Str) (y : D) : inner (.tup [.str w, y]) = innerPair w y := rfl
/-- a part of a row does not begin with an object -/
def notObj : D → Bool
  | .tup _ => false
  | .lst => false
  | _ => true
def headFlat : D → Bool
  | .tup (x :: _) => notObj x
  | _ => true
def rowFlat : D → Bool
  | .tup ys => ys.all headFlat
  | _ => true
/-- what the looks at a datum ask: items of a row of parts begin flat -/
inductive Fl : D → Prop where
  | str (z : Str) : Fl (.str z)
  | tup {ds : List D} (h : ∀ w y, ds = [.str w, y] → w = sJoin ∨ w = sOr → rowFlat y = true) (k : ∀ d ∈ ds, Fl d) : Fl (.tup ds)
  | lst : Fl .lst
  | flat : Fl .flat
/-! ### sizes, for the loop's measure -/
def D.size : D → Nat
  | .str _ => 1
  | .tup ds => 1 + sizes ds
  | .lst => 1
  | .flat => 1
where sizes : List D → Nat
  | [] => 0
  | d :: ds => d.size + sizes ds
def places1 : D → Nat
  | .str z => z.length
  | _ => 0
abbrev Bnd := Nat × Nat × Nat
def within (b a : Bnd) : Bool := decide (a.1 ≤ b.1) && decide (a.2.1 ≤ b.2.1) && decide (a.2.2 ≤ b.2.2)
/-- the loop: n turns at most; the stack's last is looked at first -/
def look (b : Bnd) : Nat → List (D × Nat) → Bnd → Option Bnd
  | 0, _, _ => none
  | _ + 1, [], a => some a
  | n + 1, (d, k) :: st, a => match inner d with
    | none => none
    | some ys =>
      if within b (a.1 + places1 d, max a.2.1 k, a.2.2 + ys.length) = true then look b n ((ys.map fun y => (y, k + 1)).reverse ++ st) (a.1 + places1 d, max a.2.1 k, a.2.2 + ys.length) else none
def msr (st : List (D × Nat)) : Nat := (st.map fun p => p.1.size).sum
theorem sizes_eq (ds : List D) : D.size.sizes ds = (ds.map D.size).sum := by
  induction ds with
  | nil => rfl
  | cons d ds ih => rw [D.size.sizes, ih, List.map_cons, List.sum_cons]
theorem size_pos (d : D) : 0 < d.size := by
  cases d <;> (unfold D.size; omega)
theorem inner_size {d : D} {ys : List D} (h : inner d = some ys) : (ys.map D.size).sum < d.size := by
  unfold inner at h
  split at h
  · split at h
    · cases h
      exact size_pos _
    · cases h
  · rename_i w y
    unfold innerPair at h
    split at h
    · cases h
      simp only [D.size, D.size.sizes, List.map_cons, List.map_nil, List.sum_cons, List.sum_nil]
      omega
    · split at h
      · cases y with
        | tup zs =>
          cases h
          simp only [D.size, D.size.sizes, sizes_eq]
          omega
        | str z => cases h
        | lst => cases h
        | flat => cases h
      · cases h
  · cases h
theorem msr_step {d : D} {k : Nat} {st : List (D × Nat)} {ys : List D} (h : inner d = some ys) : msr ((ys.map fun y => (y, k + 1)).reverse ++ st) < msr ((d, k) :: st) := by
  unfold msr
  rw [List.map_append, List.sum_append, List.map_reverse, List.sum_reverse, List.map_map, List.map_cons, List.sum_cons]
  have e : ((fun p : D × Nat => p.1.size) ∘ fun y => (y, k + 1)) = D.size := rfl
  rw [e]
  have := inner_size h
  show _ < d.size + _
  omega

/-! ### expressions -/
inductive E where
  | eps
  | sym (c : Nat)
  | maybe (e : E)
  | many (e : E)
  | join (es : List E)
  | alt (es : List E)
def E.toD : E → D
  | .eps => .str sNo
  | .sym c => .str ⟨#[c]⟩
  | .maybe e => .tup [.str sMaybe, e.toD]
  | .many e => .tup [.str sMany, e.toD]
  | .join es => .tup [.str sJoin, .tup (toDs es)]
  | .alt es => .tup [.str sOr, .tup (toDs es)]
where toDs : List E → List D
  | [] => []
  | e :: es => e.toD :: toDs es
theorem toDs_eq (es : List E) : E.toD.toDs es = es.map E.toD := by
  induction es with
  | nil => rfl
  | cons e es ih => rw [E.toD.toDs, ih, List.map_cons]
def isJoin : E → Bool | .join _ => true | _ => false
def isAlt : E → Bool | .alt _ => true | _ => false
def E.ok : E → Bool
  | .eps => true
  | .sym c => decide (97 ≤ c) && decide (c ≤ 100)
  | .maybe e => e.ok
  | .many e => e.ok
  | .join es => decide (2 ≤ es.length) && oks es && !(es.any isJoin)
  | .alt es => decide (2 ≤ es.length) && oks es && !(es.any isAlt)
where oks : List E → Bool
  | [] => true
  | e :: es => e.ok && oks es
theorem oks_eq (es : List E) : E.ok.oks es = es.all E.ok := by
  induction es with
  | nil => rfl
  | cons e es ih => rw [E.ok.oks, ih, List.all_cons]
def E.places : E → Nat
  | .eps => 0
  | .sym _ => 1
  | .maybe e => e.places
  | .many e => e.places
  | .join es => placess es
  | .alt es => placess es
where placess : List E → Nat
  | [] => 0
  | e :: es => e.places + placess es
def E.depth : E → Nat
  | .eps => 0
  | .sym _ => 0
  | .maybe e => e.depth + 1
  | .many e => e.depth + 1
  | .join es => depths es + 1
  | .alt es => depths es + 1
where depths : List E → Nat
  | [] => 0
  | e :: es => max e.depth (depths es)
def E.parts : E → Nat
  | .eps => 1
  | .sym _ => 1
  | .maybe e => e.parts + 1
  | .many e => e.parts + 1
  | .join es => partss es + 1
  | .alt es => partss es + 1
where partss : List E → Nat
  | [] => 0
  | e :: es => e.parts + partss es
theorem placess_eq (es : List E) : E.places.placess es = (es.map E.places).sum := by
  induction es with
  | nil => rfl
  | cons e es ih => rw [E.places.placess, ih, List.map_cons, List.sum_cons]
theorem partss_eq (es : List E) : E.parts.partss es = (es.map E.parts).sum := by
  induction es with
  | nil => rfl
  | cons e es ih => rw [E.parts.partss, ih, List.map_cons, List.sum_cons]
theorem depths_le {es : List E} {n : Nat} (h : ∀ e ∈ es, e.depth ≤ n) : E.depth.depths es ≤ n := by
  induction es with
  | nil => exact Nat.zero_le _
  | cons e es ih =>
    rw [E.depth.depths]
    exact Nat.max_le.mpr ⟨h e (List.mem_cons_self ..), ih fun x hx => h x (List.mem_cons_of_mem _ hx)⟩
/-- the expressions directly in one -/
def E.kids : E → List E
  | .eps => []
  | .sym _ => []
  | .maybe e => [e]
  | .many e => [e]
  | .join es => es
  | .alt es => es
def E.own : E → Nat
  | .sym _ => 1
  | _ => 0
theorem parts_kids (e : E) : e.parts = (e.kids.map E.parts).sum + 1 := by
  cases e <;> simp [E.parts, E.kids, partss_eq]
theorem places_kids (e : E) : e.places = e.own + (e.kids.map E.places).sum := by
  cases e <;> simp [E.places, E.kids, E.own, placess_eq]
theorem ok_kids {e : E} (h : e.ok = true) : ∀ k ∈ e.kids, k.ok = true := by
  intro k hk
  cases e with
  | eps => cases hk
  | sym c => cases hk
  | maybe e => rw [E.kids, List.mem_singleton] at hk; subst hk; rw [E.ok] at h; exact h
  | many e => rw [E.kids, List.mem_singleton] at hk; subst hk; rw [E.ok] at h; exact h
  | join es =>
    rw [E.ok, oks_eq] at h
    simp only [Bool.and_eq_true, List.all_eq_true] at h
    exact h.1.2 k hk
  | alt es =>
    rw [E.ok, oks_eq] at h
    simp only [Bool.and_eq_true, List.all_eq_true] at h
    exact h.1.2 k hk
theorem begins_tup (w x : Str) (ys : List D) : begins w (.tup (.str x :: ys)) = decide (x = w) := rfl
theorem begins_join (e : E) : begins sJoin e.toD = isJoin e := by
  cases e with
  | eps => rfl
  | sym c => rfl
  | maybe e => rw [E.toD, begins_tup]; exact decide_eq_false (fun h => jm h.symm)
  | many e => rw [E.toD, begins_tup]; exact decide_eq_false (fun h => jn h.symm)
  | join es => rw [E.toD, begins_tup]; exact decide_eq_true rfl
  | alt es => rw [E.toD, begins_tup]; exact decide_eq_false (fun h => jo h.symm)
theorem begins_or (e : E) : begins sOr e.toD = isAlt e := by
  cases e with
  | eps => rfl
  | sym c => rfl
  | maybe e => rw [E.toD, begins_tup]; exact decide_eq_false (fun h => om h.symm)
  | many e => rw [E.toD, begins_tup]; exact decide_eq_false (fun h => on h.symm)
  | join es => rw [E.toD, begins_tup]; exact decide_eq_false (fun h => jo h)
  | alt es => rw [E.toD, begins_tup]; exact decide_eq_true rfl
theorem rowOk_tup (w : Str) (ys : List D) : rowOk w (.tup ys) = (decide (2 ≤ ys.length) && !(ys.any (begins w))) := rfl
theorem inner_toD {e : E} (h : e.ok = true) : inner e.toD = some (e.kids.map E.toD) := by
  cases e with
  | eps => rw [E.toD, inner, if_pos (.inl rfl)]; rfl
  | sym c =>
    have q : isLet ⟨#[c]⟩ = true := by
      rw [E.ok] at h
      exact h
    rw [E.toD, inner, if_pos (.inr q)]; rfl
  | maybe e => rw [E.toD, inner_pair, innerPair, if_pos (.inl rfl)]; rfl
  | many e => rw [E.toD, inner_pair, innerPair, if_pos (.inr rfl)]; rfl
  | join es =>
    rw [E.ok, oks_eq] at h
    simp only [Bool.and_eq_true, decide_eq_true_eq] at h
    have r : rowOk sJoin (.tup (E.toD.toDs es)) = true := by
      rw [rowOk_tup, toDs_eq, List.length_map, List.any_map]
      have z : (begins sJoin ∘ E.toD) = isJoin := funext begins_join
      rw [z, h.2, Bool.and_true]
      exact decide_eq_true h.1.1
    rw [E.toD, inner_pair, innerPair, if_neg (fun z => z.elim jm jn), if_pos ⟨.inl rfl, r⟩, toDs_eq]; rfl
  | alt es =>
    rw [E.ok, oks_eq] at h
    simp only [Bool.and_eq_true, decide_eq_true_eq] at h
    have r : rowOk sOr (.tup (E.toD.toDs es)) = true := by
      rw [rowOk_tup, toDs_eq, List.length_map, List.any_map]
      have z : (begins sOr ∘ E.toD) = isAlt := funext begins_or
      rw [z, h.2, Bool.and_true]
      exact decide_eq_true h.1.1
    rw [E.toD, inner_pair, innerPair, if_neg (fun z => z.elim om on), if_pos ⟨.inr rfl, r⟩, toDs_eq]; rfl
theorem places1_toD (e : E) : places1 e.toD = e.own := by
  cases e <;> rw [E.toD] <;> first | rfl | exact lE
theorem depth_kids (e : E) : ∀ k ∈ e.kids, k.depth + 1 ≤ e.depth := by
  have a : ∀ (es : List E), ∀ k ∈ es, k.depth ≤ E.depth.depths es := by
    intro es
    induction es with
    | nil => intro k h; cases h
    | cons e es ih =>
      intro k h
      rw [E.depth.depths]
      rcases List.mem_cons.mp h with rfl | h
      · exact Nat.le_max_left _ _
      · exact Nat.le_trans (ih k h) (Nat.le_max_right _ _)
  intro k hk
  cases e with
  | eps => cases hk
  | sym c => cases hk
  | maybe e => rw [E.kids, List.mem_singleton] at hk; subst hk; rw [E.depth]; omega
  | many e => rw [E.kids, List.mem_singleton] at hk; subst hk; rw [E.depth]; omega
  | join es => have := a es k hk; rw [E.depth]; omega
  | alt es => have := a es k hk; rw [E.depth]; omega
theorem depth_by {e : E} {n : Nat} (h : ∀ k ∈ e.kids, k.depth + 1 ≤ n) : e.depth ≤ n ∨ (e.kids = [] ∧ e.depth = 0) ∨ e.depth = 1 := by
  cases e with
  | eps => exact .inr (.inl ⟨rfl, rfl⟩)
  | sym c => exact .inr (.inl ⟨rfl, rfl⟩)
  | maybe e => exact .inl (h e (List.mem_singleton.mpr rfl))
  | many e => exact .inl (h e (List.mem_singleton.mpr rfl))
  | join es =>
    cases es with
    | nil => exact .inr (.inr rfl)
    | cons x r =>
      refine .inl ?_
      rw [E.depth]
      cases n with
      | zero => have := h x (List.mem_cons_self ..); omega
      | succ n => exact Nat.succ_le_succ (depths_le fun k hk => Nat.le_of_succ_le_succ (h k hk))
  | alt es =>
    cases es with
    | nil => exact .inr (.inr rfl)
    | cons x r =>
      refine .inl ?_
      rw [E.depth]
      cases n with
      | zero => have := h x (List.mem_cons_self ..); omega
      | succ n => exact Nat.succ_le_succ (depths_le fun k hk => Nat.le_of_succ_le_succ (h k hk))
/-! ### what the look gives -/
abbrev Stk := List (E × Nat)
def sD (st : Stk) : List (D × Nat) := st.map fun p => (p.1.toD, p.2)
/-- the greatest depth on the stack, from m on -/
def deepE (st : Stk) (m : Nat) : Nat := st.foldr (fun p m => max (p.2 + p.1.depth) m) m
def totE (st : Stk) (a : Bnd) : Bnd := (a.1 + (st.map fun p => p.1.places).sum, deepE st a.2.1, a.2.2 + (st.map fun p => p.1.parts - 1).sum)
theorem deepE_app (s t : Stk) (m : Nat) : deepE (s ++ t) m = deepE s (deepE t m) := by
  unfold deepE
  rw [List.foldr_append]
theorem deepE_max (s : Stk) (m : Nat) : m ≤ deepE s m := by
  induction s with
  | nil => exact Nat.le_refl _
  | cons p s ih => exact Nat.le_trans ih (Nat.le_max_right _ _)
theorem deepE_le {s : Stk} {m n : Nat} : deepE s m ≤ n ↔ m ≤ n ∧ ∀ p ∈ s, p.2 + p.1.depth ≤ n := by
  induction s with
  | nil => exact ⟨fun h => ⟨h, fun p hp => by cases hp⟩, fun h => h.1⟩
  | cons p s ih =>
    show max (p.2 + p.1.depth) (deepE s m) ≤ n ↔ _
    rw [Nat.max_le, ih]
    constructor
    · rintro ⟨h1, h2, h3⟩
      refine ⟨h2, fun q hq => ?_⟩
      rcases List.mem_cons.mp hq with rfl | hq
      · exact h1
      · exact h3 q hq
    · rintro ⟨h1, h2⟩
      exact ⟨h2 p (List.mem_cons_self ..), h1, fun q hq => h2 q (List.mem_cons_of_mem _ hq)⟩
theorem within_iff {b a : Bnd} : within b a = true ↔ a.1 ≤ b.1 ∧ a.2.1 ≤ b.2.1 ∧ a.2.2 ≤ b.2.2 := by
  unfold within
  simp only [Bool.and_eq_true, decide_eq_true_eq, and_assoc]
theorem depth_parts (e : E) (k : Nat) (n : Nat) (h0 : k ≤ n) (h : ∀ q ∈ e.kids, k + 1 + q.depth ≤ n) (hk : e.kids = [] → e.depth = 0) : k + e.depth ≤ n := by
  rcases depth_by (e := e) (n := n - k) (fun q hq => by have := h q hq; omega) with a | ⟨_, a⟩ | a
  · omega
  · omega
  · cases e with
    | eps => have : E.depth E.eps = 0 := rfl; omega
    | sym c => have : E.depth (E.sym c) = 0 := rfl; omega
    | maybe e => have := h e (List.mem_singleton.mpr rfl); omega
    | many e => have := h e (List.mem_singleton.mpr rfl); omega
    | join es =>
      cases es with
      | nil => have := hk rfl; omega
      | cons x r => have := h x (List.mem_cons_self ..); omega
    | alt es =>
      cases es with
      | nil => have := hk rfl; omega
      | cons x r => have := h x (List.mem_cons_self ..); omega
theorem kids_nil {e : E} (h : e.ok = true) (k : e.kids = []) : e.depth = 0 := by
  cases e with
  | eps => rfl
  | sym c => rfl
  | maybe e => cases k
  | many e => cases k
  | join es =>
    rw [E.kids] at k
    subst k
    cases h
  | alt es =>
    rw [E.kids] at k
    subst k
    cases h
theorem parts_pos (e : E) : 1 ≤ e.parts := by
  rw [parts_kids]
  omega
theorem sum_pred (es : List E) : (es.map fun e => e.parts - 1).sum + es.length = (es.map E.parts).sum := by
  induction es with
  | nil => rfl
  | cons e es ih =>
    have := parts_pos e
    simp only [List.map_cons, List.sum_cons, List.length_cons]
    omega
/-- one look at an expression -/
theorem tot_step {b : Bnd} {e : E} {k : Nat} {st : Stk} {a : Bnd} (h : e.ok = true) :
    totE ((e.kids.map fun y => (y, k + 1)).reverse ++ st) (a.1 + e.own, max a.2.1 k, a.2.2 + e.kids.length) = totE ((e, k) :: st) a := by
  have hp := places_kids e
  have hq := parts_kids e
  have hs := sum_pred e.kids
  unfold totE
  refine Prod.ext ?_ (Prod.ext ?_ ?_)
  · show a.1 + e.own + _ = a.1 + _
    rw [List.map_append, List.sum_append, List.map_reverse, List.sum_reverse, List.map_map, List.map_cons, List.sum_cons]
    show a.1 + e.own + ((e.kids.map E.places).sum + _) = a.1 + (e.places + _)
    omega
  · show deepE _ (max a.2.1 k) = deepE ((e, k) :: st) a.2.1
    refine Nat.le_antisymm (deepE_le.mpr ⟨?_, ?_⟩) (deepE_le.mpr ⟨?_, ?_⟩)
    · refine Nat.max_le.mpr ⟨deepE_max _ _, ?_⟩
      exact Nat.le_trans (Nat.le_add_right _ _) ((deepE_le.mp (Nat.le_refl _)).2 (e, k) (List.mem_cons_self ..))
    · intro p hp
      rcases List.mem_append.mp hp with hp | hp
      · rw [List.mem_reverse, List.mem_map] at hp
        obtain ⟨y, hy, rfl⟩ := hp
        have := depth_kids e y hy
        have q := (deepE_le.mp (Nat.le_refl (deepE ((e, k) :: st) a.2.1))).2 (e, k) (List.mem_cons_self ..)
        show k + 1 + y.depth ≤ _
        have q' : k + e.depth ≤ deepE ((e, k) :: st) a.2.1 := q
        omega
      · exact (deepE_le.mp (Nat.le_refl (deepE ((e, k) :: st) a.2.1))).2 p (List.mem_cons_of_mem _ hp)
    · exact Nat.le_trans (Nat.le_max_left _ _) (deepE_max _ _)
    · intro p hp
      have L := (deepE_le.mp (Nat.le_refl (deepE ((e.kids.map fun y => (y, k + 1)).reverse ++ st) (max a.2.1 k))))
      rcases List.mem_cons.mp hp with rfl | hp
      · refine depth_parts e k _ (Nat.le_trans (Nat.le_max_right _ _) L.1) (fun q hq => ?_) (kids_nil h)
        exact L.2 (q, k + 1) (List.mem_append_left _ (List.mem_reverse.mpr (List.mem_map.mpr ⟨q, hq, rfl⟩)))
      · exact L.2 p (List.mem_append_right _ hp)
  · show a.2.2 + e.kids.length + _ = a.2.2 + _
    rw [List.map_append, List.sum_append, List.map_reverse, List.sum_reverse, List.map_map, List.map_cons, List.sum_cons]
    show a.2.2 + e.kids.length + ((e.kids.map fun e => e.parts - 1).sum + _) = a.2.2 + ((e.parts - 1) + _)
    omega
theorem tot_ge (st : Stk) (a : Bnd) : a.1 ≤ (totE st a).1 ∧ a.2.1 ≤ (totE st a).2.1 ∧ a.2.2 ≤ (totE st a).2.2 := ⟨Nat.le_add_right _ _, deepE_max _ _, Nat.le_add_right _ _⟩
theorem sD_step (e : E) (k : Nat) (st : Stk) : ((e.kids.map E.toD).map fun y => (y, k + 1)).reverse ++ sD st = sD ((e.kids.map fun y => (y, k + 1)).reverse ++ st) := by
  unfold sD
  rw [List.map_append, List.map_reverse, List.map_map, List.map_map]
  rfl
theorem look_ok {b : Bnd} : ∀ (n : Nat) (st : Stk) (a : Bnd), msr (sD st) < n → (∀ p ∈ st, p.1.ok = true) → within b a = true → look b n (sD st) a = if within b (totE st a) = true then some (totE st a) else none
  | 0, st, a, h, _, _ => absurd h (Nat.not_lt_zero _)
  | n + 1, [], a, _, _, hw => by
    have e : totE [] a = a := rfl
    rw [e, if_pos hw]
    rfl
  | n + 1, (e, k) :: st, a, hm, ho, hw => by
    have h := ho (e, k) (List.mem_cons_self ..)
    have hi := inner_toD h
    show (match inner e.toD with | none => none | some ys => if within b (a.1 + places1 e.toD, max a.2.1 k, a.2.2 + ys.length) = true then look b n ((ys.map fun y => (y, k + 1)).reverse ++ sD st) (a.1 + places1 e.toD, max a.2.1 k, a.2.2 + ys.length) else none) = _
    rw [hi]
    show (if within b (a.1 + places1 e.toD, max a.2.1 k, a.2.2 + (e.kids.map E.toD).length) = true then look b n (((e.kids.map E.toD).map fun y => (y, k + 1)).reverse ++ sD st) (a.1 + places1 e.toD, max a.2.1 k, a.2.2 + (e.kids.map E.toD).length) else none) = _
    rw [places1_toD, List.length_map, sD_step]
    have ts := tot_step (b := b) (k := k) (st := st) (a := a) h
    by_cases c : within b (a.1 + e.own, max a.2.1 k, a.2.2 + e.kids.length) = true
    · have m1 : msr (sD ((e.kids.map fun y => (y, k + 1)).reverse ++ st)) < n := by
        have := msr_step (k := k) (st := sD st) hi
        rw [sD_step] at this
        have hm' : msr ((e.toD, k) :: sD st) < n + 1 := hm
        exact Nat.lt_of_lt_of_le this (Nat.le_of_lt_succ hm')
      rw [if_pos c, look_ok n _ _ m1 (fun p hp => ?_) c, ts]
      rcases List.mem_append.mp hp with hp | hp
      · rw [List.mem_reverse, List.mem_map] at hp
        obtain ⟨y, hy, rfl⟩ := hp
        exact ok_kids h y hy
      · exact ho p (List.mem_cons_of_mem _ hp)
    · rw [if_neg c, if_neg]
      intro z
      rw [← ts] at z
      apply c
      have g := tot_ge ((e.kids.map fun y => (y, k + 1)).reverse ++ st) (a.1 + e.own, max a.2.1 k, a.2.2 + e.kids.length)
      rw [within_iff] at z ⊢
      exact ⟨Nat.le_trans g.1 z.1, Nat.le_trans g.2.1 z.2.1, Nat.le_trans g.2.2 z.2.2⟩
/-- something wrong within -/
inductive Bad : D → Prop where
  | here {d : D} (h : inner d = none) : Bad d
  | inn {d y : D} {ys : List D} (h : inner d = some ys) (m : y ∈ ys) (b : Bad y) : Bad d
theorem look_bad {b : Bnd} : ∀ (n : Nat) (st : List (D × Nat)) (a : Bnd), (∃ p ∈ st, Bad p.1) → look b n st a = none
  | 0, _, _, _ => rfl
  | n + 1, [], _, h => by
    obtain ⟨p, hp, _⟩ := h
    cases hp
  | n + 1, (d, k) :: st, a, h => by
    show (match inner d with | none => none | some ys => if within b (a.1 + places1 d, max a.2.1 k, a.2.2 + ys.length) = true then look b n ((ys.map fun y => (y, k + 1)).reverse ++ st) (a.1 + places1 d, max a.2.1 k, a.2.2 + ys.length) else none) = none
    cases hi : inner d with
    | none => rfl
    | some ys =>
      show (if within b (a.1 + places1 d, max a.2.1 k, a.2.2 + ys.length) = true then look b n ((ys.map fun y => (y, k + 1)).reverse ++ st) (a.1 + places1 d, max a.2.1 k, a.2.2 + ys.length) else none) = none
      split
      · refine look_bad n _ _ ?_
        obtain ⟨p, hp, hb⟩ := h
        rcases List.mem_cons.mp hp with rfl | hp
        · cases hb with
          | here z => rw [z] at hi; cases hi
          | inn z m hb =>
            rw [z] at hi
            cases hi
            exact ⟨(_, k + 1), List.mem_append_left _ (List.mem_reverse.mpr (List.mem_map.mpr ⟨_, m, rfl⟩)), hb⟩
        · exact ⟨p, List.mem_append_right _ hp, hb⟩
      · rfl
/-- what sizes_within gives of a datum -/
def sizesOf (b : Bnd) (d : D) : Option Bnd := look b (d.size + 1) [(d, 0)] (0, 0, 1)
theorem sizes_ok {b : Bnd} {e : E} (h : e.ok = true) (hb : 1 ≤ b.2.2) : sizesOf b e.toD = if within b (e.places, e.depth, e.parts) = true then some (e.places, e.depth, e.parts) else none := by
  have q := look_ok (b := b) (e.toD.size + 1) [(e, 0)] (0, 0, 1) (by show msr [(e.toD, 0)] < _; unfold msr; simp) (fun p hp => by rw [List.mem_singleton] at hp; subst hp; exact h) (within_iff.mpr ⟨Nat.zero_le _, Nat.zero_le _, hb⟩)
  have t : totE [(e, 0)] (0, 0, 1) = (e.places, e.depth, e.parts) := by
    have := parts_pos e
    refine Prod.ext ?_ (Prod.ext ?_ ?_)
    · show 0 + (e.places + 0) = e.places
      omega
    · show max (0 + e.depth) 0 = e.depth
      omega
    · show 1 + (e.parts - 1 + 0) = e.parts
      omega
  rw [t] at q
  exact q
theorem sizes_bad {b : Bnd} {d : D} (h : Bad d) : sizesOf b d = none := look_bad _ _ _ ⟨(d, 0), List.mem_singleton.mpr rfl, h⟩
theorem headFlat_toD (e : E) : headFlat e.toD = true := by
  cases e <;> rw [E.toD] <;> rfl
theorem rowFlat_toDs (es : List E) : rowFlat (.tup (E.toD.toDs es)) = true := by
  rw [toDs_eq]
  show (es.map E.toD).all headFlat = true
  rw [List.all_eq_true]
  intro d hd
  rw [List.mem_map] at hd
  obtain ⟨e, _, rfl⟩ := hd
  exact headFlat_toD e
theorem fl_pair {w : Str} {y : D} (h : w = sJoin ∨ w = sOr → rowFlat y = true) (k : Fl y) : Fl (.tup [.str w, y]) := by
  refine .tup (fun w' y' e => ?_) fun d hd => ?_
  · cases e
    exact h
  · rcases List.mem_cons.mp hd with rfl | hd
    · exact .str _
    · rw [List.mem_singleton] at hd
      subst hd
      exact k
theorem toD_str {e : E} {w : Str} (h : e.toD = .str w) : ¬ (w = sJoin ∨ w = sOr) := by
  cases e with
  | eps =>
    rw [E.toD] at h
    cases h
    rintro (h | h)
    · exact je h.symm
    · exact oe h.symm
  | sym c =>
    rw [E.toD] at h
    cases h
    rintro (h | h)
    · have := congrArg Str.length h
      rw [lJ] at this
      cases this
    · have := congrArg Str.length h
      rw [lO] at this
      cases this
  | maybe e => rw [E.toD] at h; cases h
  | many e => rw [E.toD] at h; cases h
  | join es => rw [E.toD] at h; cases h
  | alt es => rw [E.toD] at h; cases h
mutual
theorem fl_toD : ∀ e : E, Fl e.toD
  | .eps => .str _
  | .sym c => .str _
  | .maybe e => by
    rw [E.toD]
    exact fl_pair (fun h => (h.elim (fun h => jm h.symm) fun h => om h.symm).elim) (fl_toD e)
  | .many e => by
    rw [E.toD]
    exact fl_pair (fun h => (h.elim (fun h => jn h.symm) fun h => on h.symm).elim) (fl_toD e)
  | .join es => by
    rw [E.toD]
    exact fl_pair (fun _ => rowFlat_toDs es) (fl_toDs es)
  | .alt es => by
    rw [E.toD]
    exact fl_pair (fun _ => rowFlat_toDs es) (fl_toDs es)
theorem fl_toDs : ∀ es : List E, Fl (.tup (E.toD.toDs es))
  | [] => .tup (fun w y h => by cases h) fun d hd => by cases hd
  | e :: es => by
    have h := fl_toDs es
    have h0 := fl_toD e
    refine .tup (fun w y z hw => ?_) fun d hd => ?_
    · rw [E.toD.toDs] at z
      have z1 : e.toD = .str w := (List.cons.inj z).1
      exact absurd hw (toD_str z1)
    · rw [E.toD.toDs] at hd
      rcases List.mem_cons.mp hd with rfl | hd
      · exact h0
      · cases h with
        | tup _ k => exact k d hd
end
end My
namespace My
open PySem PySem.Spec PyProof.Rows L2
/-! ### comprehensions whose results are known by the turns -/
theorem sqT_same {K : PySem.W.Frag} {H H' : Hp} {p : Addr} {xs : List V} (s : Same H H') (h : SqT K H p xs) : SqT K H' p xs := by
  rcases h with (h | ⟨o, h⟩) | h
  · exact .inl (.inl (s _ _ h))
  · exact .inl (.inr ⟨o, s _ _ h⟩)
  · exact .inr h
/-- one more result -/
theorem r_push {H1 H H4 : Hp} {D : Addr} {R : Nat → List V} {i : Nat} (hz : ∀ i, (R i).length ≤ 100000) (hD : H1 D = none) (s : Same H1 H) (h : H D = some (.lst (R i))) : ∀ y H4, R (i + 1) = R i ++ [y] → Same H H4 → ∃ acc, H4 D = some (.lst acc) ∧ acc.length < sizeLine ∧ Same H1 (upd H4 D (.lst (acc ++ [y]))) ∧ (upd H4 D (.lst (acc ++ [y]))) D = some (.lst (R (i + 1))) := by
  intro y H4 e s4
  refine ⟨_, s4 _ _ h, Nat.lt_of_le_of_lt (hz i) (by decide), fun b o hb => ?_, ?_⟩
  · rw [upd_ne (ne_of_none hb hD)]
    exact s4 _ _ (s _ _ hb)
  · rw [upd_same, e]
theorem r_keep {H1 H : Hp} {D : Addr} {R : Nat → List V} {i : Nat} (s : Same H1 H) (h : H D = some (.lst (R i))) : ∀ H4, R (i + 1) = R i → Same H H4 → Same H1 H4 ∧ H4 D = some (.lst (R (i + 1))) := by
  intro H4 e s4
  exact ⟨s.trans s4, by rw [e]; exact s4 _ _ h⟩
theorem lc_tupR {K : PySem.W.Frag} {a : Addr} {xs : List V} {g : TG} {tt : TT} {te : TE} {vs : List Nat} {σ : L2.St} {H1 : Hp} {D : Addr} {Qd : Hp → Prop} (R : Nat → List V) (h0 : R 0 = []) (hz : ∀ i, (R i).length ≤ 100000) (hD : H1 D = none) (ha : SqT K H1 a xs) 
    (hs : ∀ i x H, xs[i]? = some x → Same H1 H → (∀ y H4, R (i + 1) = R i ++ [y] → Same H H4 → ∃ acc, H4 D = some (.lst acc) ∧ acc.length < sizeLine ∧ Same H1 (upd H4 D (.lst (acc ++ [y]))) ∧ (upd H4 D (.lst (acc ++ [y]))) D = some (.lst (R (i + 1)))) → (∀ H4, R (i + 1) = R i → Same H H4 → Same H1 H4 ∧ H4 D = some (.lst (R (i + 1)))) →
      g x (wipe σ vs) H fun σ2 H2 => wipe σ2 vs = wipe σ vs ∧ tt σ2 H2 fun b H3 => if b = true then te σ2 H3 fun y H4 => ∃ acc, H4 D = some (.lst acc) ∧ acc.length < sizeLine ∧ Same H1 (upd H4 D (.lst (acc ++ [y]))) ∧ (upd H4 D (.lst (acc ++ [y]))) D = some (.lst (R (i + 1))) else Same H1 H3 ∧ H3 D = some (.lst (R (i + 1))))
    (hd : ∀ H, Same H1 H → H D = some (.lst (R xs.length)) → Qd H) :
    ∃ W : Nat → Nat → Hp → Prop, (∃ m, W 0 m (upd H1 D (.lst []))) ∧ ∀ i m H, W i m H →
      ((Itt K a).stop i H ∧ Qd H) ∨ ((Itt K a).go i H ∧ ∃ Nx : Hp → Prop, (∀ H', Nx H' → ∃ m', m' < m ∧ W (i + 1) m' H') ∧ ∀ x H', (Itt K a).yld i H x H' → g x (wipe σ vs) H' fun σ2 H2 => wipe σ2 vs = wipe σ vs ∧ tt σ2 H2 fun b H3 =>
        if b = true then te σ2 H3 fun y H4 => ∃ acc, H4 D = some (.lst acc) ∧ acc.length < sizeLine ∧ Nx (upd H4 D (.lst (acc ++ [y]))) else Nx H3) := by
  have fin : ∀ {i : Nat} {H : Hp}, Same H1 H → H D = some (.lst (R i)) → ∀ y H4, R (i + 1) = R i ++ [y] → Same H H4 → ∃ acc, H4 D = some (.lst acc) ∧ acc.length < sizeLine ∧ Same H1 (upd H4 D (.lst (acc ++ [y]))) ∧ (upd H4 D (.lst (acc ++ [y]))) D = some (.lst (R (i + 1))) := fun s h => r_push (H4 := H1) hz hD s h
  have fin0 : ∀ {i : Nat} {H : Hp}, Same H1 H → H D = some (.lst (R i)) → ∀ H4, R (i + 1) = R i → Same H H4 → Same H1 H4 ∧ H4 D = some (.lst (R (i + 1))) := fun s h => r_keep s h
  exact lc_tup (K := K) (a := a) (xs := xs) (fun i H' => Same H1 H' ∧ H' D = some (.lst (R i))) ⟨same_upd hD, by rw [upd_same, h0]⟩ (fun i H _ h => sqT_same h.1 ha) (fun i x H hx h => hs i x H hx h.1 (fin h.1 h.2) (fin0 h.1 h.2)) (fun H h => hd H h.1 h.2)
theorem lc_listR {K : PySem.W.Frag} {a : Addr} {xs : List V} {g : TG} {tt : TT} {te : TE} {vs : List Nat} {σ : L2.St} {H1 : Hp} {D : Addr} {Qd : Hp → Prop} (R : Nat → List V) (h0 : R 0 = []) (hz : ∀ i, (R i).length ≤ 100000) (hD : H1 D = none) (ha : SqL K H1 a xs) 
    (hs : ∀ i x H, xs[i]? = some x → Same H1 H → (∀ y H4, R (i + 1) = R i ++ [y] → Same H H4 → ∃ acc, H4 D = some (.lst acc) ∧ acc.length < sizeLine ∧ Same H1 (upd H4 D (.lst (acc ++ [y]))) ∧ (upd H4 D (.lst (acc ++ [y]))) D = some (.lst (R (i + 1)))) → (∀ H4, R (i + 1) = R i → Same H H4 → Same H1 H4 ∧ H4 D = some (.lst (R (i + 1)))) →
      g x (wipe σ vs) H fun σ2 H2 => wipe σ2 vs = wipe σ vs ∧ tt σ2 H2 fun b H3 => if b = true then te σ2 H3 fun y H4 => ∃ acc, H4 D = some (.lst acc) ∧ acc.length < sizeLine ∧ Same H1 (upd H4 D (.lst (acc ++ [y]))) ∧ (upd H4 D (.lst (acc ++ [y]))) D = some (.lst (R (i + 1))) else Same H1 H3 ∧ H3 D = some (.lst (R (i + 1))))
    (hd : ∀ H, Same H1 H → H D = some (.lst (R xs.length)) → Qd H) :
    ∃ W : Nat → Nat → Hp → Prop, (∃ m, W 0 m (upd H1 D (.lst []))) ∧ ∀ i m H, W i m H →
      ((Itl K a).stop i H ∧ Qd H) ∨ ((Itl K a).go i H ∧ ∃ Nx : Hp → Prop, (∀ H', Nx H' → ∃ m', m' < m ∧ W (i + 1) m' H') ∧ ∀ x H', (Itl K a).yld i H x H' → g x (wipe σ vs) H' fun σ2 H2 => wipe σ2 vs = wipe σ vs ∧ tt σ2 H2 fun b H3 =>
        if b = true then te σ2 H3 fun y H4 => ∃ acc, H4 D = some (.lst acc) ∧ acc.length < sizeLine ∧ Nx (upd H4 D (.lst (acc ++ [y]))) else Nx H3) := by
  have fin : ∀ {i : Nat} {H : Hp}, Same H1 H → H D = some (.lst (R i)) → ∀ y H4, R (i + 1) = R i ++ [y] → Same H H4 → ∃ acc, H4 D = some (.lst acc) ∧ acc.length < sizeLine ∧ Same H1 (upd H4 D (.lst (acc ++ [y]))) ∧ (upd H4 D (.lst (acc ++ [y]))) D = some (.lst (R (i + 1))) := fun s h => r_push (H4 := H1) hz hD s h
  have fin0 : ∀ {i : Nat} {H : Hp}, Same H1 H → H D = some (.lst (R i)) → ∀ H4, R (i + 1) = R i → Same H H4 → Same H1 H4 ∧ H4 D = some (.lst (R (i + 1))) := fun s h => r_keep s h
  exact lc_list (K := K) (a := a) (xs := xs) (fun i H' => Same H1 H' ∧ H' D = some (.lst (R i))) ⟨same_upd hD, by rw [upd_same, h0]⟩ (fun i H _ h => h.1.seq ha) (fun i x H hx h => hs i x H hx h.1 (fin h.1 h.2) (fin0 h.1 h.2)) (fun H h => hd H h.1 h.2)
theorem lc_rangeR {lo : Int} {n : Nat} {g : TG} {tt : TT} {te : TE} {vs : List Nat} {σ : L2.St} {H1 : Hp} {D : Addr} {Qd : Hp → Prop} (R : Nat → List V) (h0 : R 0 = []) (hz : ∀ i, (R i).length ≤ 100000) (hD : H1 D = none) 
    (hs : ∀ i H, i < n → Same H1 H → (∀ y H4, R (i + 1) = R i ++ [y] → Same H H4 → ∃ acc, H4 D = some (.lst acc) ∧ acc.length < sizeLine ∧ Same H1 (upd H4 D (.lst (acc ++ [y]))) ∧ (upd H4 D (.lst (acc ++ [y]))) D = some (.lst (R (i + 1)))) → (∀ H4, R (i + 1) = R i → Same H H4 → Same H1 H4 ∧ H4 D = some (.lst (R (i + 1)))) →
      g (.int (lo + (i : Nat))) (wipe σ vs) H fun σ2 H2 => wipe σ2 vs = wipe σ vs ∧ tt σ2 H2 fun b H3 => if b = true then te σ2 H3 fun y H4 => ∃ acc, H4 D = some (.lst acc) ∧ acc.length < sizeLine ∧ Same H1 (upd H4 D (.lst (acc ++ [y]))) ∧ (upd H4 D (.lst (acc ++ [y]))) D = some (.lst (R (i + 1))) else Same H1 H3 ∧ H3 D = some (.lst (R (i + 1))))
    (hd : ∀ H, Same H1 H → H D = some (.lst (R n)) → Qd H) :
    ∃ W : Nat → Nat → Hp → Prop, (∃ m, W 0 m (upd H1 D (.lst []))) ∧ ∀ i m H, W i m H →
      ((Itr lo n).stop i H ∧ Qd H) ∨ ((Itr lo n).go i H ∧ ∃ Nx : Hp → Prop, (∀ H', Nx H' → ∃ m', m' < m ∧ W (i + 1) m' H') ∧ ∀ x H', (Itr lo n).yld i H x H' → g x (wipe σ vs) H' fun σ2 H2 => wipe σ2 vs = wipe σ vs ∧ tt σ2 H2 fun b H3 =>
        if b = true then te σ2 H3 fun y H4 => ∃ acc, H4 D = some (.lst acc) ∧ acc.length < sizeLine ∧ Nx (upd H4 D (.lst (acc ++ [y]))) else Nx H3) := by
  have fin : ∀ {i : Nat} {H : Hp}, Same H1 H → H D = some (.lst (R i)) → ∀ y H4, R (i + 1) = R i ++ [y] → Same H H4 → ∃ acc, H4 D = some (.lst acc) ∧ acc.length < sizeLine ∧ Same H1 (upd H4 D (.lst (acc ++ [y]))) ∧ (upd H4 D (.lst (acc ++ [y]))) D = some (.lst (R (i + 1))) := fun s h => r_push (H4 := H1) hz hD s h
  have fin0 : ∀ {i : Nat} {H : Hp}, Same H1 H → H D = some (.lst (R i)) → ∀ H4, R (i + 1) = R i → Same H H4 → Same H1 H4 ∧ H4 D = some (.lst (R (i + 1))) := fun s h => r_keep s h
  exact lc_range (lo := lo) (n := n) (fun i H' => Same H1 H' ∧ H' D = some (.lst (R i))) ⟨same_upd hD, by rw [upd_same, h0]⟩  (fun i H hx h => hs i H hx h.1 (fin h.1 h.2) (fin0 h.1 h.2)) (fun H h => hd H h.1 h.2)
theorem lc_strR {z : Str} {g : TG} {tt : TT} {te : TE} {vs : List Nat} {σ : L2.St} {H1 : Hp} {D : Addr} {Qd : Hp → Prop} (R : Nat → List V) (h0 : R 0 = []) (hz : ∀ i, (R i).length ≤ 100000) (hD : H1 D = none) 
    (hs : ∀ i c H, z.cps[i]? = some c → Same H1 H → (∀ y H4, R (i + 1) = R i ++ [y] → Same H H4 → ∃ acc, H4 D = some (.lst acc) ∧ acc.length < sizeLine ∧ Same H1 (upd H4 D (.lst (acc ++ [y]))) ∧ (upd H4 D (.lst (acc ++ [y]))) D = some (.lst (R (i + 1)))) → (∀ H4, R (i + 1) = R i → Same H H4 → Same H1 H4 ∧ H4 D = some (.lst (R (i + 1)))) →
      g (.str ⟨#[c]⟩) (wipe σ vs) H fun σ2 H2 => wipe σ2 vs = wipe σ vs ∧ tt σ2 H2 fun b H3 => if b = true then te σ2 H3 fun y H4 => ∃ acc, H4 D = some (.lst acc) ∧ acc.length < sizeLine ∧ Same H1 (upd H4 D (.lst (acc ++ [y]))) ∧ (upd H4 D (.lst (acc ++ [y]))) D = some (.lst (R (i + 1))) else Same H1 H3 ∧ H3 D = some (.lst (R (i + 1))))
    (hd : ∀ H, Same H1 H → H D = some (.lst (R z.cps.size)) → Qd H) :
    ∃ W : Nat → Nat → Hp → Prop, (∃ m, W 0 m (upd H1 D (.lst []))) ∧ ∀ i m H, W i m H →
      ((Its z).stop i H ∧ Qd H) ∨ ((Its z).go i H ∧ ∃ Nx : Hp → Prop, (∀ H', Nx H' → ∃ m', m' < m ∧ W (i + 1) m' H') ∧ ∀ x H', (Its z).yld i H x H' → g x (wipe σ vs) H' fun σ2 H2 => wipe σ2 vs = wipe σ vs ∧ tt σ2 H2 fun b H3 =>
        if b = true then te σ2 H3 fun y H4 => ∃ acc, H4 D = some (.lst acc) ∧ acc.length < sizeLine ∧ Nx (upd H4 D (.lst (acc ++ [y]))) else Nx H3) := by
  have fin : ∀ {i : Nat} {H : Hp}, Same H1 H → H D = some (.lst (R i)) → ∀ y H4, R (i + 1) = R i ++ [y] → Same H H4 → ∃ acc, H4 D = some (.lst acc) ∧ acc.length < sizeLine ∧ Same H1 (upd H4 D (.lst (acc ++ [y]))) ∧ (upd H4 D (.lst (acc ++ [y]))) D = some (.lst (R (i + 1))) := fun s h => r_push (H4 := H1) hz hD s h
  have fin0 : ∀ {i : Nat} {H : Hp}, Same H1 H → H D = some (.lst (R i)) → ∀ H4, R (i + 1) = R i → Same H H4 → Same H1 H4 ∧ H4 D = some (.lst (R (i + 1))) := fun s h => r_keep s h
  exact lc_str (z := z) (fun i H' => Same H1 H' ∧ H' D = some (.lst (R i))) ⟨same_upd hD, by rw [upd_same, h0]⟩  (fun i c H hx h => hs i c H hx h.1 (fin h.1 h.2) (fin0 h.1 h.2)) (fun H h => hd H h.1 h.2)
theorem cut_whole {xs : List V} {lo hi : Option Int} (h : HT.sIx xs.length 0 lo = 0 ∧ HT.sIx xs.length xs.length hi = xs.length) : cutV xs lo hi = xs := by
  unfold cutV
  rw [h.1, h.2, List.drop_zero, Nat.sub_zero, List.take_length]
theorem slA_of {K : PySem.W.Frag} {H : Hp} {a : Addr} {xs : List V} {lo hi : Option Int} {Q : VK} (h : H a = some (.tup xs)) (k : ∀ p H', Same H H' → H' p = some (.tup (cutV xs lo hi)) → Q (.ref p) H') : rSlA K (.ref a) lo hi H Q := by
  refine ⟨a, xs, rfl, SqT.of h, fun e => ?_, fun _ p hp => k p _ (same_upd hp) upd_same⟩
  exact k a H (Same.refl _) (by rw [cut_whole e]; exact h)
theorem slA_lo {K : PySem.W.Frag} {H : Hp} {a : Addr} {xs : List V} {lo : Option Int} {σ : L2.St} {Q : VK} (h : H a = some (.tup xs)) (k : ∀ p H', Same H H' → H' p = some (.tup (cutV xs lo none)) → Q (.ref p) H') : tNoPart σ H (fun u H3 => rSlA K (.ref a) lo u H3 Q) := slA_of (hi := none) h k
theorem catA_of {K : PySem.W.Frag} {H : Hp} {a b : Addr} {xs ys : List V} {Q : VK} (ha : H a = some (.tup xs)) (hb : H b = some (.tup ys)) (hz : xs.length + ys.length ≤ sizeLine) (k : ∀ p H', Same H H' → H' p = some (.tup (xs ++ ys)) → Q (.ref p) H') : rCatA K (.ref a) (.ref b) H Q := by
  refine ⟨a, b, xs, ys, rfl, rfl, SqT.of ha, SqT.of hb, hz, fun e => ?_, fun _ e => ?_, fun _ _ p hp => k p _ (same_upd hp) upd_same⟩
  · exact k b H (Same.refl _) (by rw [e]; exact hb)
  · exact k a H (Same.refl _) (by rw [e, List.append_nil]; exact ha)
/-! ### plain data that draws leave -/
theorem RepJ.up {H : Hp} {v : V} {j : J} {n : Nat} (h : RepJ H v j n) : RepJ H v j (n + 1) := by
  induction h with
  | non => exact .non
  | bl b => exact .bl b
  | int i => exact .int i
  | str z => exact .str z
  | tup h z l _ ih => exact .tup h z l ih
  | lst h z l _ ih => exact .lst h z l ih
def Kp (a : Addr) (H : Hp) (v : V) (j : J) (n : Nat) : Prop := ∀ H', Keep a H H' → RepJ H' v j n
theorem Kp.rep {a : Addr} {H : Hp} {v : V} {j : J} {n : Nat} (h : Kp a H v j n) : RepJ H v j n := h H (Keep.refl a H)
theorem Kp.keep {a : Addr} {H H' : Hp} {v : V} {j : J} {n : Nat} (k : Keep a H H') (h : Kp a H v j n) : Kp a H' v j n := fun H2 k2 => h H2 (k.trans k2)
theorem Kp.same {a : Addr} {H H' : Hp} {v : V} {j : J} {n : Nat} (k : Same H H') (h : Kp a H v j n) : Kp a H' v j n := h.keep (Keep.same k)
theorem Kp.up {a : Addr} {H : Hp} {v : V} {j : J} {n : Nat} (h : Kp a H v j n) : Kp a H v j (n + 1) := fun H2 k2 => (h H2 k2).up
theorem Kp.tup {a p : Addr} {H : Hp} {xs : List V} {js : List J} {n : Nat} (hp : H p = some (.tup xs)) (ne : p ≠ a) (hz : xs.length ≤ 100000) (two : Two (fun x j => Kp a H x j n) xs js) : Kp a H (.ref p) (.tup js) (n + 1) := fun H2 k2 => .tup (k2 _ _ hp ne) hz two.len fun i x j hx hj => two.get2 hx hj H2 k2
theorem Kp.lst {a p : Addr} {H : Hp} {xs : List V} {js : List J} {n : Nat} (hp : H p = some (.lst xs)) (ne : p ≠ a) (hz : xs.length ≤ 100000) (two : Two (fun x j => Kp a H x j n) xs js) : Kp a H (.ref p) (.lst js) (n + 1) := fun H2 k2 => .lst (k2 _ _ hp ne) hz two.len fun i x j hx hj => two.get2 hx hj H2 k2
def Leaf (v : V) : Prop := v = .non ∨ (∃ b, v = .bl b) ∨ (∃ i, v = .int i) ∨ ∃ z, v = .str z
theorem Leaf.kp {a : Addr} {H : Hp} {v : V} (h : Leaf v) (n : Nat) : ∃ j, Kp a H v j n := by
  rcases h with rfl | ⟨b, rfl⟩ | ⟨i, rfl⟩ | ⟨z, rfl⟩
  · exact ⟨.non, fun _ _ => .non⟩
  · exact ⟨.bl b, fun _ _ => .bl b⟩
  · exact ⟨.int i, fun _ _ => .int i⟩
  · exact ⟨.str z, fun _ _ => .str z⟩
theorem kp_all {a : Addr} {H : Hp} {n : Nat} : ∀ {xs : List V}, (∀ x ∈ xs, ∃ j, Kp a H x j n) → ∃ js, Two (fun x j => Kp a H x j n) xs js
  | [], _ => ⟨[], .nil⟩
  | x :: xs, h => by
    obtain ⟨j, hj⟩ := h x (List.mem_cons_self ..)
    obtain ⟨js, hs⟩ := kp_all fun y hy => h y (List.mem_cons_of_mem _ hy)
    exact ⟨j :: js, .cons hj hs⟩
theorem kp_tup {a p : Addr} {H : Hp} {xs : List V} {n : Nat} (hs : Strm H a) (hp : H p = some (.tup xs)) (hz : xs.length ≤ 100000) (h : ∀ x ∈ xs, ∃ j, Kp a H x j n) : ∃ j, Kp a H (.ref p) j (n + 1) := by
  obtain ⟨js, two⟩ := kp_all h
  exact ⟨_, Kp.tup hp (hs.neT hp) hz two⟩
theorem kp_lst {a p : Addr} {H : Hp} {xs : List V} {n : Nat} (ne : p ≠ a) (hp : H p = some (.lst xs)) (hz : xs.length ≤ 100000) (h : ∀ x ∈ xs, ∃ j, Kp a H x j n) : ∃ j, Kp a H (.ref p) j (n + 1) := by
  obtain ⟨js, two⟩ := kp_all h
  exact ⟨_, Kp.lst hp ne hz two⟩
theorem mem_cut {xs : List V} {lo hi : Option Int} {x : V} (h : x ∈ cutV xs lo hi) : x ∈ xs := by
  unfold cutV at h
  exact List.mem_of_mem_drop (List.mem_of_mem_take h)
/-- an item that is drawn -/
theorem at_draw {xs : List V} {d : Int} {n : Nat} (hl : xs.length = n) (h0 : 0 ≤ d) (h1 : d < n) : ∃ v, atI xs d = some v ∧ v ∈ xs := by
  obtain ⟨v, hv⟩ : ∃ v, xs[d.toNat]? = some v := ⟨_, List.getElem?_eq_getElem (by omega)⟩
  exact ⟨v, at_of (j := d.toNat) (by omega) hv, List.mem_of_getElem? hv⟩
end My
namespace My
open PySem PySem.Spec PyProof.Rows L2
/-! ### name = {k: v for ..} -/
theorem sw_dict {kx vx : Expr} {gs : List Comprehension} {scope : Scope} {pos py : Pos} {y : Str} {l : Nat} {env : Env} (isf : env.scope.kind = .function) (own : env.scope.names.lookup y = some .local) (row : (py.line == pos.line) = true)
    (free : (scope.names.any fun (n, k) => n == y && (k == .local || k == .cell)) = false) : swapsWith (.DictComp kx vx gs scope pos) (some (.Name y py)) l env = pure true := by
  have k1 : env.kindOf y = some .local := own
  have k2 : env.blockKind = .function := by
    unfold Env.blockKind
    rw [isf]
    rfl
  unfold swapsWith
  simp only [k2, k1, free, Expr.pos, row]
  rfl
theorem ps_setDc {X : Cx} {i : Nat} {y : Str} {py : Pos} {kx vx tg iter : Expr} {ifs : List Expr} {scope : Scope} {own : List (Str × Nat)} {pos spos : Pos} {wi : TI} {g : TG} {tt : TT} {tk tv : TE} (calm : X.calm = true) (nd : X.N.Nodup) (at_y : X.N[i]? = some y) (own_y : X.env.scope.names.lookup y = some .local)
    (sw : swapsWith (.DictComp kx vx [⟨tg, iter, ifs, 0⟩] scope pos) (some (.Name y py)) spos.line X.env = pure true) (pi : PI X tg iter wi) (bo : BlkOk X.N X.env.scope scope own)
    (pg : ∀ (s : Shared) (H : Hp) (C : Addr) (cl : List (Str × Addr)) (fp : List Addr), PG (X.blk s H scope (compEnvC scope cl C X.env) fp) tg g) (pt : ∀ (s : Shared) (H : Hp) (C : Addr) (cl : List (Str × Addr)) (fp : List Addr), PTs (X.blk s H scope (compEnvC scope cl C X.env) fp) ifs tt)
    (pk : ∀ (s : Shared) (H : Hp) (C : Addr) (cl : List (Str × Addr)) (fp : List Addr), PE (X.blk s H scope (compEnvC scope cl C X.env) fp) kx tk) (pv : ∀ (s : Shared) (H : Hp) (C : Addr) (cl : List (Str × Addr)) (fp : List Addr), PE (X.blk s H scope (compEnvC scope cl C X.env) fp) vx tv)
    (fs : ∀ x, foldedSetIterable iter X.env x = pure x := by intro _; rfl) : PS X (.Assign [.Name y py] (.DictComp kx vx [⟨tg, iter, ifs, 0⟩] scope pos) spos) (tAsg (tDc wi g tt tk tv (own.map (·.2))) (gName i)) := by
  constructor
  intro pns s0 σ H D Iv hh
  rw [exec_Assign_Name_used (hs := sw)]
  refine wpAny_bind (wpAny_standAt ?_)
  refine wpAny_bind ?_
  show wpAny _ X.A (do let _ ← comprehension (.DictComp kx vx [⟨tg, iter, ifs, 0⟩] scope pos) scope X.env (firstIterPos [⟨tg, iter, ifs, 0⟩] pos) newDict false (eval iter X.env) (some (assign (.Name y py) X.env))) _ _ s0
  have h2 : tDc wi g tt tk tv (own.map (·.2)) σ H (fun x H1 => gName i x σ H1 D.nx) := hh
  refine wpAny_bind (thn (dc_core (Qf := fun _ s' => SP X pns D .next s') calm nd Iv pi bo pg pt pk pv fs h2 ?_) fun _ s' hq => wpAny_pure (wpAny_pure hq))
  intro L C s1 m H1 I1 q1 ns fo
  show wpAny _ _ (assign (.Name y py) X.env (.ref L)) _ _ _
  refine wpAny_assign_Name (store_ok2 (v := V.ref L) I1 nd at_y (.inl own_y) rfl ?_ (.inr own_y))
  rintro s2 I2 ⟨a, sb, ha⟩
  obtain ⟨f0, f1, f2, f3, f4, f5⟩ := fo
  have far : C ≠ a := by
    rcases ha with z | z
    · rw [z]
      exact f1
    · exact fun e => f4 y a z e.symm
  refine ⟨m, ns.sameBut sb far, ?_⟩
  intro h3 sb3
  exact ⟨_, H1, I2.turned (t' := s2.toks) (fun b o hb e => (sb3.2 b hb).trans e) f0 f1 f3 f4 f5, q1⟩
end My
namespace My
open PySem PySem.Spec PyProof.Rows L2
/-! ### (number, sign) <= (number, sign) -/
def leMix (i : Int) (c : Nat) (j : Int) (d : Nat) : Bool := if i = j then (if c = d then true else decide (c ≤ d)) else decide (i ≤ j)
def rLeMix (K : PySem.W.Frag) : R2 := fun x y H Q => ∃ (a b : Addr) (i j : Int) (c d : Nat), x = .ref a ∧ y = .ref b ∧ SqT K H a [.int i, .str ⟨#[c]⟩] ∧ SqT K H b [.int j, .str ⟨#[d]⟩] ∧ Q (.bl (leMix i c j d)) H
theorem sign_lt (c d : Nat) : decide ((⟨#[d]⟩ : Str).cps.toList < (⟨#[c]⟩ : Str).cps.toList) = decide (d < c) := by
  refine decide_eq_decide.mpr ?_
  show ([d] : List Nat) < [c] ↔ _
  rw [List.cons_lt_cons_iff]
  constructor
  · rintro (h | ⟨_, h⟩)
    · exact h
    · cases h
  · exact .inl
theorem op_leMix {X : Cx} (hu : X.A.units < cLine) : OpR X (compareOp .LtE) (rLeMix X.K) := by
  intro pins s σ H x y v u Q I rx ry h
  obtain ⟨a, b, i, j, c, d, rfl, rfl, ha, hb, q⟩ := h
  cases rx
  cases ry
  obtain ⟨its, r1, p1, _⟩ := I.tuple ha
  obtain ⟨its2, r2, p2, _⟩ := I.tuple hb
  obtain ⟨u1, u2, rfl, ri, rj⟩ := vals2 r1
  obtain ⟨w1, w2, rfl, si, sj⟩ := vals2 r2
  obtain ⟨t1, rfl⟩ := ri
  obtain ⟨t2, rfl⟩ := rj
  obtain ⟨t3, rfl⟩ := si
  obtain ⟨t4, rfl⟩ := sj
  have R := Ob.RcOp.tuples_le (A := X.A) (s := s) (e := fun k => if k = 0 then (i == j) else ((⟨#[c]⟩ : Str) == ⟨#[d]⟩)) (r := fun k => if k = 0 then decide (i ≤ j) else !decide ((⟨#[d]⟩ : Str).cps.toList < (⟨#[c]⟩ : Str).cps.toList)) p1 p2 hu (fun k h1 h2 => by
    match k, h1, h2 with
    | 0, _, _ => exact SeqAt.EqAt.int_int _ _ _ _
    | 1, _, _ => exact SeqAt.EqAt.str_str _ _ _ _
    | k + 2, h1, _ => exact absurd h1 (by simp)) (fun k h1 h2 _ => by
    match k, h1, h2 with
    | 0, _, _ => exact Ob.RcOp.le_int _ _ _ _
    | 1, _, _ => exact fun _ _ _ _ h => PySem.P.le_str h
    | k + 2, h1, _ => exact absurd h1 (by simp))
  have ev : Ob.lexAt (fun k => if k = 0 then (i == j) else ((⟨#[c]⟩ : Str) == ⟨#[d]⟩)) (fun k => if k = 0 then decide (i ≤ j) else !decide ((⟨#[d]⟩ : Str).cps.toList < (⟨#[c]⟩ : Str).cps.toList)) (decide ([Value.int i t1, Value.str ⟨#[c]⟩ t2].toArray.size ≤ [Value.int j t3, Value.str ⟨#[d]⟩ t4].toArray.size)) 0 (min [Value.int i t1, Value.str ⟨#[c]⟩ t2].toArray.size [Value.int j t3, Value.str ⟨#[d]⟩ t4].toArray.size) = leMix i c j d := by
    show Ob.lexAt _ _ (decide (2 ≤ 2)) 0 2 = _
    rw [Ob.lexAt_succ, Ob.lexAt_succ, Ob.lexAt_zero, sign_lt]
    unfold leMix
    by_cases e1 : i = j
    · have b1 : (i == j) = true := beq_iff_eq.mpr e1
      show (if (i == j) = true then (if ((⟨#[c]⟩ : Str) == ⟨#[d]⟩) = true then true else !decide (d < c)) else decide (i ≤ j)) = _
      rw [if_pos b1, if_pos e1]
      by_cases e2 : c = d
      · rw [if_pos e2, if_pos (by rw [e2]; exact beq_iff_eq.mpr rfl)]
      · have : ¬ ((⟨#[c]⟩ : Str) == ⟨#[d]⟩) = true := fun h => e2 (List.cons.inj (congrArg (fun s : Str => s.cps.toList) (beq_iff_eq.mp h))).1
        rw [if_neg e2, if_neg this, ← decide_not]
        exact decide_eq_decide.mpr (by omega)
    · have b1 : ¬ (i == j) = true := fun h => e1 (beq_iff_eq.mp h)
      show (if (i == j) = true then _ else decide (i ≤ j)) = _
      rw [if_neg b1, if_neg e1]
  rw [ev] at R
  have z : wpAny (model X.prog X.w) X.A (compareOp .LtE (.ref a) (.ref b)) (EP X pins σ Q) X.xe s := R X.prog X.w X.xe (EP X pins σ Q) ⟨.bl _, H, I, rfl, q⟩
  exact z
/-! ### systems -/
structure Sy where
  st : List Nat
  mv : List (Nat × Nat × Nat)
  ac : List Nat
def natsV (xs : List Nat) : List V := xs.map fun (i : Nat) => V.int (i : Int)
theorem natsV_len (xs : List Nat) : (natsV xs).length = xs.length := List.length_map _
theorem natsV_getB {xs : List Nat} {i : Nat} {v : V} (h : (natsV xs)[i]? = some v) : ∃ x, xs[i]? = some x ∧ v = V.int (x : Int) := by
  unfold natsV at h
  rw [List.getElem?_map] at h
  obtain ⟨x, hx, rfl⟩ := Option.map_eq_some_iff.mp h
  exact ⟨x, hx, rfl⟩
theorem natsV_getN {xs : List Nat} {i x : Nat} (h : xs[i]? = some x) : (natsV xs)[i]? = some (V.int (x : Int)) := by
  unfold natsV
  rw [List.getElem?_map, h]
  rfl
theorem natsV_snoc (xs : List Nat) (x : Nat) : natsV xs ++ [V.int (x : Int)] = natsV (xs ++ [x]) := by
  unfold natsV
  rw [List.map_append]
  rfl
theorem in_nats (x : Nat) (ys : List Nat) : inV (V.int (x : Int)) (natsV ys) = decide (x ∈ ys) := by
  unfold inV natsV
  rw [Bool.eq_iff_iff]
  simp [eqV]
  constructor
  · rintro ⟨y, hy, h⟩
    have e : y = x := by omega
    rw [← e]
    exact hy
  · exact fun h => ⟨x, h, rfl⟩
theorem flat_nats (ys : List Nat) : (natsV ys).all flatV = true := by
  rw [List.all_eq_true]
  intro v hv
  obtain ⟨i, _, rfl⟩ := List.mem_map.mp hv
  rfl
theorem take_snoc {α : Type} {l : List α} {i : Nat} {x : α} (h : l[i]? = some x) : l.take (i + 1) = l.take i ++ [x] := by
  rw [List.take_add_one, h]
  rfl
abbrev Mv := Nat × Nat × Nat
def MoveAt (H : Hp) (v : V) (m : Mv) : Prop := ∃ t, v = .ref t ∧ H t = some (.tup [.int (m.1 : Int), .str ⟨#[m.2.1]⟩, .int (m.2.2 : Int)])
structure SysAt (H : Hp) (p : Addr) (S : Sy) : Prop where
  ex : ∃ (a b c : Addr) (ts : List V), H p = some (.tup [.ref a, .ref b, .ref c]) ∧ H a = some (.tup (natsV S.st)) ∧ H b = some (.tup ts) ∧ Two (MoveAt H) ts S.mv ∧ H c = some (.tup (natsV S.ac))
theorem MoveAt.pers {H H' : Hp} {v : V} {m : Mv} (k : Pers H H') (h : MoveAt H v m) : MoveAt H' v m := by
  obtain ⟨t, e, h⟩ := h
  exact ⟨t, e, k.tup _ _ h⟩
theorem MoveAt.same {H H' : Hp} {v : V} {m : Mv} (k : Same H H') (h : MoveAt H v m) : MoveAt H' v m := h.pers (Pers.same k)
theorem SysAt.pers {H H' : Hp} {p : Addr} {S : Sy} (k : Pers H H') (h : SysAt H p S) : SysAt H' p S := by
  obtain ⟨a, b, c, ts, h1, h2, h3, h4, h5⟩ := h.ex
  exact ⟨a, b, c, ts, k.tup _ _ h1, k.tup _ _ h2, k.tup _ _ h3, h4.mono fun _ _ => MoveAt.pers k, k.tup _ _ h5⟩
theorem SysAt.same {H H' : Hp} {p : Addr} {S : Sy} (k : Same H H') (h : SysAt H p S) : SysAt H' p S := h.pers (Pers.same k)
structure Good (S : Sy) : Prop where
  ne : S.st ≠ []
  rise : S.st.Pairwise (· < ·)
  lt : ∀ x ∈ S.st, x < 40
  mrise : S.mv.Pairwise (fun m n => m.1 < n.1 ∨ (m.1 = n.1 ∧ m.2.1 < n.2.1))
  min : ∀ m ∈ S.mv, m.1 ∈ S.st ∧ m.2.2 ∈ S.st ∧ 97 ≤ m.2.1 ∧ m.2.1 ≤ 100
  ml : S.mv.length ≤ 1000
  arise : S.ac.Pairwise (· < ·)
  asub : ∀ x ∈ S.ac, x ∈ S.st
theorem rise_short : ∀ (xs : List Nat) (m k : Nat), xs.Pairwise (· < ·) → (∀ x ∈ xs, m ≤ x ∧ x < k) → xs.length ≤ k - m
  | [], m, k, _, _ => Nat.zero_le _
  | x :: xs, m, k, h, hb => by
    rw [List.pairwise_cons] at h
    have := rise_short xs (x + 1) k h.2 fun y hy => ⟨h.1 y hy, (hb y (List.mem_cons_of_mem _ hy)).2⟩
    have h1 := hb x (List.mem_cons_self ..)
    rw [List.length_cons]
    omega
theorem Good.len {S : Sy} (G : Good S) : S.st.length ≤ 40 := by
  have := rise_short S.st 0 40 G.rise fun x hx => ⟨Nat.zero_le _, G.lt x hx⟩
  omega
theorem Good.alen {S : Sy} (G : Good S) : S.ac.length ≤ 40 := by
  have := rise_short S.ac 0 40 G.arise fun x hx => ⟨Nat.zero_le _, G.lt x (G.asub x hx)⟩
  omega
theorem nodup_len : ∀ (n : Nat) (l : List Int), l.Nodup → (∀ x ∈ l, 0 ≤ x ∧ x < n) → l.length ≤ n
  | 0, l, _, h => by
    cases l with
    | nil => exact Nat.le_refl _
    | cons x l =>
      have := h x (List.mem_cons_self ..)
      omega
  | n + 1, l, hd, h => by
    by_cases c : (n : Int) ∈ l
    · have h1 := nodup_len n (l.erase (n : Int)) (hd.erase _) fun x hx => by
        have h2 := h x (List.mem_of_mem_erase hx)
        have h3 : x ≠ (n : Int) := fun e => by
          rw [e] at hx
          exact (List.Nodup.not_mem_erase hd) hx
        omega
      have h4 := List.length_erase_of_mem c
      omega
    · have h1 := nodup_len n l hd fun x hx => by
        have h2 := h x hx
        have h3 : x ≠ (n : Int) := fun e => c (e ▸ hx)
        omega
      omega
theorem nodup_one (x : Nat) : [x].Nodup := by simp
/-! ### what is reached -/
inductive Rch (S : Sy) : Nat → Nat → Prop where
  | refl (s : Nat) : Rch S s s
  | step {s t : Nat} {m : Mv} (h : Rch S s t) (hm : m ∈ S.mv) (e : m.1 = t) : Rch S s m.2.2
theorem Rch.trans {S : Sy} {a b c : Nat} (h : Rch S a b) (k : Rch S b c) : Rch S a c := by
  induction k with
  | refl => exact h
  | step _ hm e ih => exact .step ih hm e
theorem Rch.one {S : Sy} {m : Mv} (hm : m ∈ S.mv) : Rch S m.1 m.2.2 := .step (.refl _) hm rfl
theorem Rch.mem {S : Sy} (G : Good S) {a b : Nat} (ha : a ∈ S.st) (h : Rch S a b) : b ∈ S.st := by
  cases h with
  | refl => exact ha
  | step _ hm _ => exact (G.min _ hm).2.1
/-- what is closed under moves holds what is reached -/
theorem Rch.closed {S : Sy} {a b : Nat} {F : Nat → Prop} (h : Rch S a b) (ha : F a) (hc : ∀ m ∈ S.mv, F m.1 → F m.2.2) : F b := by
  induction h with
  | refl => exact ha
  | step _ hm e ih => exact hc _ hm (by rw [e]; exact ih)
noncomputable def dec (p : Prop) : Bool := @decide p (Classical.propDecidable p)
theorem dec_iff {p : Prop} : dec p = true ↔ p := by
  unfold dec
  exact @decide_eq_true_iff p (Classical.propDecidable p)
noncomputable def orbL (S : Sy) (s : Nat) : List Nat := S.st.filter fun o => dec (Rch S s o ∧ Rch S o s)
theorem mem_orb {S : Sy} {s o : Nat} : o ∈ orbL S s ↔ o ∈ S.st ∧ Rch S s o ∧ Rch S o s := by
  unfold orbL
  rw [List.mem_filter, dec_iff]
def endsL (S : Sy) (s : Nat) : List Nat := (S.mv.filter fun m => decide (m.1 = s)).map (·.2.2)
end My
set_option maxHeartbeats 1000000
namespace My
open PySem PySem.Spec PyProof.Rows L2
/-! ### sorted(dict), int keys -/
theorem dk_len : typeLookup (.type "dict") "__len__" = pure (some (.builtin "dict.__len__")) := by rw [typeLookup_type, builtinLookup_eq_fast]; kernel_rfl
section
variable {prog : Program} {w : World} {A : Around} {E : Value → Shared → Prop} {s : Shared} {d : Addr} {es : Array DictEntry} {ep : Nat}
theorem dk_hint (hT : s.TypeIs (.ref d) "dict") {Q : Bool → Shared → Prop} (h : Q false s) : wpAny (model prog w) A (Builtin.List.listLengthHint (.ref d)) Q E s := by
  unfold Builtin.List.listLengthHint
  refine wpAny_bind (wpAny_specialOf hT dk_len ?_)
  generalize hid : ("dict.__len__" : String) = id0
  wp_delta
  rw [show splitId id0 = some ("dict", "__len__") from by subst hid; decide +kernel]
  subst hid
  refine wpAny_bind (wpAny_isInstance (T := "dict") (b := true) hT (by rw [isSubtype_type]; kernel_rfl) ?_)
  refine wpAny_ite_split (fun hab => absurd hab (by decide)) (fun _ => ?_)
  refine wpAny_ite_split (fun _ => ?_) (fun hab => absurd (by decide +kernel) hab)
  refine wpAny_bind (wpAny_typeOf hT ?_)
  exact wpAny_pure h
theorem raw_at {h h' : Heap} (x : h.DictRaw d es ep) (e : ∀ o, h.get? d = some o → h'.get? d = some o) : h'.DictRaw d es ep := let ⟨o, ho, r⟩ := x; ⟨o, e _ ho, r⟩
theorem raw_lt {h : Heap} (x : h.DictRaw d es ep) : d < h.objs.size := let ⟨_, ho, _⟩ := x; Heap.lt_size ho
theorem loopK {R : Result → Shared → Prop} {S I : Addr} (hh : A.handled = none) (hSI : S < I) (hSd : d ≠ S) (hId : d ≠ I) (hn : es.size ≤ sizeLine) (res : Value) {h₁ : Heap}
    (hR : ∀ h' acc c, (∀ b o, b ≠ S → b ≠ I → h₁.get? b = some o → h'.get? b = some o) → h'.get? S = some { cls := .type "list", dict := none, data := .seq acc c, slots := #[] } →
      acc.toList = es.toList.map (·.key) → R (.ok (.ret res)) { s with heap := h' }) :
    ∀ (k i : Nat) (h : Heap) (c : Nat) (acc : Array Value), es.size - i = k → i ≤ es.size → h.IsKeyIter I d i es.size ep → h.DictRaw d es ep → (∀ b o, b ≠ S → b ≠ I → h₁.get? b = some o → h.get? b = some o) →
      h.get? S = some { cls := .type "list", dict := none, data := .seq acc c, slots := #[] } → acc.toList = (es.toList.map (·.key)).take i →
      codeAny (model prog w) A (.builtin "list.extend.loop" ⟨[.ref S, .ref I, res], []⟩) R { s with heap := h } := by
  have hne : S ≠ I := Nat.ne_of_lt hSI
  intro k
  induction k with
  | zero =>
    intro i h c acc hk hi hst hD hkeep hS hacc
    refine codeAny_builtin PySem.F.entry_extend_loop ?_
    rw [Around.under_plainId PySem.F.plain_extend_loop _]
    show wpAny _ A.in1 (pyNext (.ref I) >>= _) _ _ _
    refine wpAny_bind (wpAny_pyNext_keys_end_raw (s := { s with heap := h }) (A := A.in1) hh hst hD (by omega) fun h' he => ?_)
    refine wpAny_pure (hR h' acc c (fun b o h1 h2 e => he b o h2 (hkeep b o h1 h2 e)) (he S _ hne hS) ?_)
    rw [hacc, List.take_of_length_le]
    rw [List.length_map, Array.length_toList]
    omega
  | succ k ih =>
    intro i h c acc hk hi hst hD hkeep hS hacc
    have hlt : i < es.size := by omega
    have hsz : acc.size = i := by rw [← Array.length_toList, hacc, List.length_take, List.length_map, Array.length_toList]; omega
    refine codeAny_builtin PySem.F.entry_extend_loop ?_
    rw [Around.under_plainId PySem.F.plain_extend_loop _]
    show wpAny _ A.in1 (pyNext (.ref I) >>= _) _ _ _
    refine wpAny_bind (wpAny_pyNext_keys_item_raw (s := { s with heap := h }) hst hD hlt fun h' hst' sb => ?_)
    have hkp : ∀ b o, b ≠ I → h.get? b = some o → h'.get? b = some o := fun b o hb e => (sb.2 b hb).trans e
    have hS' := hkp S _ hne hS
    have up : ∀ b o, b ≠ S → h'.get? b = some o → (h'.update S (Obj.mapSeq (·.push es[i].key))).get? b = some o := fun b o hb e => (Heap.get?_update_other _ _ (Ne.symm hb)).trans e
    show wpAny _ A.in1 (updateSeq S (·.push es[i].key) >>= _) _ _ _
    refine wpAny_bind ?_
    refine wpAny_updateSeq hS' rfl (wpAny_pure ⟨plainId_quiet PySem.F.plain_extend_loop _, ih (i + 1) _ _ (acc.push es[i].key) (by omega) hlt (hst'.at fun o e => up I o (Ne.symm hne) e) (raw_at hD fun o e => up d o hSd (hkp d o hId e))
      (fun b o h1 h2 e => up b o h1 (hkp b o h2 (hkeep b o h1 h2 e))) (Heap.get?_update_self _ hS' rfl) ?_⟩) (by rw [hsz]; omega) (by show (acc.push es[i].key).size ≤ sizeLine + 1; rw [Array.size_push]; omega)
    rw [Array.toList_push, hacc, List.take_add_one]
    congr 1
    rw [List.getElem?_map, Array.getElem?_toList, Array.getElem?_eq_getElem hlt]
    rfl
theorem extK {R : Result → Shared → Prop} (hh : A.handled = none) (hds : (d == sysModules) = false) (hm : s.heap.DictRaw d es ep) (S : Addr) (hSd : d ≠ S) (res : Value) (c₀ : Nat) (hS : s.heap.get? S = some { cls := .type "list", data := .seq #[] c₀ })
    (hR : ∀ h' acc c, (∀ b o, b ≠ S → s.heap.get? b = some o → h'.get? b = some o) → h'.get? S = some { cls := .type "list", dict := none, data := .seq acc c, slots := #[] } →
      acc.toList = es.toList.map (·.key) → R (.ok (.ret res)) { s with heap := h' }) (hn : es.size ≤ sizeLine) :
    wpAny (model prog w) A.in1 (Builtin.List.listExtendWith (.ref S) (.ref d) res)
      (fun fin s' => match fin with | .done f => R (.ok f) s' | .again c' => c'.quiet = true ∧ codeAny (model prog w) A c' R s') (fun e s' => R (.error e) s') s := by
  have hSI : S < s.heap.objs.size := Heap.lt_size hS
  have hdI : d < s.heap.objs.size := raw_lt hm
  have key : ∀ (h : Heap) (c₁ : Nat), (∀ b o, b ≠ S → (s.heap.push { cls := .type "dict_keyiterator", data := .fields #[.ref d, .int 0 0, .int es.size 0, .int ep 0] }).get? b = some o → h.get? b = some o) →
      h.get? S = some { cls := .type "list", data := .seq #[] c₁ } → codeAny (model prog w) A (.builtin "list.extend.loop" ⟨[.ref S, .ref s.heap.objs.size, res], []⟩) R { s with heap := h } := by
    intro h c₁ hk hS₁
    have hI := hk s.heap.objs.size _ (Nat.ne_of_gt hSI) (Heap.get?_push_size _ rfl)
    refine loopK (es := es) (ep := ep) (s := s) (h₁ := s.heap) hh hSI hSd (Nat.ne_of_lt hdI) hn res (fun h' acc c hk' hS' hacc => hR h' acc c (fun b o hb e => hk' b o hb (Nat.ne_of_lt (Heap.lt_size e)) e) hS' hacc)
      es.size 0 h c₁ #[] (Nat.sub_zero _) (Nat.zero_le _) ⟨_, hI, rfl, rfl⟩ (raw_at hm fun o e => hk d o hSd (Heap.get?_push_of_some _ e)) (fun b o hb _ e => hk b o hb (Heap.get?_push_of_some _ e)) hS₁ rfl
  unfold Builtin.List.listExtendWith
  refine wpAny_bind (wpAny_typeOf (T := "dict") hm.typeIs ?_)
  have h1 : Builtin.List.listSameRef (.ref S) (.ref d) = false := by simp [Builtin.List.listSameRef, Ne.symm hSd]
  have h2 : (Value.type "dict" == Value.type "list") = false := by decide
  have h3 : (Value.type "dict" == Value.type "tuple") = false := by decide
  simp only [h1, h2, h3, Bool.or_false, Bool.false_eq_true, if_false]
  refine wpAny_bind (wpAny_pyIter_dict_raw hds hm ?_)
  have hS₁ := Heap.get?_push_of_some { cls := .type "dict_keyiterator", data := .fields #[.ref d, .int 0 0, .int es.size 0, .int ep 0] } hS
  refine wpAny_bind (wpAny_holding (dk_hint (raw_at hm fun o e => Heap.get?_push_of_some _ e).typeIs ?_))
  refine wpAny_ite_split (fun _ => ?_) (fun _ => wpAny_pure ⟨plainId_quiet PySem.F.plain_extend_loop _, key _ c₀ (fun b o _ e => e) hS₁⟩)
  refine wpAny_bind (wpAny_rule ?_)
  refine wpAny_bind ?_
  show wpAny _ _ (updateSeq S (·.push .none) >>= fun _ => updateSeq S (·.pop)) _ _ _
  refine wpAny_bind (wpAny_updateSeq hS₁ rfl ?_)
  have hS₂ := Heap.get?_update_self (Obj.mapSeq (·.push Value.none)) hS₁ rfl
  refine wpAny_updateSeq (hz := by seq_fits) hS₂ rfl ?_
  have hS₃ := Heap.get?_update_self (Obj.mapSeq (·.pop)) hS₂ rfl
  refine wpAny_pure ⟨plainId_quiet PySem.F.plain_extend_loop _, key _ _ (fun b o hb e => ?_) hS₃⟩
  exact (Heap.get?_update_other _ _ (Ne.symm hb)).trans ((Heap.get?_update_other _ _ (Ne.symm hb)).trans e)
theorem collectK {R : List Value → Shared → Prop} (hh : A.handled = none) (hds : (d == sysModules) = false) (hm : s.heap.DictRaw d es ep) (hn : es.size ≤ sizeLine)
    (h : ∀ h' : Heap, (∀ b o, s.heap.get? b = some o → h'.get? b = some o) → s.heap.objs.size < h'.objs.size → R (es.toList.map (·.key)) { s with heap := h' }) :
    wpAny (model prog w) A (collect (.ref d)) R E s := by
  have hd : d < s.heap.objs.size := raw_lt hm
  unfold collect
  refine wpAny_bind (wpAny_runValue (codeAny_builtin entry_proto_collect' ?_))
  rw [Around.under_plainId PySem.F.plain_proto_collect _]
  show wpAny _ A.in1 (newList [] >>= fun l => again (.builtin "list.__iadd__" ⟨[l, .ref d], []⟩)) _ _ s
  refine wpAny_bind (wpAny_newObj_type ?_)
  refine wpAny_pure ⟨plainId_quiet PySem.F.plain_list_iadd _, codeAny_builtin entry_list_iadd' ?_⟩
  rw [Around.under_plainId PySem.F.plain_list_iadd _]
  have hS₁ : (s.heap.push { cls := .type "list", data := .seq ([] : List Value).toArray }).get? s.heap.objs.size = some { cls := .type "list", data := .seq #[] } := Heap.get?_push_size _ rfl
  show wpAny _ A.in1 (Builtin.List.listExtendWith (.ref s.heap.objs.size) (.ref d) (.ref s.heap.objs.size)) _ _ _
  have key := extK (prog := prog) (w := w) (A := A) (s := { s with heap := s.heap.push { cls := .type "list", data := .seq ([] : List Value).toArray } }) (es := es) (ep := ep)
    (R := fun (q : Result) (s' : Shared) => ∃ (h' : Heap) (acc' : Array Value) (c' : Nat), q = .ok (.ret (.ref s.heap.objs.size)) ∧ s' = { s with heap := h' } ∧
      (∀ b o, s.heap.get? b = some o → h'.get? b = some o) ∧ h'.get? s.heap.objs.size = some { cls := .type "list", dict := none, data := .seq acc' c', slots := #[] } ∧ acc'.toList = es.toList.map (·.key))
    hh hds (raw_at hm fun o e => Heap.get?_push_of_some _ e) s.heap.objs.size (Nat.ne_of_lt hd) (.ref s.heap.objs.size) 0 hS₁
    (fun h' acc' c' hk hS' hacc => ⟨h', acc', c', rfl, rfl, fun b o e => hk b o (Nat.ne_of_lt (Heap.lt_size e)) (Heap.get?_push_of_some _ e), hS', hacc⟩) hn
  refine wpAny_mono key (fun fin s' x => ?_) fun e s' x => ?_
  · cases fin with
    | done f =>
      obtain ⟨h', acc', c', e, rfl, hk, hS', hacc⟩ := x
      cases e
      show wpAny _ A (load s.heap.objs.size >>= _) _ _ _
      refine wpAny_bind (wpAny_load hS' ?_)
      refine wpAny_pure ?_
      show R acc'.toList _
      rw [hacc]
      exact h h' hk (Heap.lt_size hS')
    | again c₁ =>
      refine ⟨x.1, codeAny_mono x.2 fun q s₂ y => ?_⟩
      obtain ⟨h', acc', c', rfl, rfl, hk, hS', hacc⟩ := y
      show wpAny _ A (load s.heap.objs.size >>= _) _ _ _
      refine wpAny_bind (wpAny_load hS' ?_)
      refine wpAny_pure ?_
      show R acc'.toList _
      rw [hacc]
      exact h h' hk (Heap.lt_size hS')
  · obtain ⟨_, _, _, e', _⟩ := x
    cases e'
end
end My
namespace My
open PySem PySem.Spec PyProof.Rows L2
theorem ints_keys {P : Program} {w : World} : ∀ {es : List DictEntry} {xs : List (Key × Value)} {kvs : List (Key × V)} {ns : List Int}, Pairs (mixKind P w) es xs → KV kvs xs → kvs.map (·.1) = ns.map Sum.inl → IntsAre (es.map (·.key)) ns := by
  intro es xs kvs ns hp
  induction hp generalizing kvs ns with
  | nil =>
    intro kv hk
    cases kv
    cases ns with
    | nil => exact .nil
    | cons n ns => cases hk
  | @cons e x es xs h1 h2 _ ih =>
    intro kv hk
    cases kv with
    | @cons a _ l _ hh ht =>
      cases ns with
      | nil => cases hk
      | cons n ns =>
        rw [List.map_cons, List.map_cons] at hk
        have hk1 := (List.cons.inj hk).1
        have hk2 := (List.cons.inj hk).2
        rw [List.map_cons]
        have h1' : keyIs x.1 e.key = true := h1
        rw [← hh.1, hk1] at h1'
        rcases keyIs_shape h1' with ⟨i, t, e1, e2⟩ | ⟨y, t, e1, _⟩
        · rw [e2, Sum.inl.inj e1]
          exact .cons i t (ih ht hk2)
        · cases e1
section
variable {prog : Program} {w : World} {A : Around} {E : Value → Shared → Prop} {s : Shared} {d : Addr} {es : Array DictEntry} {ep : Nat}
theorem sortedK {Q : Value → Shared → Prop} {ns : List Int} (hh : A.handled = none) (hds : (d == sysModules) = false) (hm : s.heap.DictRaw d es ep) (hn : es.size ≤ sizeLine) (hI : IntsAre (es.toList.map (·.key)) ns)
    (h : ∀ (h' : Heap) (p : Addr) (out : List Value) (n : Nat), s.heap.objs.size ≤ p → (∀ b o, s.heap.get? b = some o → h'.get? b = some o) → h'.get? p = some (seqObj "list" out.toArray n) → SrtO.Srtd SrtO.ltIv out → SrtO.Stb SrtO.ltIv out (es.toList.map (·.key)) → Q (.ref p) { s with heap := h' }) :
    wpAny (model prog w) A (call (.builtin "sorted") [.ref d]) Q E s := by
  refine Calls.call_function_entry kind_sorted plain_sorted entry_sorted (args_sorted1 _) ?_
  unfold Builtin.«sorted»
  refine wpAny_bind (m := checkCount "sorted" 1 1 _) (wpAny_pure ?_)
  refine wpAny_bind (collectK (A := A.in1) (es := es) (ep := ep) hh hds hm hn fun h1 hk hlt => ?_)
  have hz : (es.toList.map (·.key)).length ≤ sizeLine := by rw [List.length_map, Array.length_toList]; exact hn
  refine wpAny_bind (wpAny_newList ?_ hz)
  have hoL : (h1.push { cls := .type "list", data := .seq (es.toList.map (·.key)).toArray }).get? h1.objs.size = some (seqObj "list" (es.toList.map (·.key)).toArray 0) := Heap.get?_push_size _ rfl
  have hle : s.heap.objs.size ≤ h1.objs.size := Nat.le_of_lt hlt
  refine wpAny_bind (wpAny_holding (wpAny_call_entry PyProof.Rows.slot_list_sort ⟨_, hoL, rfl⟩ PyProof.Rows.entry_list_sort (SrtO.list_sort_ord SrtO.swo_int hoL hz (fun h2 => SrtO.ints_sortable hI h2) fun out hs hb => ⟨_, rfl, ?_⟩) (PyProof.Rows.args_list_sort _)))
  obtain ⟨n, he⟩ := PyProof.Rows.sortedHeap_at (vs := es.toList.map (·.key)) (out := out.toArray) hoL
  refine wpAny_pure ⟨_, rfl, h _ h1.objs.size out n hle (fun b o hb => ?_) he hs hb⟩
  have hb1 := hk b o hb
  rw [PyProof.Rows.sortedHeap_old (Nat.ne_of_lt (Heap.lt_size hb1)) (by rw [Heap.size_push]; exact Nat.lt_succ_of_lt (Heap.lt_size hb1))]
  exact Heap.get?_push_of_some _ hb1
end
/-- sorted(d), a dict with int keys -/
def rSortedDI : List V → Hp → VK → Prop := fun vs H Q => ∃ (a : Addr) (kvs : List (Key × V)) (ns : List Int), vs = [V.ref a] ∧ H a = some (.dK kvs) ∧ kvs.map (·.1) = ns.map Sum.inl ∧
  ∀ (ns' : List Int) (p : Addr), ns'.Perm ns → ns'.Pairwise (· ≤ ·) → H p = none → Q (.ref p) (upd H p (.lst (ns'.map V.int)))
theorem cr_sortedDI {X : Cx} (hc : X.calm = true) : CallR X (.builtin "sorted") rSortedDI := by
  intro pins s σ H vs us Q I r h
  obtain ⟨a, kvs, ns, rfl, ha, hk, q⟩ := h
  obtain ⟨hz, hds, xs, kv, o, es, ep, ho, hx, hdat, _, hp, _⟩ := dk_of I.hok ha
  rw [Vals.ref1 r]
  have hI := ints_keys hp kv hk
  have l1 : kvs.length = ns.length := by
    have := congrArg List.length hk
    rw [List.length_map, List.length_map] at this
    exact this
  have hln : ∀ {vs : List Value} {ns : List Int}, IntsAre vs ns → vs.length = ns.length := fun h => by
    induction h with
    | nil => rfl
    | cons _ _ _ ih => rw [List.length_cons, List.length_cons, ih]
  have l2 := hln hI
  rw [List.length_map, Array.length_toList] at l2
  refine sortedK (ns := ns) (I.ok.hd hc) hds ⟨o, ho, hx, hdat⟩ (by omega) hI fun h' p out n hle hkp he h1 h2 => ?_
  obtain ⟨k1, k2, k3⟩ := SrtO.ints_out hI h1 h2
  have hlen : ((out.map SrtO.iv).map V.int).length ≤ sizeLine := by
    rw [List.length_map, k2.length_eq]
    omega
  exact ⟨.ref _, upd H p (.lst ((out.map SrtO.iv).map V.int)), I.laid (t' := s.toks) hkp hle ⟨hlen, out, n, vals_of_ints k1, he⟩, rfl, q _ _ k2 k3 (I.hok.fresh hle)⟩
end My
namespace My
open PySem PySem.Spec PyProof.Rows L2
def topS (i : Nat) : Stmt := PySem.Challenge.pw_nodoubt_k46_reached_states_and_orbits.main.body.getD i (.Pass ⟨0, 0, 0, 0⟩)
abbrev s_is_number : Stmt := topS 4
abbrev s_is_letter : Stmt := topS 7
abbrev s_are_moves : Stmt := topS 11
abbrev s__is_move : Stmt := topS 12
abbrev s_is_system : Stmt := topS 14
abbrev s__are_states : Stmt := topS 15
abbrev s_check_system : Stmt := topS 16
abbrev s_check_state : Stmt := topS 17
abbrev s_is_state : Stmt := topS 18
abbrev s_reached : Stmt := topS 19
abbrev s__ends_by_state : Stmt := topS 20
abbrev s__reached_from : Stmt := topS 21
abbrev s_orbits : Stmt := topS 22
abbrev s_orbits_of : Stmt := topS 23
abbrev s_orbit_at : Stmt := topS 24
abbrev s_goes_round : Stmt := topS 25
abbrev s_is_round : Stmt := topS 26
abbrev s__law_stream : Stmt := topS 28
abbrev s__law_next : Stmt := topS 29
abbrev s__law_is_integer : Stmt := topS 30
abbrev s__law_equal : Stmt := topS 31
abbrev s__law_system : Stmt := topS 32
abbrev s__law_reached : Stmt := topS 33
abbrev s__law_orbits : Stmt := topS 34
abbrev s__law_orbit : Stmt := topS 35
abbrev s__law_round : Stmt := topS 36
abbrev s_law : Stmt := topS 37
abbrev s_BadValue___init__ : Stmt := inClass (topS 2) 0
theorem boot_isinstance : bootBuiltins "isinstance" = some (.builtin "isinstance") := by decide +kernel
theorem boot_all : bootBuiltins "all" = some (.builtin "all") := by decide +kernel
theorem boot_any : bootBuiltins "any" = some (.builtin "any") := by decide +kernel
theorem boot_sum : bootBuiltins "sum" = some (.builtin "sum") := by decide +kernel
theorem boot_len : bootBuiltins "len" = some (.builtin "len") := by decide +kernel
theorem boot_abs : bootBuiltins "abs" = some (.builtin "abs") := by decide +kernel
theorem boot_min : bootBuiltins "min" = some (.builtin "min") := by decide +kernel
theorem boot_max : bootBuiltins "max" = some (.builtin "max") := by decide +kernel
theorem boot_int : bootBuiltins "int" = some (.type "int") := by decide +kernel
theorem boot_str : bootBuiltins "str" = some (.type "str") := by decide +kernel
theorem boot_bool : bootBuiltins "bool" = some (.type "bool") := by decide +kernel
theorem boot_list : bootBuiltins "list" = some (.type "list") := by decide +kernel
theorem boot_sorted : bootBuiltins "sorted" = some (.builtin "sorted") := by decide +kernel
theorem boot_set : bootBuiltins "set" = some (.type "set") := by decide +kernel
theorem boot_tuple : bootBuiltins "tuple" = some (.type "tuple") := by decide +kernel
/-- the built-ins' names as the module leaves them, its constants -/
structure Bt (K : PySem.W.Frag) (mg : Str → Option Value) (tL tM tV : Tok) : Prop where
  b_ValueError : mg "ValueError" = none
  b_abs : mg "abs" = none
  b_all : mg "all" = none
  b_any : mg "any" = none
  b_bool : mg "bool" = none
  b_int : mg "int" = none
  b_isinstance : mg "isinstance" = none
  b_len : mg "len" = none
  b_list : mg "list" = none
  b_range : mg "range" = none
  b_sorted : mg "sorted" = none
  b_str : mg "str" = none
  b_super : mg "super" = none
  b_tuple : mg "tuple" = none
  g_LETTERS : mg "LETTERS" = some (.str "abcd" tL)
  g_MOST_STATES : mg "MOST_STATES" = some (.int 40 tM)
  g_MOST_STATES_OF_A_VALUE : mg "MOST_STATES_OF_A_VALUE" = some (.int 300 tV)
section
variable {P : Program} {w : World} {K : PySem.W.Frag} {mg : Str → Option Value} {base : Heap} {tL tM tV : Tok}
abbrev N__law_stream : List Str := ["script"]
theorem sc__law_stream : FnScope ["script"] ["script"] (defScope s__law_stream) := ⟨rfl, rfl, rfl, by decide +kernel, rfl, by decide +kernel, by decide +kernel⟩
theorem ok_stream {f : Addr} {fd : FuncData} (B : Bt K mg tL tM tV) (D : Df K mg "_law_stream" s__law_stream ["script"] f fd) : FnOk P w K mg base CX0 1 f fd ["script"] (spStream K) := by
  refine D.F.ok sc__law_stream (fun vs H Q E h => ?_) (fun cdv A outer s H vs Q E hr h => ?_)
  · obtain ⟨a, ns, rfl, _⟩ := h
    rfl
  obtain ⟨a, ns, rfl, hS, h63, q⟩ := h
  refine ⟨_, (pss_one (ps_ret (pe_lst (pa_cons (pe_callTy call_list_of rfl B.b_list boot_list (pa_cons (pv 0) pa_nil)) (pa_cons pe_int (pa_cons pe_int pa_nil)))))), ?_⟩
  refine ⟨_, rfl, a, _, rfl, .inl hS, fun l hl => ⟨by show 3 ≤ sizeLine; decide, fun p hp => ?_⟩⟩
  have n : l ≠ p := fun e => by
    rw [← e, upd_same] at hp
    cases hp
  exact q p _ ((same_upd hl).trans (same_upd hp)) ((same_upd hl).free hp) ⟨l, 0, 0, ns, upd_same, by rw [upd_ne n]; exact upd_same, n, Int.le_refl 0⟩
abbrev N__law_next : List Str := ["stream", "many", "k", "cell", "digit"]
theorem sc__law_next : FnScope ["stream", "many", "k", "cell", "digit"] ["stream", "many"] (defScope s__law_next) := ⟨rfl, rfl, rfl, by decide +kernel, rfl, by decide +kernel, by decide +kernel⟩
theorem ok_next {f : Addr} {fd : FuncData} (B : Bt K mg tL tM tV) (D : Df K mg "_law_next" s__law_next ["stream", "many"] f fd) : FnOk P w K mg base CX0 1 f fd ["stream", "many"] spNext := by
  refine D.F.ok sc__law_next (fun vs H Q E h => ?_) (fun cdv A outer s H vs Q E hr h => ?_)
  · obtain ⟨a, m, rfl, _⟩ := h
    rfl
  obtain ⟨a, m, rfl, hS, hm0, hm1, q⟩ := h
  obtain ⟨l, c, k, ns, h1, h2, h3, h4⟩ := id hS
  refine ⟨_, (C8.pss_cut (ps_if (pt_cmpR op_eq (pe_ix (r := rIxL K) ix_list (pv 0) pe_int (fun _ _ => rfl)) pe_int (nomark _)) (pss_cons (ps_set (i := 2) sc__law_next.nd rfl (Or.inl rfl) (pe_ix (r := rIxL K) ix_list (pv 0) pe_int (fun _ _ => rfl)))
    (pss_cons (ps_set (i := 3) sc__law_next.nd rfl (Or.inl rfl) (pe_op op_add pe_int (pv 2)))
    (C8.pss_cut (ps_if (pt_cmpR op_lt (pv 2) (pe_callB call_len rfl B.b_len boot_len (pa_cons (pe_ix (r := rIxL K) ix_list (pv 0) pe_int (fun _ _ => rfl)) pa_nil)) (nomark _)) (pss_one (ps_set (i := 3) sc__law_next.nd rfl (Or.inl rfl) (pe_callB call_abs rfl B.b_abs boot_abs (pa_cons (pe_ix (r := rIxL K) ix_list (pe_ix (r := rIxL K) ix_list (pv 0) pe_int (fun _ _ => rfl)) (pv 2) (fun _ _ => rfl)) pa_nil)))) pss_nil)
    (C8.pss_cut (ps_if (pt_cmpR op_lt (pv 3) (pe_op op_pow pe_int pe_int) (nomark _)) (pss_cons (ps_set (i := 3) sc__law_next.nd rfl (Or.inl rfl) (pe_op op_mod (pe_callTy call_int1 rfl B.b_int boot_int (pa_cons (pe_op op_add (pe_op op_add (pe_op op_mul (pv 3) pe_int) (pe_op op_mul (pv 2) pe_int)) pe_int) pa_nil)) pe_int))
    (pss_one (ps_set (i := 3) sc__law_next.nd rfl (Or.inl rfl) (pe_op op_add (pe_op op_mul (pe_op op_mod (pe_callTy call_int1 rfl B.b_int boot_int (pa_cons (pe_op op_add (pe_op op_mul (pv 3) pe_int) pe_int) pa_nil)) pe_int) pe_int) (pv 3))))) pss_nil)
    (pss_cons (ps_asg (pv 3) (pg_sub (pv 0) pe_int set_list))
    (pss_one (ps_asg (pe_op op_add (pv 2) pe_int) (pg_sub (pv 0) pe_int set_list)))))))) pss_nil)
    (pss_cons (ps_set (i := 4) sc__law_next.nd rfl (Or.inl rfl) (pe_op op_mod (pe_callTy call_int1 rfl B.b_int boot_int (pa_cons (pe_ix (r := rIxL K) ix_list (pv 0) pe_int (fun _ _ => rfl)) pa_nil)) (pv 1)))
    (pss_cons (ps_asg (pe_op op_fdiv (pe_ix (r := rIxL K) ix_list (pv 0) pe_int (fun _ _ => rfl)) (pv 1)) (pg_sub (pv 0) pe_int set_list))
    (pss_one (ps_ret (pv 4)))))), ?_⟩
  have m0 : ¬ m = 0 := by omega
  have at0 : ∀ (x y z : V), atI [x, y, z] 0 = some x := fun x y z => rfl
  have at1 : ∀ (x y z : V), atI [x, y, z] 1 = some y := fun x y z => rfl
  have at2 : ∀ (x y z : V), atI [x, y, z] 2 = some z := fun x y z => rfl
  refine ⟨fun σ' H' => ∃ kk cc c k, σ' = [some (.ref a), some (.int m), kk, cc, none] ∧ StrmW H' a l c k ns ∧ Keep a H H', ?_, ?_⟩
  · refine ⟨_, rfl, a, _, _, _, rfl, rfl, SqL.of h1, at1 _ _ _, rfl, _, rfl, ite2 (fun e => ?_) (fun e => ?_)⟩
    · -- a new cell
      refine ⟨_, rfl, a, _, _, _, rfl, rfl, SqL.of h1, at2 _ _ _, ?_⟩
      refine ⟨_, rfl, _, _, rfl, rfl, ?_⟩
      refine ⟨fun σ' H' => ∃ cc : Int, σ' = [some (.ref a), some (.int m), some (.int k), some (.int cc), none] ∧ H' = H, ?_, ?_⟩
      · refine ⟨_, rfl, _, rfl, a, _, _, _, rfl, rfl, SqL.of h1, at0 _ _ _, _, _, rfl, .inl ⟨_, SqL.of h2, rfl⟩, _, _, rfl, rfl, _, rfl, ite2 (fun e2 => ?_) (fun e2 => ?_)⟩
        · have e3 : k < ((ns.map V.int).length : Int) := of_decide_eq_true e2
          rw [List.length_map] at e3
          have hk : k.toNat < ns.length := by omega
          refine ⟨_, rfl, a, _, _, _, rfl, rfl, SqL.of h1, at0 _ _ _, _, rfl, l, _, k, .int ns[k.toNat], rfl, rfl, SqL.of h2, at_of (j := k.toNat) (by omega) (by rw [List.getElem?_map, List.getElem?_eq_getElem hk] <;> rfl), _, rfl, ?_⟩
          exact ⟨_, rfl, rfl⟩
        · exact ⟨_, rfl, rfl⟩
      · rintro σ' H' ⟨cc, rfl, rfl⟩
        refine ⟨fun σ' H'' => ∃ cc : Int, σ' = [some (.ref a), some (.int m), some (.int k), some (.int cc), none] ∧ H'' = H', ?_, ?_⟩
        · refine ⟨_, rfl, _, _, rfl, rfl, ⟨by decide, by decide, by decide⟩, _, _, rfl, rfl, _, rfl, ite2 (fun e2 => ?_) (fun e2 => ?_)⟩
          · refine ⟨_, rfl, _, _, rfl, rfl, .inr ⟨by decide, by decide⟩, _, rfl, _, _, rfl, rfl, .inr ⟨by decide, by decide⟩, _, _, rfl, rfl, _, _, rfl, rfl, .inl ⟨_, rfl, _, _, rfl, rfl, (by show (0 : Int) < 2147483647; decide), ?_⟩⟩
            refine ⟨_, rfl, _, _, rfl, rfl, .inr ⟨by decide, by decide⟩, _, _, rfl, rfl, .inl ⟨_, rfl, _, _, rfl, rfl, (by show (0 : Int) < 2147483647; decide), _, _, rfl, rfl, .inr ⟨by decide, by decide⟩, _, rfl, _, _, rfl, rfl, ?_⟩⟩
            exact ⟨_, rfl, rfl⟩
          · exact ⟨_, rfl, rfl⟩
        · rintro σ' H'' ⟨cc, rfl, rfl⟩
          refine ⟨_, rfl, _, rfl, a, _, _, _, rfl, rfl, h1, rfl, ?_⟩
          have u1 : ([.ref l, .int c, .int k] : List V).set 1 (.int cc) = [.ref l, .int cc, .int k] := rfl
          refine ⟨_, rfl, _, _, rfl, rfl, _, rfl, a, _, _, _, rfl, rfl, upd_same, rfl, ?_⟩
          exact ⟨_, _, cc, k + 1, rfl, ⟨upd_same, by rw [upd_ne h3, upd_ne h3]; exact h2, h3, by omega⟩, Keep.store.trans Keep.store⟩
    · exact ⟨_, _, c, k, rfl, ⟨h1, h2, h3, h4⟩, Keep.refl a H⟩
  · rintro σ' H' ⟨kk, cc, c, k, rfl, ⟨g1, g2, g3, g4⟩, kp⟩
    refine ⟨_, rfl, a, _, _, _, rfl, rfl, SqL.of g1, at1 _ _ _, .inl ⟨_, rfl, _, rfl, _, _, rfl, rfl, hm0, ?_⟩⟩
    refine ⟨_, rfl, a, _, _, _, rfl, rfl, SqL.of g1, at1 _ _ _, _, rfl, _, _, rfl, rfl, ⟨hm0, by omega⟩, _, rfl, a, _, _, _, rfl, rfl, g1, rfl, ?_⟩
    exact ⟨_, rfl, q _ _ (Int.emod_nonneg _ m0) (Int.emod_lt_of_pos _ hm0) ⟨kp.trans Keep.store, hS, fun l' c' k' ns' h' => by
      have e := h1.symm.trans h'.1
      cases e
      exact ⟨_, _, ns, upd_same, by rw [upd_ne g3]; exact g2, g3, g4⟩⟩⟩
end
def spLetter : Sp := fun vs H Q _ => ∃ z : Str, vs = [.str z] ∧ z.length ≤ 1000 ∧ Q (.bl (isLet z)) H
section
variable {P : Program} {w : World} {K : PySem.W.Frag} {mg : Str → Option Value} {base : Heap} {tL tM tV : Tok}
theorem abcd_in (c : Nat) : (c ∈ (Str.ofString "abcd").cps.toList) ↔ 97 ≤ c ∧ c ≤ 100 := by
  have e : (Str.ofString "abcd").cps.toList = [97, 98, 99, 100] := by decide +kernel
  rw [e]
  simp
  omega
theorem isLet_one (c : Nat) : isLet ⟨#[c]⟩ = decide (c ∈ (Str.ofString "abcd").cps.toList) := by
  have e : isLet ⟨#[c]⟩ = (decide (97 ≤ c) && decide (c ≤ 100)) := rfl
  rw [e, ← Bool.decide_and]
  exact decide_eq_decide.mpr (abcd_in c).symm
abbrev N_is_letter : List Str := ["value"]
theorem sc_is_letter : FnScope ["value"] ["value"] (defScope s_is_letter) := ⟨rfl, rfl, rfl, by decide +kernel, rfl, by decide +kernel, by decide +kernel⟩
theorem ok_letter {f : Addr} {fd : FuncData} (B : Bt K mg tL tM tV) (D : Df K mg "is_letter" s_is_letter ["value"] f fd) : FnOk P w K mg base CX0 1 f fd ["value"] spLetter := by
  refine D.F.ok sc_is_letter (fun vs H Q E h => ?_) (fun cdv A outer s H vs Q E hr h => ?_)
  · obtain ⟨z, rfl, _⟩ := h
    rfl
  obtain ⟨z, rfl, hz, q⟩ := h
  refine ⟨_, (pss_one (ps_ret (pe_and (pe_callB call_isi rfl B.b_isinstance boot_isinstance (pa_cons (pv 0) (pa_cons (pe_bltn (v := .ty "str") rfl B.b_str boot_str rfl) pa_nil))) (pe_and (pe_cmpR op_eq (pe_callB call_len rfl B.b_len boot_len (pa_cons (pv 0) pa_nil)) pe_int (nomark _)) (pe_one (pe_cmpR op_in_sign (pv 0) (pe_glob (v := .str "abcd") rfl B.g_LETTERS ⟨_, rfl⟩) rfl)))))), ?_⟩
  have T1 : TyX K H (.str z) (.type "str") := .base (.str z)
  refine ⟨_, rfl, _, _, _, _, _, rfl, .ty _, T1, kit_ty (r := true) (by decide +kernel), _, rfl, iteT ?_⟩
  refine ⟨_, rfl, _, _, rfl, ⟨Nat.le_trans hz (by decide), rfl⟩, rfl, _, rfl, ite2 (fun e => ?_) (fun e => ?_)⟩
  · have e1 : V.int (z.length : Int) = V.int 1 := of_decide_eq_true e
    have e2 : z.cps.size = 1 := by
      have e3 : (z.length : Int) = 1 := V.int.inj e1
      have e4 : z.length = z.cps.size := rfl
      omega
    obtain ⟨⟨cs⟩⟩ := z
    match cs, e2 with
    | [c], _ =>
      refine ⟨_, rfl, _, _, rfl, rfl, ?_⟩
      rw [isLet_one] at q
      exact q
  · have e2 : isLet z = false := by
      unfold isLet
      split
      · rename_i c hc
        exfalso
        apply e
        refine decide_eq_true (congrArg V.int ?_)
        have : z.cps.size = 1 := by rw [← Array.length_toList, hc] <;> rfl
        show ((z.cps.size : Nat) : Int) = 1
        omega
      · rfl
    rw [e2] at q
    exact q
end
end My
namespace My
open PySem PySem.Spec PyProof.Rows L2
theorem u64 {k : Nat} {A : Around} (h : Room k A) : A.units + 64 < cLine := by
  have := h.un
  omega
theorem u0 {k : Nat} {A : Around} (h : Room k A) : A.units < cLine := by
  have := h.un
  omega
def rInB (K : PySem.W.Frag) : R2 := rIn K false
theorem op_in_seqB {X : Cx} {K : PySem.W.Frag} (hK : X.K = K) : OpR X (compareOp .In) (rInB K) := by
  subst hK
  exact op_in_seq
def rNotInB (K : PySem.W.Frag) : R2 := rIn K true
theorem op_notin_seqB {X : Cx} {K : PySem.W.Frag} (hK : X.K = K) : OpR X (compareOp .NotIn) (rNotInB K) := by
  subst hK
  exact op_notIn_seq
def rTupOf (K : PySem.W.Frag) : List V → Hp → VK → Prop := fun xs H Q => ∃ p ys, xs = [.ref p] ∧ ((SqL K H p ys ∧ ∀ l, H l = none → Q (.ref l) (upd H l (.tup ys))) ∨ (SqT K H p ys ∧ Q (.ref p) H))
theorem call_tuple_ofK {X : Cx} : CallR X (.type "tuple") (rTupOf X.K) := call_tuple_of
def spNum : Sp := fun vs H Q _ => ∃ i a b : Int, vs = [.int i, .int a, .int b] ∧ Q (.bl (decide (a ≤ i ∧ i ≤ b))) H
/-- a dict whose keys are such numbers -/
def KeysAt (H : Hp) (d : Addr) (F : Nat → Bool) : Prop := ∃ kvs : List (L2.Key × V), H d = some (.dK kvs) ∧ ∀ n : Nat, (valV kvs (Sum.inl (n : Int))).isSome = F n
theorem KeysAt.same {H H' : Hp} {d : Addr} {F : Nat → Bool} (s : Same H H') (h : KeysAt H d F) : KeysAt H' d F := by
  obtain ⟨kvs, h1, h2⟩ := h
  exact ⟨kvs, s _ _ h1, h2⟩
def inSt (S : Sy) (n : Nat) : Bool := decide (n ∈ S.st)
def spIsMove : Sp := fun vs H Q _ => ∃ (v : V) (d : Addr) (m : Mv) (S : Sy), vs = [v, .ref d] ∧ Good S ∧ m ∈ S.mv ∧ MoveAt H v m ∧ KeysAt H d (inSt S) ∧ ∀ H', Same H H' → Q (.bl true) H'
def spAreMoves : Sp := fun vs H Q _ => ∃ (b a : Addr) (ts : List V) (S : Sy), vs = [.ref b, .ref a] ∧ Good S ∧ H b = some (.tup ts) ∧ Two (MoveAt H) ts S.mv ∧ H a = some (.tup (natsV S.st)) ∧ ∀ H', Same H H' → Q (.bl true) H'
def spAreStates : Sp := fun vs H Q _ => ∃ (a : Addr) (xs : List Nat), vs = [.ref a] ∧ H a = some (.tup (natsV xs)) ∧ xs.Pairwise (· < ·) ∧ (∀ x ∈ xs, x < 40) ∧ Q (.bl true) H
def spIsSys : Sp := fun vs H Q _ => ∃ (p : Addr) (S : Sy), vs = [.ref p] ∧ SysAt H p S ∧ Good S ∧ ∀ H', Same H H' → Q (.bl true) H'
def spChkSys : Sp := fun vs H Q _ => ∃ (p : Addr) (S : Sy), vs = [.ref p] ∧ SysAt H p S ∧ Good S ∧ ∀ H', Same H H' → Q .non H'
def spIsState : Sp := fun vs H Q _ => ∃ (p : Addr) (S : Sy) (s : Nat), vs = [.ref p, .int s] ∧ SysAt H p S ∧ Good S ∧ s ∈ S.st ∧ Q (.bl true) H
def spChkState : Sp := fun vs H Q _ => ∃ (p : Addr) (S : Sy) (s : Nat), vs = [.ref p, .int s] ∧ SysAt H p S ∧ Good S ∧ s ∈ S.st ∧ Q .non H
theorem isLet_sym {c : Nat} (h : 97 ≤ c ∧ c ≤ 100) : isLet ⟨#[c]⟩ = true := by
  rw [isLet_one]
  exact decide_eq_true ((abcd_in c).mpr h)
theorem ne_nil_dp {xs : List Nat} (h : xs ≠ []) : PyData.eqv (.tuple (xs.map fun (n : Nat) => PyData.int (n : Int))) (.tuple []) = false := by
  cases xs with
  | nil => exact absurd rfl h
  | cons x xs => simp [PyData.eqv, PyData.eqvAll]
def psd (ns : List Nat) : List PyData := ns.map fun (n : Nat) => PyData.int (n : Int)
theorem dpAll_ints {K : PySem.W.Frag} {H : Hp} : ∀ ns : List Nat, DpAll K H (natsV ns) (psd ns)
  | [] => .nil
  | n :: ns => .cons (.int _) (dpAll_ints ns)
theorem psd_lay : ∀ ns : List Nat, PyData.canLayAll0 (psd ns) = true
  | [] => rfl
  | n :: ns => by
    show (PyData.canLay0 (.int (n : Int)) && PyData.canLayAll0 (psd ns)) = true
    rw [psd_lay ns]
    rfl
theorem psd_dep : ∀ ns : List Nat, PyData.depthAll (psd ns) = 0
  | [] => rfl
  | n :: ns => by
    show max (PyData.depth (.int (n : Int))) (PyData.depthAll (psd ns)) = 0
    rw [psd_dep ns]
    rfl
theorem tup_shaped (ns : List Nat) : SeqAt.shaped (.tuple (psd ns)) = true := by
  show (PyData.canLay0 (.tuple (psd ns)) && decide (PyData.depth (.tuple (psd ns)) ≤ 64)) = true
  have h1 : PyData.canLay0 (.tuple (psd ns)) = true := psd_lay ns
  have h2 : PyData.depth (.tuple (psd ns)) = PyData.depthAll (psd ns) + 1 := by simp [PyData.depth]
  rw [h1, h2, psd_dep]
  rfl
section
variable {P : Program} {w : World} {K : PySem.W.Frag} {mg : Str → Option Value} {base : Heap} {tL tM tV : Tok}
abbrev N_is_number : List Str := ["value", "least", "most"]
theorem sc_is_number : FnScope ["value", "least", "most"] ["value", "least", "most"] (defScope s_is_number) := ⟨rfl, rfl, rfl, by decide +kernel, rfl, by decide +kernel, by decide +kernel⟩
theorem ok_isnumber {f : Addr} {fd : FuncData} (B : Bt K mg tL tM tV) (Dd : Df K mg "is_number" s_is_number ["value", "least", "most"] f fd) : FnOk P w K mg base CX0 1 f fd ["value", "least", "most"] spNum := by
  refine Dd.F.ok sc_is_number (fun vs H Q Ex h => ?_) (fun cdv A outer s H vs Q Ex hr h => ?_)
  · obtain ⟨i, a, b, rfl, _⟩ := h
    rfl
  obtain ⟨i, a, b, rfl, q⟩ := h
  refine ⟨_, (pss_one (ps_ret (pe_and (pe_callB call_isi rfl B.b_isinstance boot_isinstance (pa_cons (pv 0) (pa_cons (pe_bltn (v := .ty "int") rfl B.b_int boot_int rfl) pa_nil))) (pe_and (pe_not (pe_callB call_isi rfl B.b_isinstance boot_isinstance (pa_cons (pv 0) (pa_cons (pe_bltn (v := .ty "bool") rfl B.b_bool boot_bool rfl) pa_nil)))) (pe_one (pe_chain op_le op_le (pv 1) (pv 0) (pv 2))))))), ?_⟩
  have T1 : TyX K H (.int i) (.type "int") := .base (.int i)
  refine ⟨_, rfl, _, _, _, _, _, rfl, .ty _, T1, kit_ty (r := true) (by decide +kernel), _, rfl, iteT ?_⟩
  refine ⟨_, rfl, _, _, _, _, _, rfl, .ty _, T1, kit_ty (r := false) (by decide +kernel), _, rfl, true, rfl, ?_⟩
  rw [if_pos rfl]
  refine ⟨_, rfl, _, rfl, _, _, rfl, rfl, _, rfl, ite2 (fun c => ?_) (fun c => ?_)⟩
  · refine ⟨_, rfl, _, _, rfl, rfl, ?_⟩
    have c1 : a ≤ i := of_decide_eq_true c
    have e : (decide (a ≤ i ∧ i ≤ b)) = decide (i ≤ b) := decide_eq_decide.mpr ⟨fun h => h.2, fun h => ⟨c1, h⟩⟩
    rw [e] at q
    exact q
  · have c1 : ¬ a ≤ i := fun h => c (decide_eq_true h)
    rw [decide_eq_false (fun h => c1 h.1)] at q
    exact q
abbrev N__is_move : List Str := ["value", "inside", "state"]
theorem sc__is_move : FnScope ["value", "inside", "state"] ["value", "inside"] (defScope s__is_move) := ⟨rfl, rfl, rfl, by decide +kernel, rfl, by decide +kernel, by decide +kernel⟩
theorem ok_ismove {f : Addr} {fd : FuncData} (B : Bt K mg tL tM tV) (Dd : Df K mg "_is_move" s__is_move ["value", "inside"] f fd) (Gis_letter : Cl P w K mg base 1 "is_letter" ["value"] spLetter) (Gis_number : Cl P w K mg base 1 "is_number" ["value", "least", "most"] spNum) : FnOk P w K mg base CX0 2 f fd ["value", "inside"] spIsMove := by
  refine Dd.F.ok sc__is_move (fun vs H Q Ex h => ?_) (fun cdv A outer s H vs Q Ex hr h => ?_)
  · obtain ⟨v, d, m, S, rfl, _⟩ := h
    rfl
  obtain ⟨v, d, m, S, rfl, hG, hm, ⟨t, rfl, ht⟩, ⟨kvs, hd, hk⟩, q⟩ := h
  refine ⟨_, (pss_cons (ps_if (PW.pt (pw_or (pt_not (pt_val (pe_callB call_isi rfl B.b_isinstance boot_isinstance (pa_cons (pv 0) (pa_cons (pe_bltn (v := .ty "tuple") rfl B.b_tuple boot_tuple rfl) pa_nil))))) (pw_or (pt_cmpR op_ne (pe_callB call_len rfl B.b_len boot_len (pa_cons (pv 0) pa_nil)) pe_int (nomark _)) (pw_or1 (pt_not (pt_val (pe_cl Gis_letter (hr.mono (by omega)) rfl (pa_cons (pe_ix (r := rIxT K) ix_tup (pv 0) pe_int (fun _ _ => rfl)) pa_nil)))))))) (pss_one (ps_ret pe_bl)) pss_nil)
    (pss_one (ps_ret (pe_callB (cr_all rfl) rfl B.b_all boot_all (pa_cons (pe_lc (own := [("state", 2)]) (g := gName 2) (tt := tYes) rfl sc__is_move.nd (pi_tup (pe_tup (pa_cons (pe_ix (r := rIxT K) ix_tup (pv 0) pe_int (fun _ _ => rfl)) (pa_cons (pe_ix (r := rIxT K) ix_tup (pv 0) pe_int (fun _ _ => rfl)) pa_nil)))) (blkOk_by (N := N__is_move) (sc := defScope s__is_move) (by decide +kernel)) (fun _ _ _ _ _ => pg_name (i := 2) sc__is_move.nd rfl (Or.inl rfl)) (fun _ _ _ _ _ => pts_nil) (fun _ _ _ _ _ => (pe_and (pe_cl Gis_number (hr.mono (by omega)) rfl (pa_cons (pv 2) (pa_cons pe_int (pa_cons (pe_glob (v := .int 300) rfl B.g_MOST_STATES_OF_A_VALUE ⟨_, rfl⟩) pa_nil)))) (pe_one (pe_cmp (pc_din (hu_of hr) (pv 2) (pv 1)) rfl))))) pa_nil))))), ?_⟩
  obtain ⟨m1, m2, m3, m4⟩ := hG.min m hm
  have T1 : TyX K H (.ref t) (.type "tuple") := .base (.tup ht)
  refine ⟨_, rfl, _, _, _, _, _, rfl, .ty _, T1, kit_ty (r := true) (by decide +kernel), _, rfl, iteF ?_⟩
  refine ⟨_, rfl, _, 3, rfl, .inr ⟨_, SqT.of ht, rfl⟩, rfl, _, rfl, iteF ?_⟩
  refine ⟨_, rfl, t, _, 1, _, rfl, rfl, SqT.of ht, at_one, _, rfl, by show 1 ≤ 1000; decide, _, rfl, ?_⟩
  rw [isLet_sym ⟨m3, m4⟩]
  refine iteF ?_
  refine ⟨_, rfl, t, _, 0, _, rfl, rfl, SqT.of ht, at_zero, _, rfl, t, _, 2, _, rfl, rfl, SqT.of ht, at_of (j := 2) rfl rfl, by show 2 ≤ sizeLine; decide, fun T hT => ⟨T, rfl, ⟨_, SqT.of upd_same⟩, fun L hL => ?_⟩⟩
  have sT := same_upd (o := .tup [V.int (m.1 : Int), V.int (m.2.2 : Int)]) hT
  refine lc_tupR (K := K) (a := T) (xs := [V.int (m.1 : Int), V.int (m.2.2 : Int)]) (fun i => (List.replicate (min i 2) true).map V.bl) rfl (fun i => by rw [List.length_map, List.length_replicate]; omega) hL (SqT.of upd_same) (fun i x H' hx s1 fin _ => ?_) (fun H' s1 hk' => ?_)
  · have hi := (List.getElem?_eq_some_iff.mp hx).1
    have hi2 : i < 2 := hi
    obtain ⟨n, rfl, hn⟩ : ∃ n : Nat, x = .int (n : Int) ∧ n ∈ S.st := by
      match i, hi2, hx with
      | 0, _, hx => cases hx; exact ⟨_, rfl, m1⟩
      | 1, _, hx => cases hx; exact ⟨_, rfl, m2⟩
    have h40 := hG.lt n hn
    refine ⟨rfl, tyes ⟨_, rfl, _, _, _, rfl, _, rfl, ?_⟩⟩
    rw [decide_eq_true (by omega)]
    refine iteT ⟨_, rfl, _, rfl, d, _, rfl, DGet.k (k := Sum.inl (n : Int)) (s1 _ _ (sT _ _ hd)), fin _ _ ?_ (Same.refl _)⟩
    rw [hk]
    have e1 : inSt S n = true := decide_eq_true hn
    have e2 : min (i + 1) 2 = min i 2 + 1 := by omega
    rw [e1, e2, List.replicate_succ', List.map_append]
    rfl
  · refine ⟨L, [true, true], rfl, SqL.of hk', ?_⟩
    exact q H' (sT.trans s1)
abbrev N_are_moves : List Str := ["value", "states", "inside", "before", "move", "start", "letter", "_", "state"]
theorem sc_are_moves : FnScope ["value", "states", "inside", "before", "move", "start", "letter", "_", "state"] ["value", "states"] (defScope s_are_moves) := ⟨rfl, rfl, rfl, by decide +kernel, rfl, by decide +kernel, by decide +kernel⟩
theorem ok_aremoves {f : Addr} {fd : FuncData} (B : Bt K mg tL tM tV) (Dd : Df K mg "are_moves" s_are_moves ["value", "states"] f fd) (G_is_move : Cl P w K mg base 2 "_is_move" ["value", "inside"] spIsMove) : FnOk P w K mg base CX0 3 f fd ["value", "states"] spAreMoves := by
  refine Dd.F.ok sc_are_moves (fun vs H Q Ex h => ?_) (fun cdv A outer s H vs Q Ex hr h => ?_)
  · obtain ⟨b, a, ts, S, rfl, _⟩ := h
    rfl
  obtain ⟨b, a, ts, S, rfl, hG, hb, two, ha, q⟩ := h
  refine ⟨_, (pss_cons (ps_if (pt_not (pt_val (pe_callB call_isi rfl B.b_isinstance boot_isinstance (pa_cons (pv 0) (pa_cons (pe_bltn (v := .ty "tuple") rfl B.b_tuple boot_tuple rfl) pa_nil))))) (pss_one (ps_ret pe_bl)) pss_nil)
    (pss_cons (ps_setDc (i := 2) (own := [("state", 8)]) (g := gName 8) (tt := tYes) rfl sc_are_moves.nd rfl rfl (sw_dict rfl rfl rfl (by decide +kernel)) (pi_tup (pv 1)) (blkOk_by (N := N_are_moves) (sc := defScope s_are_moves) (by decide +kernel)) (fun _ _ _ _ _ => pg_name (i := 8) sc_are_moves.nd rfl (Or.inl rfl)) (fun _ _ _ _ _ => pts_nil) (fun _ _ _ _ _ => (pv 8)) (fun _ _ _ _ _ => pe_bl))
    (pss_cons (ps_set (i := 3) sc_are_moves.nd rfl (Or.inl rfl) pe_non)
    (pss_cons (ps_for PassesOwn.never rfl (pi_tup (pv 0)) (pg_name (i := 4) sc_are_moves.nd rfl (Or.inl rfl)) (pss_cons (ps_if (pt_not (pt_val (pe_cl G_is_move (hr.mono (by omega)) rfl (pa_cons (pv 4) (pa_cons (pv 2) pa_nil))))) (pss_one (ps_ret pe_bl)) pss_nil)
    (pss_cons (ps_asg (pv 4) (pg_tup rfl (pgs_cons (pg_name (i := 5) sc_are_moves.nd rfl (Or.inl rfl)) (pgs_cons (pg_name (i := 6) sc_are_moves.nd rfl (Or.inl rfl)) (pgs_cons (pg_name (i := 7) sc_are_moves.nd rfl (Or.inl rfl)) pgs_nil)))))
    (pss_cons (ps_if (PW.pt (pw_and (pt_cmpR op_notN (pv 3) pe_non (nomark _)) (pw_and1 (pt_cmpR (op_leMix (u0 hr)) (pe_tup (pa_cons (pv 5) (pa_cons (pv 6) pa_nil))) (pv 3) (nomark _))))) (pss_one (ps_ret pe_bl)) pss_nil)
    (pss_one (ps_set (i := 3) sc_are_moves.nd rfl (Or.inl rfl) (pe_tup (pa_cons (pv 5) (pa_cons (pv 6) pa_nil)))))))))
    (pss_one (ps_ret pe_bl)))))), ?_⟩
  have T1 : TyX K H (.ref b) (.type "tuple") := .base (.tup hb)
  refine ⟨_, rfl, _, _, _, _, _, rfl, .ty _, T1, kit_ty (r := true) (by decide +kernel), _, rfl, iteF ?_⟩
  refine ⟨_, rfl, a, rfl, ⟨_, SqT.of ha⟩, fun D hD => ?_⟩
  refine dc_tup (K := K) (a := a) (xs := natsV S.st) (fun j H' => Same H H' ∧ ∃ kvs : List (L2.Key × V), H' D = some (.dK kvs) ∧ (∀ n : Nat, (valV kvs (Sum.inl (n : Int))).isSome = decide (n ∈ S.st.take j)) ∧ kvs.length ≤ j) ⟨same_upd hD, [], upd_same, fun n => by rfl, Nat.le_refl _⟩ (fun j H' _ h => SqT.of (h.1 _ _ ha)) (fun j x H' hx h => ?_) (fun H1 h => ?_)
  · obtain ⟨s1, kvs, hk, hv, hl⟩ := h
    obtain ⟨y, hy, rfl⟩ := natsV_getB hx
    have hj := (List.getElem?_eq_some_iff.mp hy).1
    have h40 := hG.len
    refine ⟨rfl, tyes ⟨_, rfl, kvs, Sum.inl (y : Int), rfl, hk, Nat.lt_of_le_of_lt (m := 40) (by omega) (by decide), fun b' o hb' => by rw [upd_ne (ne_of_none hb' hD)]; exact s1 _ _ hb', _, upd_same, fun n => ?_, Nat.le_trans (length_putK kvs _ _) (Nat.succ_le_succ hl)⟩⟩
    rw [valV_put, take_snoc hy]
    by_cases c : n = y
    · rw [c, if_pos rfl]
      exact (decide_eq_true (List.mem_append_right _ (List.mem_singleton.mpr rfl))).symm
    · rw [if_neg fun h => c (by have := Sum.inl.inj h; omega), hv]
      refine decide_eq_decide.mpr ⟨fun h => List.mem_append_left _ h, fun h => ?_⟩
      rcases List.mem_append.mp h with h | h
      · exact h
      · exact absurd (List.mem_singleton.mp h) c
  obtain ⟨s1, kvs, hk, hv, _⟩ := h
  rw [natsV_len, List.take_length] at hv
  have K1 : KeysAt H1 D (inSt S) := ⟨kvs, hk, hv⟩
  refine ⟨_, rfl, b, rfl, ⟨_, SqT.of (s1 _ _ hb)⟩, for_tup (K := K) (a := b) (xs := ts) (fun i σ' H' => ∃ (bv : V) (o4 o5 o6 o7 : Option V), σ' = [some (.ref b), some (.ref a), some (.ref D), some bv, o4, o5, o6, o7, none] ∧ Same H1 H' ∧ ((i = 0 ∧ bv = .non) ∨ ∃ (t : Addr) (m : Mv), bv = .ref t ∧ 0 < i ∧ S.mv[i - 1]? = some m ∧ H' t = some (.tup [.int (m.1 : Int), .str ⟨#[m.2.1]⟩]))) ?_ ?_ ?_ ?_⟩
  · exact ⟨.non, none, none, none, none, rfl, Same.refl _, .inl ⟨rfl, rfl⟩⟩
  · rintro i σ' H' hi ⟨bv, o4, o5, o6, o7, rfl, s2, _⟩
    exact SqT.of (s2 _ _ (s1 _ _ hb))
  · rintro i v σ' H2 hv2 ⟨bv, o4, o5, o6, o7, rfl, s2, hbv⟩
    obtain ⟨m, hm, hmv⟩ := two.get hv2
    have S2 := s1.trans s2
    refine ⟨_, rfl, _, rfl, v, D, m, S, rfl, hG, List.mem_of_getElem? hm, hmv.same S2, K1.same s2, fun H3 s3 => ⟨_, rfl, iteF ?_⟩⟩
    obtain ⟨t, rfl, ht⟩ := (hmv.same S2).same s3
    refine ⟨_, rfl, t, _, rfl, SqT.of ht, rfl, _, _, rfl, _, _, rfl, _, _, rfl, rfl, ?_⟩
    have next : ∀ T H4, Same H3 H4 → H4 T = none → ∃ (bv : V) (o4 o5 o6 o7 : Option V), [some (V.ref b), some (.ref a), some (.ref D), some (V.ref T), some (.ref t), some (.int (m.1 : Int)), some (.str ⟨#[m.2.1]⟩), some (.int (m.2.2 : Int)), none] = [some (.ref b), some (.ref a), some (.ref D), some bv, o4, o5, o6, o7, none] ∧ Same H1 (upd H4 T (.tup [.int (m.1 : Int), .str ⟨#[m.2.1]⟩])) ∧ ((i + 1 = 0 ∧ bv = .non) ∨ ∃ (t : Addr) (m : Mv), bv = .ref t ∧ 0 < i + 1 ∧ S.mv[i + 1 - 1]? = some m ∧ (upd H4 T (.tup [.int ((m.1 : Nat) : Int), .str ⟨#[m.2.1]⟩])) t = some (.tup [.int (m.1 : Int), .str ⟨#[m.2.1]⟩])) := fun T H4 s4 hT =>
      ⟨_, _, _, _, _, rfl, s2.trans (s3.trans (s4.trans (same_upd hT))), .inr ⟨T, m, rfl, Nat.succ_pos _, hm, upd_same⟩⟩
    rcases hbv with ⟨hi0, rfl⟩ | ⟨tb, mb, rfl, hi0, hmb, htb⟩
    · refine ⟨_, rfl, rfl, _, rfl, iteF ⟨_, rfl, _, rfl, by show 2 ≤ sizeLine; decide, fun T hT => ?_⟩⟩
      exact ⟨_, _, _, _, _, rfl, s2.trans (s3.trans (same_upd hT)), .inr ⟨T, m, rfl, Nat.succ_pos _, hm, upd_same⟩⟩
    · have hlt : mb.1 < m.1 ∨ (mb.1 = m.1 ∧ mb.2.1 < m.2.1) := by
        have h1 := (List.getElem?_eq_some_iff.mp hmb)
        have h2 := (List.getElem?_eq_some_iff.mp hm)
        have := List.pairwise_iff_getElem.mp hG.mrise (i - 1) i h1.1 h2.1 (by omega)
        rw [h1.2, h2.2] at this
        exact this
      refine ⟨_, rfl, rfl, _, rfl, iteT ⟨_, rfl, _, rfl, by show 2 ≤ sizeLine; decide, fun T0 hT0 => ?_⟩⟩
      have s4 := same_upd (o := .tup [V.int (m.1 : Int), .str ⟨#[m.2.1]⟩]) hT0
      refine ⟨_, rfl, T0, tb, _, _, _, _, rfl, rfl, SqT.of upd_same, SqT.of (s4 _ _ (s3 _ _ htb)), _, rfl, ?_⟩
      have hle : leMix (m.1 : Int) m.2.1 (mb.1 : Int) mb.2.1 = false := by
        unfold leMix
        by_cases e1 : (m.1 : Int) = (mb.1 : Int)
        · rw [if_pos e1]
          have : ¬ m.2.1 = mb.2.1 := by omega
          rw [if_neg this]
          exact decide_eq_false (by omega)
        · rw [if_neg e1]
          exact decide_eq_false (by omega)
      rw [hle]
      refine iteF ⟨_, rfl, _, rfl, by show 2 ≤ sizeLine; decide, fun T hT => ?_⟩
      exact ⟨_, _, _, _, _, rfl, s2.trans (s3.trans (s4.trans (same_upd hT))), .inr ⟨T, m, rfl, Nat.succ_pos _, hm, upd_same⟩⟩
  · rintro σ' H2 ⟨bv, o4, o5, o6, o7, rfl, s2, _⟩
    exact q H2 (s1.trans s2)
abbrev N__are_states : List Str := ["value", "before", "state"]
theorem sc__are_states : FnScope ["value", "before", "state"] ["value"] (defScope s__are_states) := ⟨rfl, rfl, rfl, by decide +kernel, rfl, by decide +kernel, by decide +kernel⟩
theorem ok_arestates {f : Addr} {fd : FuncData} (B : Bt K mg tL tM tV) (Dd : Df K mg "_are_states" s__are_states ["value"] f fd) (Gis_number : Cl P w K mg base 1 "is_number" ["value", "least", "most"] spNum) : FnOk P w K mg base CX0 2 f fd ["value"] spAreStates := by
  refine Dd.F.ok sc__are_states (fun vs H Q Ex h => ?_) (fun cdv A outer s H vs Q Ex hr h => ?_)
  · obtain ⟨a, xs, rfl, _⟩ := h
    rfl
  obtain ⟨a, xs, rfl, ha, hr1, h40, q⟩ := h
  refine ⟨_, (pss_cons (ps_if (pt_not (pt_val (pe_callB call_isi rfl B.b_isinstance boot_isinstance (pa_cons (pv 0) (pa_cons (pe_bltn (v := .ty "tuple") rfl B.b_tuple boot_tuple rfl) pa_nil))))) (pss_one (ps_ret pe_bl)) pss_nil)
    (pss_cons (ps_set (i := 1) sc__are_states.nd rfl (Or.inl rfl) (pe_un un_neg pe_int))
    (pss_cons (ps_for PassesOwn.never rfl (pi_tup (pv 0)) (pg_name (i := 2) sc__are_states.nd rfl (Or.inl rfl)) (pss_cons (ps_if (pt_not (pt_val (pe_cl Gis_number (hr.mono (by omega)) rfl (pa_cons (pv 2) (pa_cons (pe_op op_add (pv 1) pe_int) (pa_cons (pe_op op_sub (pe_glob (v := .int 40) rfl B.g_MOST_STATES ⟨_, rfl⟩) pe_int) pa_nil)))))) (pss_one (ps_ret pe_bl)) pss_nil)
    (pss_one (ps_set (i := 1) sc__are_states.nd rfl (Or.inl rfl) (pv 2)))))
    (pss_one (ps_ret pe_bl))))), ?_⟩
  have T1 : TyX K H (.ref a) (.type "tuple") := .base (.tup ha)
  refine ⟨_, rfl, _, _, _, _, _, rfl, .ty _, T1, kit_ty (r := true) (by decide +kernel), _, rfl, iteF ?_⟩
  refine ⟨_, rfl, _, rfl, a, rfl, ⟨_, SqT.of ha⟩, for_tup (K := K) (a := a) (xs := natsV xs) (fun i σ' H' => ∃ (b : Int) (o2 : Option V), σ' = [some (.ref a), some (.int b), o2] ∧ H' = H ∧ ((i = 0 ∧ b = -1) ∨ (0 < i ∧ ∃ x : Nat, xs[i - 1]? = some x ∧ b = x))) ?_ ?_ ?_ ?_⟩
  · exact ⟨-1, none, rfl, rfl, .inl ⟨rfl, rfl⟩⟩
  · rintro i σ' H' hi ⟨b, o2, rfl, rfl, _⟩
    exact SqT.of ha
  · rintro i v σ' H' hv ⟨b, o2, rfl, rfl, hb⟩
    obtain ⟨y, hy, rfl⟩ := natsV_getB hv
    have hlt : b + 1 ≤ (y : Int) := by
      rcases hb with ⟨_, rfl⟩ | ⟨hi, x, hx, rfl⟩
      · omega
      · have h1 := (List.getElem?_eq_some_iff.mp hx)
        have h2 := (List.getElem?_eq_some_iff.mp hy)
        have := List.pairwise_iff_getElem.mp hr1 (i - 1) i h1.1 h2.1 (by omega)
        rw [h1.2, h2.2] at this
        omega
    have hy40 := h40 y (List.mem_of_getElem? hy)
    refine ⟨_, rfl, _, rfl, _, _, rfl, rfl, _, _, rfl, rfl, (y : Int), b + 1, 39, rfl, _, rfl, ?_⟩
    rw [decide_eq_true (show b + 1 ≤ (y : Int) ∧ (y : Int) ≤ 39 by omega)]
    exact iteF ⟨_, rfl, (y : Int), _, rfl, rfl, .inr ⟨Nat.succ_pos _, y, hy, rfl⟩⟩
  · rintro σ' H' ⟨b, o2, rfl, rfl, _⟩
    exact q
abbrev N_is_system : List Str := ["value", "states", "moves", "accepting", "state"]
theorem sc_is_system : FnScope ["value", "states", "moves", "accepting", "state"] ["value"] (defScope s_is_system) := ⟨rfl, rfl, rfl, by decide +kernel, rfl, by decide +kernel, by decide +kernel⟩
theorem ok_issystem {f : Addr} {fd : FuncData} (B : Bt K mg tL tM tV) (Dd : Df K mg "is_system" s_is_system ["value"] f fd) (G_are_states : Cl P w K mg base 2 "_are_states" ["value"] spAreStates) (Gare_moves : Cl P w K mg base 3 "are_moves" ["value", "states"] spAreMoves) : FnOk P w K mg base CX0 4 f fd ["value"] spIsSys := by
  refine Dd.F.ok sc_is_system (fun vs H Q Ex h => ?_) (fun cdv A outer s H vs Q Ex hr h => ?_)
  · obtain ⟨p, S, rfl, _⟩ := h
    rfl
  obtain ⟨p, S, rfl, hS, hG, q⟩ := h
  refine ⟨_, (pss_cons (ps_if (PW.pt (pw_or (pt_not (pt_val (pe_callB call_isi rfl B.b_isinstance boot_isinstance (pa_cons (pv 0) (pa_cons (pe_bltn (v := .ty "tuple") rfl B.b_tuple boot_tuple rfl) pa_nil))))) (pw_or1 (pt_cmpR op_ne (pe_callB call_len rfl B.b_len boot_len (pa_cons (pv 0) pa_nil)) pe_int (nomark _))))) (pss_one (ps_ret pe_bl)) pss_nil)
    (pss_cons (ps_asg (pv 0) (pg_tup rfl (pgs_cons (pg_name (i := 1) sc_is_system.nd rfl (Or.inr rfl)) (pgs_cons (pg_name (i := 2) sc_is_system.nd rfl (Or.inl rfl)) (pgs_cons (pg_name (i := 3) sc_is_system.nd rfl (Or.inl rfl)) pgs_nil)))))
    (pss_cons (ps_if (PW.pt (pw_or (pt_not (pt_val (pe_cl G_are_states (hr.mono (by omega)) rfl (pa_cons (pv 1) pa_nil)))) (pw_or (pt_cmpR (op_eqD (u64 hr)) (pv 1) (pe_tup pa_nil) (nomark _)) (pw_or1 (pt_not (pt_val (pe_cl G_are_states (hr.mono (by omega)) rfl (pa_cons (pv 3) pa_nil)))))))) (pss_one (ps_ret pe_bl)) pss_nil)
    (pss_one (ps_ret (pe_and (pe_callB (cr_all rfl) rfl B.b_all boot_all (pa_cons (pe_lc (own := [("state", 4)]) (g := gName 4) (tt := tYes) rfl sc_is_system.nd (pi_tup (pv 3)) (blkOk_by (N := N_is_system) (sc := defScope s_is_system) (by decide +kernel)) (fun _ _ _ _ _ => pg_name (i := 4) sc_is_system.nd rfl (Or.inl rfl)) (fun _ _ _ _ _ => pts_nil) (fun _ _ _ _ _ => (pe_cmpR (r := rInB K) (op_in_seqB rfl) (pv 4) (pv 1) rfl))) pa_nil)) (pe_one (pe_cl Gare_moves (hr.mono (by omega)) rfl (pa_cons (pv 2) (pa_cons (pv 1) pa_nil)))))))))), ?_⟩
  obtain ⟨a, b, c, ts, h1, h2, h3, h4, h5⟩ := hS.ex
  have T1 : TyX K H (.ref p) (.type "tuple") := .base (.tup h1)
  refine ⟨_, rfl, _, _, _, _, _, rfl, .ty _, T1, kit_ty (r := true) (by decide +kernel), _, rfl, iteF ?_⟩
  refine ⟨_, rfl, _, 3, rfl, .inr ⟨_, SqT.of h1, rfl⟩, rfl, _, rfl, iteF ?_⟩
  refine ⟨_, rfl, p, _, rfl, SqT.of h1, rfl, _, _, rfl, _, _, rfl, _, _, rfl, rfl, ?_⟩
  refine ⟨_, rfl, a, S.st, rfl, h2, hG.rise, hG.lt, _, rfl, iteF ?_⟩
  refine ⟨_, rfl, Nat.zero_le _, fun T0 hT0 => ?_⟩
  have s0 := same_upd (o := .tup []) hT0
  refine ⟨.tuple (psd S.st), .tuple [], .tup (SqT.of (s0 _ _ h2)) (dpAll_ints _), .tup (SqT.of upd_same) .nil, tup_shaped _, tup_shaped [], _, rfl, ?_⟩
  have ne : PyData.eqv (.tuple (psd S.st)) (.tuple []) = false := ne_nil_dp hG.ne
  rw [ne]
  refine iteF ?_
  refine ⟨_, rfl, c, S.ac, rfl, s0 _ _ h5, hG.arise, fun x hx => hG.lt x (hG.asub x hx), _, rfl, iteF ?_⟩
  refine ⟨_, rfl, c, rfl, ⟨_, SqT.of (s0 _ _ h5)⟩, fun L hL => ?_⟩
  have h40 := hG.alen
  refine lc_tupR (K := K) (a := c) (xs := natsV S.ac) (fun i => (List.replicate (min i S.ac.length) true).map V.bl) (by rw [Nat.zero_min]; rfl) (fun i => by rw [List.length_map, List.length_replicate]; omega) hL (SqT.of (s0 _ _ h5)) (fun i x H' hx s1 fin _ => ?_) (fun H' s1 hk' => ?_)
  · obtain ⟨y, hy, rfl⟩ := natsV_getB hx
    have hi := (List.getElem?_eq_some_iff.mp hy).1
    refine ⟨rfl, tyes ⟨_, rfl, _, rfl, a, _, rfl, .inr (SqT.of (s1 _ _ (s0 _ _ h2))), rfl, flat_nats _, fin _ _ ?_ (Same.refl _)⟩⟩
    have e2 : min (i + 1) S.ac.length = min i S.ac.length + 1 := by omega
    have e3 : inV (V.int (y : Int)) (natsV S.st) = true := by
      rw [in_nats]
      exact decide_eq_true (hG.asub y (List.mem_of_getElem? hy))
    rw [e2, List.replicate_succ', List.map_append]
    show _ = _ ++ [V.bl (inV (V.int (y : Int)) (natsV S.st))]
    rw [e3]
    rfl
  · refine ⟨L, _, rfl, SqL.of hk', _, rfl, ?_⟩
    have e4 : (List.replicate (min (natsV S.ac).length S.ac.length) true).all id = true := by
      rw [List.all_eq_true]
      intro x hx
      rw [List.eq_of_mem_replicate hx]
      rfl
    rw [e4]
    refine iteT ⟨_, rfl, _, rfl, b, a, ts, S, rfl, hG, s1 _ _ (s0 _ _ h3), h4.mono fun _ _ => MoveAt.same (s0.trans s1), s1 _ _ (s0 _ _ h2), fun H2 s2 => q H2 (s0.trans (s1.trans s2))⟩
abbrev N_check_system : List Str := ["value"]
theorem sc_check_system : FnScope ["value"] ["value"] (defScope s_check_system) := ⟨rfl, rfl, rfl, by decide +kernel, rfl, by decide +kernel, by decide +kernel⟩
theorem ok_checksystem {f : Addr} {fd : FuncData} (B : Bt K mg tL tM tV) (Dd : Df K mg "check_system" s_check_system ["value"] f fd) (Gis_system : Cl P w K mg base 4 "is_system" ["value"] spIsSys) : FnOk P w K mg base CX0 5 f fd ["value"] spChkSys := by
  refine Dd.F.ok sc_check_system (fun vs H Q Ex h => ?_) (fun cdv A outer s H vs Q Ex hr h => ?_)
  · obtain ⟨p, S, rfl, _⟩ := h
    rfl
  obtain ⟨p, S, rfl, hS, hG, q⟩ := h
  refine ⟨_, (pss_one (ps_if (pt_not (pt_val (pe_cl Gis_system (hr.mono (by omega)) rfl (pa_cons (pv 0) pa_nil)))) (pss_one ps_never) pss_nil)), ?_⟩
  exact ⟨_, rfl, p, S, rfl, hS, hG, fun H1 s1 => ⟨_, rfl, iteF (q H1 s1)⟩⟩
abbrev N_is_state : List Str := ["system", "value"]
theorem sc_is_state : FnScope ["system", "value"] ["system", "value"] (defScope s_is_state) := ⟨rfl, rfl, rfl, by decide +kernel, rfl, by decide +kernel, by decide +kernel⟩
theorem ok_isstate {f : Addr} {fd : FuncData} (B : Bt K mg tL tM tV) (Dd : Df K mg "is_state" s_is_state ["system", "value"] f fd) (Gis_number : Cl P w K mg base 1 "is_number" ["value", "least", "most"] spNum) : FnOk P w K mg base CX0 2 f fd ["system", "value"] spIsState := by
  refine Dd.F.ok sc_is_state (fun vs H Q Ex h => ?_) (fun cdv A outer s H vs Q Ex hr h => ?_)
  · obtain ⟨p, S, s, rfl, _⟩ := h
    rfl
  obtain ⟨p, S, s, rfl, hS, hG, hs, q⟩ := h
  refine ⟨_, (pss_one (ps_ret (pe_and (pe_cl Gis_number (hr.mono (by omega)) rfl (pa_cons (pv 1) (pa_cons pe_int (pa_cons (pe_op op_sub (pe_glob (v := .int 40) rfl B.g_MOST_STATES ⟨_, rfl⟩) pe_int) pa_nil)))) (pe_one (pe_cmpR (r := rInB K) (op_in_seqB rfl) (pv 1) (pe_ix (r := rIxT K) ix_tup (pv 0) pe_int (fun _ _ => rfl)) rfl))))), ?_⟩
  obtain ⟨a, b, c, ts, h1, h2, h3, h4, h5⟩ := hS.ex
  have h40 := hG.lt s hs
  refine ⟨_, rfl, _, _, rfl, rfl, (s : Int), 0, 39, rfl, _, rfl, ?_⟩
  rw [decide_eq_true (show (0 : Int) ≤ (s : Int) ∧ (s : Int) ≤ 39 by omega)]
  refine iteT ⟨_, rfl, _, rfl, p, _, 0, _, rfl, rfl, SqT.of h1, at_zero, a, _, rfl, .inr (SqT.of h2), rfl, flat_nats _, ?_⟩
  have e3 : inV (V.int (s : Int)) (natsV S.st) = true := by
    rw [in_nats]
    exact decide_eq_true hs
  show Q (V.bl (inV (V.int (s : Int)) (natsV S.st))) _
  rw [e3]
  exact q
abbrev N_check_state : List Str := ["system", "value"]
theorem sc_check_state : FnScope ["system", "value"] ["system", "value"] (defScope s_check_state) := ⟨rfl, rfl, rfl, by decide +kernel, rfl, by decide +kernel, by decide +kernel⟩
theorem ok_checkstate {f : Addr} {fd : FuncData} (B : Bt K mg tL tM tV) (Dd : Df K mg "check_state" s_check_state ["system", "value"] f fd) (Gis_state : Cl P w K mg base 2 "is_state" ["system", "value"] spIsState) : FnOk P w K mg base CX0 3 f fd ["system", "value"] spChkState := by
  refine Dd.F.ok sc_check_state (fun vs H Q Ex h => ?_) (fun cdv A outer s H vs Q Ex hr h => ?_)
  · obtain ⟨p, S, s, rfl, _⟩ := h
    rfl
  obtain ⟨p, S, s, rfl, hS, hG, hs, q⟩ := h
  refine ⟨_, (pss_one (ps_if (pt_not (pt_val (pe_cl Gis_state (hr.mono (by omega)) rfl (pa_cons (pv 0) (pa_cons (pv 1) pa_nil))))) (pss_one ps_never) pss_nil)), ?_⟩
  exact ⟨_, rfl, _, rfl, p, S, s, rfl, hS, hG, hs, _, rfl, iteF q⟩
end
end My
namespace My
open PySem PySem.Spec PyProof.Rows L2
structure EndsAt (H : Hp) (D : Addr) (S : Sy) : Prop where
  ex : ∃ kvs : List (L2.Key × V), H D = some (.dK kvs) ∧ ∀ s ∈ S.st, ∃ l, valV kvs (Sum.inl (s : Int)) = some (.ref l) ∧ H l = some (.lst (natsV (endsL S s)))
theorem EndsAt.same {H H' : Hp} {D : Addr} {S : Sy} (k : Same H H') (h : EndsAt H D S) : EndsAt H' D S := by
  obtain ⟨kvs, h1, h2⟩ := h.ex
  refine ⟨kvs, k _ _ h1, fun s hs => ?_⟩
  obtain ⟨l, e1, e2⟩ := h2 s hs
  exact ⟨l, e1, k _ _ e2⟩
def spEnds : Sp := fun vs H Q _ => ∃ (p : Addr) (S : Sy), vs = [.ref p] ∧ SysAt H p S ∧ Good S ∧ ∀ (D : Addr) H', Same H H' → EndsAt H' D S → Q (.ref D) H'
def RKeys (H : Hp) (F : Addr) (S : Sy) (s : Nat) : Prop := ∃ (kvs : List (L2.Key × V)) (fs : List Nat), H F = some (.dK kvs) ∧ kvs.map (·.1) = (fs.map fun (n : Nat) => (n : Int)).map Sum.inl ∧ fs.Nodup ∧ ∀ n, n ∈ fs ↔ Rch S s n
def spReached : Sp := fun vs H Q _ => ∃ (D : Addr) (S : Sy) (s : Nat), vs = [.ref D, .int s] ∧ EndsAt H D S ∧ Good S ∧ s ∈ S.st ∧ ∀ (F : Addr) H', (H F = none ∧ RKeys H' F S s) → Same H H' → KeysAt H' F (fun n => dec (Rch S s n)) → Q (.ref F) H'
theorem mem_ends {S : Sy} {s t : Nat} : t ∈ endsL S s ↔ ∃ m ∈ S.mv, m.1 = s ∧ m.2.2 = t := by
  unfold endsL
  rw [List.mem_map]
  constructor
  · rintro ⟨m, hm, rfl⟩
    obtain ⟨h1, h2⟩ := List.mem_filter.mp hm
    exact ⟨m, h1, of_decide_eq_true h2, rfl⟩
  · rintro ⟨m, h1, h2, rfl⟩
    exact ⟨m, List.mem_filter.mpr ⟨h1, decide_eq_true h2⟩, rfl⟩
theorem ends_len {S : Sy} (G : Good S) (s : Nat) : (endsL S s).length ≤ 1000 := by
  unfold endsL
  rw [List.length_map]
  exact Nat.le_trans (List.length_filter_le _ _) G.ml
/-- what stands while states are reached -/
structure RInv (S : Sy) (s0 : Nat) (H : Hp) (F W : Addr) (H' : Hp) (fs ws : List Nat) (kvs : List (L2.Key × V)) : Prop where
  same : Same H H'
  hF : H' F = some (.dK kvs)
  keys : ∀ n : Nat, (valV kvs (Sum.inl (n : Int))).isSome = decide (n ∈ fs)
  kk : kvs.map (·.1) = (fs.map fun (n : Nat) => (n : Int)).map Sum.inl
  hW : H' W = some (.lst (natsV ws))
  nd : fs.Nodup
  fok : ∀ f ∈ fs, f ∈ S.st ∧ Rch S s0 f
  wsub : ∀ x ∈ ws, x ∈ fs
  s0f : s0 ∈ fs
section
variable {P : Program} {w : World} {K : PySem.W.Frag} {mg : Str → Option Value} {base : Heap} {tL tM tV : Tok}
abbrev N__ends_by_state : List Str := ["system", "states", "moves", "_", "ends", "start", "end", "state"]
theorem sc__ends_by_state : FnScope ["system", "states", "moves", "_", "ends", "start", "end", "state"] ["system"] (defScope s__ends_by_state) := ⟨rfl, rfl, rfl, by decide +kernel, rfl, by decide +kernel, by decide +kernel⟩
set_option maxHeartbeats 1000000 in
theorem ok_endsby {f : Addr} {fd : FuncData} (B : Bt K mg tL tM tV) (Dd : Df K mg "_ends_by_state" s__ends_by_state ["system"] f fd) : FnOk P w K mg base CX0 1 f fd ["system"] spEnds := by
  refine Dd.F.ok sc__ends_by_state (fun vs H Q Ex h => ?_) (fun cdv A outer s H vs Q Ex hr h => ?_)
  · obtain ⟨p, S, rfl, _⟩ := h
    rfl
  obtain ⟨p, S, rfl, hS, hG, q⟩ := h
  refine ⟨_, (pss_cons (ps_asg (pv 0) (pg_tup rfl (pgs_cons (pg_name (i := 1) sc__ends_by_state.nd rfl (Or.inl rfl)) (pgs_cons (pg_name (i := 2) sc__ends_by_state.nd rfl (Or.inl rfl)) (pgs_cons (pg_name (i := 3) sc__ends_by_state.nd rfl (Or.inl rfl)) pgs_nil)))))
    (pss_cons (ps_setDc (i := 4) (own := [("state", 7)]) (g := gName 7) (tt := tYes) rfl sc__ends_by_state.nd rfl rfl (sw_dict rfl rfl rfl (by decide +kernel)) (pi_tup (pv 1)) (blkOk_by (N := N__ends_by_state) (sc := defScope s__ends_by_state) (by decide +kernel)) (fun _ _ _ _ _ => pg_name (i := 7) sc__ends_by_state.nd rfl (Or.inl rfl)) (fun _ _ _ _ _ => pts_nil) (fun _ _ _ _ _ => (pv 7)) (fun _ _ _ _ _ => (pe_lst pa_nil)))
    (pss_cons (ps_for PassesOwn.never rfl (pi_tup (pv 2)) (pg_tup rfl (pgs_cons (pg_name (i := 5) sc__ends_by_state.nd rfl (Or.inl rfl)) (pgs_cons (pg_name (i := 3) sc__ends_by_state.nd rfl (Or.inl rfl)) (pgs_cons (pg_name (i := 6) sc__ends_by_state.nd rfl (Or.inl rfl)) pgs_nil)))) (pss_one (ps_expr (pe_bm PySem.F.plainAttrs_list PySem.F.slot_list_append PySem.F.type_list_append mt_append (pe_dget (hu_of hr) (pv 4) (pv 5) (fun _ _ => rfl)) (pa_cons (pv 6) pa_nil)))))
    (pss_one (ps_ret (pv 4)))))), ?_⟩
  obtain ⟨a, b, c, ts, h1, h2, h3, h4, h5⟩ := hS.ex
  refine ⟨_, rfl, p, _, rfl, SqT.of h1, rfl, _, _, rfl, _, _, rfl, _, _, rfl, rfl, ?_⟩
  refine ⟨_, rfl, a, rfl, ⟨_, SqT.of h2⟩, fun D hD => ?_⟩
  have h40 := hG.len
  have nd : S.st.Nodup := hG.rise.imp fun h => Nat.ne_of_lt h
  refine dc_tup (K := K) (a := a) (xs := natsV S.st) (fun j H' => Same H H' ∧ ∃ (kvs : List (L2.Key × V)) (g : Nat → Addr), H' D = some (.dK kvs) ∧ (∀ n : Nat, n ∈ S.st.take j → valV kvs (Sum.inl (n : Int)) = some (.ref (g n)) ∧ H (g n) = none ∧ g n ≠ D ∧ H' (g n) = some (.lst [])) ∧ (∀ n m, n ∈ S.st.take j → m ∈ S.st.take j → g n = g m → n = m) ∧ kvs.length ≤ j) ⟨same_upd hD, [], fun _ => 0, upd_same, fun n h => (by simp at h), fun n m h => (by simp at h), Nat.le_refl _⟩ (fun j H' _ h => SqT.of (h.1 _ _ h2)) (fun j x H' hx h => ?_) (fun H1 h => ?_)
  · obtain ⟨s1, kvs, g, hk, hg, hi, hl⟩ := h
    obtain ⟨y, hy, rfl⟩ := natsV_getB hx
    have hj := (List.getElem?_eq_some_iff.mp hy).1
    have hny : y ∉ S.st.take j := fun h => by
      have nd2 : (S.st.take (j + 1)).Nodup := nd.sublist (List.take_sublist _ _)
      rw [take_snoc hy, List.nodup_append] at nd2
      exact nd2.2.2 y h y (List.mem_singleton.mpr rfl) rfl
    refine ⟨rfl, tyes ⟨_, rfl, Nat.zero_le _, fun l hl0 => ?_⟩⟩
    have s2 := same_upd (o := .lst []) hl0
    have lD : l ≠ D := (ne_of_none hk hl0).symm
    have lnew : H l = none := s1.free hl0
    refine ⟨kvs, Sum.inl (y : Int), rfl, s2 _ _ hk, Nat.lt_of_le_of_lt (m := 40) (by omega) (by decide), fun b' o hb' => by rw [upd_ne (ne_of_none hb' hD)]; exact s2 _ _ (s1 _ _ hb'), _, fun n => if n = y then l else g n, upd_same, fun n hn => ?_, fun n m hn hm e => ?_, Nat.le_trans (length_putK kvs _ _) (Nat.succ_le_succ hl)⟩
    · rw [take_snoc hy] at hn
      rw [valV_put]
      by_cases c : n = y
      · subst c
        show (if (Sum.inl (n : Int) : L2.Key) = Sum.inl (n : Int) then some (V.ref l) else _) = some (V.ref (if n = n then l else g n)) ∧ H (if n = n then l else g n) = none ∧ (if n = n then l else g n) ≠ D ∧ _
        rw [if_pos rfl, if_pos rfl]
        exact ⟨rfl, lnew, lD, by show (upd (upd H' l (.lst [])) D _) (if n = n then l else g n) = _; rw [if_pos rfl, upd_ne lD]; exact upd_same⟩
      · have hn' : n ∈ S.st.take j := by
          rcases List.mem_append.mp hn with h | h
          · exact h
          · exact absurd (List.mem_singleton.mp h) c
        obtain ⟨e1, e2, e3, e4⟩ := hg n hn'
        show (if (Sum.inl (n : Int) : L2.Key) = Sum.inl (y : Int) then some (V.ref l) else _) = some (V.ref (if n = y then l else g n)) ∧ H (if n = y then l else g n) = none ∧ (if n = y then l else g n) ≠ D ∧ _
        rw [if_neg fun h => c (by have := Sum.inl.inj h; omega), if_neg c]
        exact ⟨e1, e2, e3, by show (upd (upd H' l (.lst [])) D _) (if n = y then l else g n) = _; rw [if_neg c, upd_ne e3]; exact s2 _ _ e4⟩
    · rw [take_snoc hy] at hn hm
      have old : ∀ k, k ∈ S.st.take j → g k ≠ l := fun k hk2 e => by
        obtain ⟨_, _, _, e4⟩ := hg k hk2
        rw [e, hl0] at e4
        cases e4
      by_cases c : n = y
      · by_cases d : m = y
        · rw [c, d]
        · have hm' : m ∈ S.st.take j := (List.mem_append.mp hm).elim id fun h => absurd (List.mem_singleton.mp h) d
          have e : (if n = y then l else g n) = (if m = y then l else g m) := e
          rw [if_pos c, if_neg d] at e
          exact absurd e.symm (old m hm')
      · have hn' : n ∈ S.st.take j := (List.mem_append.mp hn).elim id fun h => absurd (List.mem_singleton.mp h) c
        have e : (if n = y then l else g n) = (if m = y then l else g m) := e
        rw [if_neg c] at e
        by_cases d : m = y
        · rw [if_pos d] at e
          exact absurd e (old n hn')
        · have hm' : m ∈ S.st.take j := (List.mem_append.mp hm).elim id fun h => absurd (List.mem_singleton.mp h) d
          rw [if_neg d] at e
          exact hi n m hn' hm' e
  obtain ⟨s1, kvs, g, hk, hg, hi, _⟩ := h
  rw [natsV_len, List.take_length] at hg hi
  refine ⟨_, rfl, b, rfl, ⟨_, SqT.of (s1 _ _ h3)⟩, for_tup (K := K) (a := b) (xs := ts) (fun i σ' H' => ∃ o3 o5 o6 : Option V, σ' = [some (.ref p), some (.ref a), some (.ref b), o3, some (.ref D), o5, o6, none] ∧ Same H H' ∧ H' D = some (.dK kvs) ∧ ∀ n ∈ S.st, H' (g n) = some (.lst (natsV (((S.mv.take i).filter fun m => decide (m.1 = n)).map (·.2.2))))) ?_ ?_ ?_ ?_⟩
  · exact ⟨_, none, none, rfl, s1, hk, fun n hn => (hg n hn).2.2.2⟩
  · rintro i σ' H' hi2 ⟨o3, o5, o6, rfl, s2, _⟩
    exact SqT.of (s2 _ _ h3)
  · rintro i v σ' H2 hv2 ⟨o3, o5, o6, rfl, s2, hk2, hl2⟩
    obtain ⟨m, hm, hmv⟩ := h4.get hv2
    obtain ⟨t, rfl, ht⟩ := hmv.same s2
    obtain ⟨m1, m2, _, _⟩ := hG.min m (List.mem_of_getElem? hm)
    obtain ⟨e1, e2, e3, e4⟩ := hg m.1 m1
    refine ⟨t, _, rfl, SqT.of ht, rfl, _, _, rfl, _, _, rfl, _, _, rfl, rfl, ?_⟩
    have dg : DGet H2 D (V.int (m.1 : Int)) (some (.ref (g m.1))) := by
      have := DGet.k (k := Sum.inl (m.1 : Int)) hk2
      rw [e1] at this
      exact this
    have hlm := hl2 m.1 m1
    have mlen : ((S.mv.take i).filter fun m' => decide (m'.1 = m.1)).length ≤ 1000 := Nat.le_trans (List.length_filter_le _ _) (by have := hG.ml; rw [List.length_take]; omega)
    refine ⟨_, rfl, _, rfl, D, _, rfl, dg, .inl ⟨rfl, _, SqL.of hlm⟩, _, rfl, g m.1, _, _, rfl, rfl, hlm, ?_, _, _, _, rfl, fun b' o hb' => by rw [upd_ne fun e => by rw [e, e2] at hb'; cases hb']; exact s2 _ _ hb', by rw [upd_ne e3.symm]; exact hk2, fun n hn => ?_⟩
    · rw [natsV_len, List.length_map]
      exact Nat.lt_of_le_of_lt mlen (by decide)
    · rw [take_snoc hm, List.filter_append, List.filter_cons, List.filter_nil, List.map_append]
      by_cases c : n = m.1
      · rw [c, upd_same, if_pos (decide_eq_true rfl), natsV_snoc]
        rfl
      · rw [upd_ne fun e => c (hi n m.1 hn m1 e), if_neg (by rw [decide_eq_false (Ne.symm c)]; exact Bool.false_ne_true), List.map_nil, List.append_nil]
        exact hl2 n hn
  · rintro σ' H2 ⟨o3, o5, o6, rfl, s2, hk2, hl2⟩
    refine ⟨_, rfl, q D H2 s2 ⟨kvs, hk2, fun n hn => ⟨g n, (hg n hn).1, ?_⟩⟩⟩
    have := hl2 n hn
    rw [List.take_of_length_le (by rw [h4.len]; exact Nat.le_refl _)] at this
    exact this
abbrev N__reached_from : List Str := ["ends", "state", "found", "waiting", "latest", "end"]
theorem sc__reached_from : FnScope ["ends", "state", "found", "waiting", "latest", "end"] ["ends", "state"] (defScope s__reached_from) := ⟨rfl, rfl, rfl, by decide +kernel, rfl, by decide +kernel, by decide +kernel⟩
set_option maxHeartbeats 1000000 in
theorem ok_reached {f : Addr} {fd : FuncData} (B : Bt K mg tL tM tV) (Dd : Df K mg "_reached_from" s__reached_from ["ends", "state"] f fd) : FnOk P w K mg base CX0 1 f fd ["ends", "state"] spReached := by
  refine Dd.F.ok sc__reached_from (fun vs H Q Ex h => ?_) (fun cdv A outer s H vs Q Ex hr h => ?_)
  · obtain ⟨D, S, s, rfl, _⟩ := h
    rfl
  obtain ⟨D, S, s0, rfl, hE, hG, hs, q⟩ := h
  refine ⟨_, (pss_cons (ps_set (i := 2) sc__reached_from.nd rfl (Or.inl rfl) (pe_disp (pps_cons (pv 1) pe_bl pps_nil) (by rfl) (by rfl) (fun z => by cases z) (by decide)))
    (pss_cons (ps_set (i := 3) sc__reached_from.nd rfl (Or.inl rfl) (pe_lst (pa_cons (pv 1) pa_nil)))
    (pss_cons (ps_while PassesOwn.never (pt_truth (pv 3) (by intro _; rfl)) (pss_cons (ps_set (i := 4) sc__reached_from.nd rfl (Or.inl rfl) (pe_bm0 PySem.F.plainAttrs_list PySem.F.slot_list_pop PySem.F.type_list_pop mt_pop (pv 3)))
    (pss_one (ps_for PassesOwn.never rfl (pi_list (pe_dget (hu_of hr) (pv 0) (pv 4) (fun _ _ => rfl))) (pg_name (i := 5) sc__reached_from.nd rfl (Or.inl rfl)) (pss_one (ps_if (pt_cmp (pc_dnotin (hu_of hr) (pv 5) (pv 2))) (pss_cons (ps_dput (hu_of hr) (pv 2) (pv 5) pe_bl rfl)
    (pss_one (ps_expr (pe_bm PySem.F.plainAttrs_list PySem.F.slot_list_append PySem.F.type_list_append mt_append (pv 3) (pa_cons (pv 5) pa_nil))))) pss_nil))))))
    (pss_one (ps_ret (pv 2)))))), ?_⟩
  refine fun F hF => ⟨_, rfl, upd_same, [(Sum.inl (s0 : Int), .bl true)], rfl, by show 1 ≤ 15; decide, ?_⟩
  have e0 : mergeK [] [((Sum.inl (s0 : Int) : L2.Key), V.bl true)] = [((Sum.inl (s0 : Int) : L2.Key), V.bl true)] := rfl
  rw [e0]
  refine ⟨_, rfl, by show 1 ≤ sizeLine; decide, fun W hW => ?_⟩
  have sF : Same H (upd (upd H F (.dK [])) F (.dK [((Sum.inl (s0 : Int) : L2.Key), V.bl true)])) := fun b o hb => by
    rw [upd_ne (ne_of_none hb hF), upd_ne (ne_of_none hb hF)]
    exact hb
  have hF1 : (upd (upd H F (.dK [])) F (.dK [((Sum.inl (s0 : Int) : L2.Key), V.bl true)])) F = some (.dK [((Sum.inl (s0 : Int) : L2.Key), V.bl true)]) := upd_same
  revert sF hF1 hW
  generalize (upd (upd H F (.dK [])) F (.dK [((Sum.inl (s0 : Int) : L2.Key), V.bl true)])) = H1
  intro hW sF hF1
  have hWH : H W = none := sF.free hW
  have FW : F ≠ W := ne_of_none hF1 hW
  have h40 : ∀ fs : List Nat, fs.Nodup → (∀ f ∈ fs, f ∈ S.st) → fs.length ≤ 40 := fun fs nd hf => by
    have := nodup_len 40 (fs.map fun (x : Nat) => (x : Int)) (by
      rw [List.nodup_iff_pairwise_ne, List.pairwise_map]
      exact nd.imp fun h => by omega) fun k hk => by
        obtain ⟨x, hx, rfl⟩ := List.mem_map.mp hk
        have := hG.lt x (hf x hx)
        omega
    rw [List.length_map] at this
    exact this
  refine ⟨fun n σ' H' => ∃ (fs ws : List Nat) (kvs : List (L2.Key × V)) (o4 o5 : Option V), σ' = [some (.ref D), some (.int s0), some (.ref F), some (.ref W), o4, o5] ∧ RInv S s0 H F W H' fs ws kvs ∧ (∀ f ∈ fs, f ∉ ws → ∀ t ∈ endsL S f, t ∈ fs) ∧ 2 * (40 - fs.length) + ws.length < n ∧ n ≤ 80, ⟨80, [s0], [s0], _, none, none, rfl, ⟨sF.trans (same_upd hW), (same_upd hW) _ _ hF1, fun n => ?_, rfl, upd_same, nodup_one _, ?_, ?_, ?_⟩, ?_, ?_⟩, ?_⟩
  · show (valV [((Sum.inl (s0 : Int) : L2.Key), V.bl true)] (Sum.inl (n : Int))).isSome = decide (n ∈ [s0])
    unfold valV
    rw [List.find?_cons]
    by_cases c : n = s0
    · have e1 : decide (((Sum.inl (s0 : Int) : L2.Key), V.bl true).fst = (Sum.inl (n : Int) : L2.Key)) = true := decide_eq_true (by rw [c])
      rw [e1, c]
      simp
    · have e1 : decide (((Sum.inl (s0 : Int) : L2.Key), V.bl true).fst = (Sum.inl (n : Int) : L2.Key)) = false := decide_eq_false fun h => c (by
        have : (Sum.inl (s0 : Int) : L2.Key) = Sum.inl (n : Int) := h
        have := Sum.inl.inj this
        omega)
      rw [e1]
      simp [c]
  · intro f hf
    rw [List.mem_singleton.mp hf]
    exact ⟨hs, .refl _⟩
  · exact fun x hx => hx
  · exact List.mem_singleton.mpr rfl
  · exact fun f hf hn => absurd hf hn
  · show 2 * (40 - 1) + 1 < 80 ∧ 80 ≤ 80
    decide
  rintro n σ' H2 ⟨fs, ws, kvs, o4, o5, rfl, I, hcl, hms, hn80⟩
  refine ⟨_, rfl, _, .inl ⟨_, SqL.of I.hW, rfl⟩, ite2 (fun c => ?_) (fun c => ?_)⟩
  · obtain ⟨ws', t, rfl⟩ : ∃ ws' t, ws = ws' ++ [t] := by
      rcases List.eq_nil_or_concat ws with h | ⟨a, b, h⟩
      · rw [h] at c
        cases c
      · exact ⟨a, b, by rw [h, List.concat_eq_append]⟩
    have hnv : natsV (ws' ++ [t]) = natsV ws' ++ [V.int (t : Int)] := (natsV_snoc ws' t).symm
    have hWn := I.hW
    rw [hnv] at hWn
    have htf : t ∈ fs := I.wsub t (List.mem_append_right _ (List.mem_singleton.mpr rfl))
    obtain ⟨hts, htr⟩ := I.fok t htf
    cases n with
    | zero => exact absurd hms (Nat.not_lt_zero _)
    | succ n =>
    rw [List.length_append, List.length_singleton] at hms
    refine ⟨fun σ2 H2 => ∃ (fs ws : List Nat) (kvs : List (L2.Key × V)) (o4 o5 : Option V), σ2 = [some (.ref D), some (.int s0), some (.ref F), some (.ref W), o4, o5] ∧ RInv S s0 H F W H2 fs ws kvs ∧ (∀ f ∈ fs, f ∉ ws → ∀ t ∈ endsL S f, t ∈ fs) ∧ 2 * (40 - fs.length) + ws.length < n ∧ n ≤ 80, fun σ2 H2 h => ⟨n, Nat.lt_succ_self n, h⟩, ?_⟩
    have hpop : (natsV ws' ++ [V.int (t : Int)])[(natsV ws' ++ [V.int (t : Int)]).length - 1]? = some (.int t) := by
      rw [List.length_append, List.length_singleton, Nat.add_sub_cancel, List.getElem?_append_right (Nat.le_refl _), Nat.sub_self]
      rfl
    have hdrop : (natsV ws' ++ [V.int (t : Int)]).dropLast = natsV ws' := List.dropLast_concat ..
    refine ⟨_, rfl, .inl ⟨rfl, _, SqL.of hWn⟩, W, _, _, rfl, rfl, hWn, hpop, ?_⟩
    rw [hdrop]
    have s3 : Same H (upd H2 W (.lst (natsV ws'))) := fun b o hb => by
      rw [upd_ne fun e => by rw [e, hWH] at hb; cases hb]
      exact I.same _ _ hb
    obtain ⟨kv0, k1, k2⟩ := hE.ex
    obtain ⟨l, l1, l2⟩ := k2 t hts
    have dg : ∀ H', Same H H' → DGet H' D (V.int (t : Int)) (some (.ref l)) := fun H' sx => by
      have := DGet.k (k := Sum.inl (t : Int)) (sx _ _ k1)
      rw [l1] at this
      exact this
    refine ⟨_, rfl, _, rfl, D, _, rfl, dg _ s3, l, rfl, ⟨_, SqL.of (s3 _ _ l2)⟩, for_list (K := K) (a := l) (xs := natsV (endsL S t)) (fun i σ' H' => ∃ (fs' ws2 : List Nat) (kvs : List (L2.Key × V)) (o5 : Option V), σ' = [some (.ref D), some (.int s0), some (.ref F), some (.ref W), some (.int t), o5] ∧ RInv S s0 H F W H' fs' ws2 kvs ∧ t ∈ fs' ∧ (∀ f ∈ fs', f ∉ ws2 → f ≠ t → ∀ t' ∈ endsL S f, t' ∈ fs') ∧ (∀ t' ∈ (endsL S t).take i, t' ∈ fs') ∧ 2 * (40 - fs'.length) + ws2.length < n) ?_ ?_ ?_ ?_⟩
    · refine ⟨fs, ws', kvs, o5, rfl, ⟨s3, by rw [upd_ne FW]; exact I.hF, I.keys, I.kk, upd_same, I.nd, I.fok, fun x hx => I.wsub x (List.mem_append_left _ hx), I.s0f⟩, htf, fun f hf hn hne t' ht' => hcl f hf (fun h => (List.mem_append.mp h).elim hn fun h => hne (List.mem_singleton.mp h)) t' ht', fun t' h => (by cases h), by omega⟩
    · rintro i σ' H' hi ⟨fs', ws2, kvs, o5, rfl, I2, _⟩
      exact SqL.of (I2.same _ _ l2)
    · rintro i v σ' H3 hv ⟨fs', ws2, kvs, o5, rfl, I2, htf', hcl', htk, hms'⟩
      obtain ⟨y, hy, rfl⟩ := natsV_getB hv
      obtain ⟨m, hm, hm1, hm2⟩ := mem_ends.mp (List.mem_of_getElem? hy)
      have hys : y ∈ S.st := by rw [← hm2]; exact (hG.min m hm).2.1
      have hyr : Rch S s0 y := by rw [← hm2]; exact .step htr hm hm1
      have tk : (endsL S t).take (i + 1) = (endsL S t).take i ++ [y] := take_snoc hy
      have fl := h40 fs' I2.nd fun f hf => (I2.fok f hf).1
      refine ⟨_, rfl, _, rfl, F, _, rfl, DGet.k (k := Sum.inl (y : Int)) I2.hF, _, rfl, ?_⟩
      rw [I2.keys]
      refine ite2 (fun c1 => ?_) (fun c1 => ?_)
      · have hyn : y ∉ fs' := fun h => by
          rw [decide_eq_true h] at c1
          cases c1
        have fl2 := h40 (fs' ++ [y]) (by
          rw [List.nodup_append]
          exact ⟨I2.nd, nodup_one _, fun a ha b hb e => hyn (by rw [← List.mem_singleton.mp hb, ← e]; exact ha)⟩) fun f hf => (List.mem_append.mp hf).elim (fun h => (I2.fok f h).1) fun h => by rw [List.mem_singleton.mp h]; exact hys
        rw [List.length_append, List.length_singleton] at fl2
        have kl : kvs.length ≤ fs'.length := by
          have := congrArg List.length I2.kk
          rw [List.length_map, List.length_map, List.length_map] at this
          omega
        have hnone : valV kvs (Sum.inl (y : Int)) = none := by
          have := I2.keys y
          rw [decide_eq_false hyn] at this
          exact Option.isNone_iff_eq_none.mp (by rw [← Option.not_isSome, this]; rfl)
        have wl : ws2.length ≤ 80 := by have := hms'; have := hn80; omega
        refine ⟨_, rfl, _, rfl, F, _, rfl, DPut.k (k := Sum.inl (y : Int)) I2.hF (Nat.lt_of_le_of_lt (m := 40) (by omega) (by decide)), ?_⟩
        have Wn : (upd H3 F (.dK (putK kvs (Sum.inl (y : Int)) (V.bl true)))) W = some (.lst (natsV ws2)) := by
          rw [upd_ne FW.symm]
          exact I2.hW
        refine ⟨_, rfl, .inl ⟨rfl, _, SqL.of Wn⟩, _, rfl, W, _, _, rfl, rfl, Wn, ?_, fs' ++ [y], ws2 ++ [y], _, _, rfl, ⟨fun b o hb => ?_, by rw [upd_ne FW]; exact upd_same, fun n => ?_, ?_, by rw [upd_same, natsV_snoc], ?_, ?_, ?_, List.mem_append_left _ I2.s0f⟩, List.mem_append_left _ htf', ?_, ?_, ?_⟩
        · rw [natsV_len]
          exact Nat.lt_of_le_of_lt (m := 80) wl (by decide)
        · rw [upd_ne (fun e => by rw [e, hWH] at hb; cases hb), upd_ne (fun e => by rw [e, hF] at hb; cases hb)]
          exact I2.same _ _ hb
        · rw [valV_put]
          by_cases c : n = y
          · rw [c, if_pos rfl]
            exact (decide_eq_true (List.mem_append_right _ (List.mem_singleton.mpr rfl))).symm
          · rw [if_neg fun h => c (by have := Sum.inl.inj h; omega), I2.keys]
            refine decide_eq_decide.mpr ⟨fun h => List.mem_append_left _ h, fun h => ?_⟩
            exact (List.mem_append.mp h).elim id fun h => absurd (List.mem_singleton.mp h) c
        · rw [putK_new _ hnone, List.map_append, I2.kk, List.map_append, List.map_append]
          rfl
        · rw [List.nodup_append]
          exact ⟨I2.nd, nodup_one _, fun a ha b hb e => hyn (by rw [← List.mem_singleton.mp hb, ← e]; exact ha)⟩
        · exact fun f hf => (List.mem_append.mp hf).elim (I2.fok f) fun h => by rw [List.mem_singleton.mp h]; exact ⟨hys, hyr⟩
        · exact fun x hx => (List.mem_append.mp hx).elim (fun h => List.mem_append_left _ (I2.wsub x h)) fun h => List.mem_append_right _ h
        · intro f hf hn hne t' ht'
          rcases List.mem_append.mp hf with h | h
          · exact List.mem_append_left _ (hcl' f h (fun h2 => hn (List.mem_append_left _ h2)) hne t' ht')
          · exact absurd (List.mem_append_right _ h) hn
        · intro t' ht'
          rw [tk] at ht'
          exact (List.mem_append.mp ht').elim (fun h => List.mem_append_left _ (htk t' h)) fun h => List.mem_append_right _ h
        · rw [List.length_append, List.length_append]
          show 2 * (40 - (fs'.length + 1)) + (ws2.length + 1) < n
          omega
      · have hyf : y ∈ fs' := by
          rcases Classical.em (y ∈ fs') with h | h
          · exact h
          · refine absurd ?_ c1
            rw [decide_eq_false h]
            rfl
        refine ⟨fs', ws2, kvs, _, rfl, I2, htf', hcl', fun t' ht' => ?_, hms'⟩
        rw [tk] at ht'
        exact (List.mem_append.mp ht').elim (htk t') fun h => by rw [List.mem_singleton.mp h]; exact hyf
    · rintro σ' H3 ⟨fs', ws2, kvs, o5, rfl, I2, htf', hcl', htk, hms'⟩
      rw [natsV_len, List.take_length] at htk
      refine ⟨fs', ws2, kvs, _, _, rfl, I2, fun f hf hn t' ht' => ?_, hms', by omega⟩
      by_cases c : f = t
      · rw [c] at ht'
        exact htk t' ht'
      · exact hcl' f hf hn c t' ht'
  · have hw0 : ws = [] := by
      cases ws with
      | nil => rfl
      | cons a b => exact absurd rfl c
    subst hw0
    have all : ∀ n, n ∈ fs ↔ Rch S s0 n := fun n => by
      refine ⟨fun h => (I.fok n h).2, fun h => ?_⟩
      exact h.closed (F := fun x => x ∈ fs) I.s0f fun m hm hf => hcl m.1 hf (fun h => by cases h) m.2.2 (mem_ends.mpr ⟨m, hm, rfl, rfl⟩)
    refine ⟨_, rfl, q F H2 ⟨hF, kvs, fs, I.hF, I.kk, I.nd, all⟩ I.same ⟨kvs, I.hF, fun n => ?_⟩⟩
    rw [I.keys, Bool.eq_iff_iff, decide_eq_true_eq, dec_iff]
    exact all n
end
end My
namespace My
open PySem PySem.Spec PyProof.Rows L2
theorem pt_truthK {X : Cx} {K : PySem.W.Frag} {a : Expr} {ta : TE} (hK : X.K = K) (ha : PE X a ta) (he : ∀ whole, isTrue a X.env whole = (do let v ← whole; standAt a.pos; holding [v] (truthy v))) : PT X a (fun σ H Q => ta σ H fun x H' => ∃ k, TruV K x H' k ∧ Q k H') := by
  subst hK
  exact pt_truth ha he
def RowsTu (H : Hp) (a : Addr) (rows : List (List Nat)) : Prop := ∃ ts : List V, H a = some (.lst ts) ∧ Two (fun t row => ∃ q, t = V.ref q ∧ H q = some (.tup (natsV row))) ts rows
theorem RowsTu.same {H H' : Hp} {a : Addr} {rows : List (List Nat)} (s : Same H H') (h : RowsTu H a rows) : RowsTu H' a rows := by
  obtain ⟨ts, h1, h2⟩ := h
  exact ⟨ts, s _ _ h1, h2.mono fun t r ⟨q, e, h⟩ => ⟨q, e, s _ _ h⟩⟩
noncomputable def orbsL (S : Sy) : List (List Nat) := (S.st.filter fun s => decide ((orbL S s).head? = some s)).map (orbL S)
def exitsL (S : Sy) (orb : List Nat) (s : Nat) : List (Nat × Nat) := (S.mv.filter fun m => decide (m.1 = s ∧ m.2.2 ∉ orb)).map fun m => (m.2.1, m.2.2)
def gatesL (S : Sy) (orb : List Nat) : List Nat := orb.filter fun s => decide (s ∈ S.ac) || !(exitsL S orb s).isEmpty
def ExitAt (H : Hp) (v : V) (x : Nat × Nat) : Prop := ∃ t, v = .ref t ∧ H t = some (.tup [.str ⟨#[x.1]⟩, .int (x.2 : Int)])
def ExitsAt (H : Hp) (t : Addr) (xs : List (Nat × Nat)) : Prop := ∃ ts, H t = some (.tup ts) ∧ Two (ExitAt H) ts xs
theorem ExitsAt.same {H H' : Hp} {t : Addr} {xs : List (Nat × Nat)} (k : Same H H') (h : ExitsAt H t xs) : ExitsAt H' t xs := by
  obtain ⟨ts, h1, h2⟩ := h
  exact ⟨ts, k _ _ h1, h2.mono fun a b ⟨t, e, h⟩ => ⟨t, e, k _ _ h⟩⟩
def ReachAt (H : Hp) (R : Addr) (S : Sy) : Prop := ∃ kvs : List (L2.Key × V), H R = some (.dK kvs) ∧ ∀ s ∈ S.st, ∃ F, valV kvs (Sum.inl (s : Int)) = some (.ref F) ∧ KeysAt H F (fun n => dec (Rch S s n))
def spOrbitsOf : Sp := fun vs H Q _ => ∃ (p : Addr) (S : Sy), vs = [.ref p] ∧ SysAt H p S ∧ Good S ∧ ∀ (R : Addr) H', Same H H' → H R = none → RowsTu H' R (orbsL S) → Q (.ref R) H'
def spOrbitAt : Sp := fun vs H Q _ => ∃ (p : Addr) (S : Sy) (s : Nat), vs = [.ref p, .int s] ∧ SysAt H p S ∧ Good S ∧ s ∈ S.st ∧ ∀ (t : Addr) H', Same H H' → H' t = some (.tup (natsV (orbL S s))) → Q (.ref t) H'
def spExitsOf : Sp := fun vs H Q _ => ∃ (p o : Addr) (S : Sy) (orb : List Nat) (s : Nat), vs = [.ref p, .ref o, .int s] ∧ SysAt H p S ∧ Good S ∧ H o = some (.tup (natsV orb)) ∧ ∀ (t : Addr) H', Same H H' → ExitsAt H' t (exitsL S orb s) → Q (.ref t) H'
def spGatesOf : Sp := fun vs H Q _ => ∃ (p o : Addr) (S : Sy) (orb : List Nat), vs = [.ref p, .ref o] ∧ SysAt H p S ∧ Good S ∧ H o = some (.tup (natsV orb)) ∧ orb.length ≤ 1000 ∧ ∀ (t : Addr) H', Same H H' → H' t = some (.tup (natsV (gatesL S orb))) → Q (.ref t) H'
def spExits : Sp := fun vs H Q _ => ∃ (p : Addr) (S : Sy) (s : Nat), vs = [.ref p, .int s] ∧ SysAt H p S ∧ Good S ∧ s ∈ S.st ∧ ∀ (t : Addr) H', Same H H' → ExitsAt H' t (exitsL S (orbL S s) s) → Q (.ref t) H'
def spGates : Sp := fun vs H Q _ => ∃ (p : Addr) (S : Sy) (s : Nat), vs = [.ref p, .int s] ∧ SysAt H p S ∧ Good S ∧ s ∈ S.st ∧ ∀ (t : Addr) H', Same H H' → H' t = some (.tup (natsV (gatesL S (orbL S s)))) → Q (.ref t) H'
theorem orb_self {S : Sy} {s : Nat} (h : s ∈ S.st) : s ∈ orbL S s := mem_orb.mpr ⟨h, .refl _, .refl _⟩
theorem orb_len {S : Sy} (G : Good S) (s : Nat) : (orbL S s).length ≤ 40 := Nat.le_trans (List.length_filter_le _ _) G.len
/-- numbers that are kept -/
def ftR (xs : List Nat) (f : Nat → Bool) (i : Nat) : List V := natsV ((xs.take i).filter f)
theorem ftR_len {xs : List Nat} {f : Nat → Bool} {m : Nat} (h : xs.length ≤ m) (i : Nat) : (ftR xs f i).length ≤ m := by
  unfold ftR
  rw [natsV_len]
  exact Nat.le_trans (List.length_filter_le _ _) (by rw [List.length_take]; omega)
theorem ftR_yes {xs : List Nat} {f : Nat → Bool} {i x : Nat} (h : xs[i]? = some x) (e : f x = true) : ftR xs f (i + 1) = ftR xs f i ++ [V.int (x : Int)] := by
  unfold ftR
  rw [take_snoc h, List.filter_append, List.filter_cons, if_pos e, List.filter_nil, natsV_snoc]
theorem ftR_no {xs : List Nat} {f : Nat → Bool} {i x : Nat} (h : xs[i]? = some x) (e : ¬ f x = true) : ftR xs f (i + 1) = ftR xs f i := by
  unfold ftR
  rw [take_snoc h, List.filter_append, List.filter_cons, if_neg e, List.filter_nil, List.append_nil]
theorem ftR_all (xs : List Nat) (f : Nat → Bool) : ftR xs f (natsV xs).length = natsV (xs.filter f) := by
  unfold ftR
  rw [natsV_len, List.take_length]
theorem dec_and {p q : Prop} : dec (p ∧ q) = (dec p && dec q) := by
  rw [Bool.eq_iff_iff, Bool.and_eq_true, dec_iff, dec_iff, dec_iff]
section
variable {P : Program} {w : World} {K : PySem.W.Frag} {mg : Str → Option Value} {base : Heap} {tL tM tV : Tok}
abbrev N_orbits_of : List Str := ["system", "ends", "reach", "found", "state", "orbit", "other"]
theorem sc_orbits_of : FnScope ["system", "ends", "reach", "found", "state", "orbit", "other"] ["system"] (defScope s_orbits_of) := ⟨rfl, rfl, rfl, by decide +kernel, rfl, by decide +kernel, by decide +kernel⟩
set_option maxHeartbeats 1000000 in
theorem ok_orbitsof {f : Addr} {fd : FuncData} (B : Bt K mg tL tM tV) (Dd : Df K mg "orbits_of" s_orbits_of ["system"] f fd) (G_ends_by_state : Cl P w K mg base 1 "_ends_by_state" ["system"] spEnds) (G_reached_from : Cl P w K mg base 1 "_reached_from" ["ends", "state"] spReached) : FnOk P w K mg base CX0 2 f fd ["system"] spOrbitsOf := by
  refine Dd.F.ok sc_orbits_of (fun vs H Q Ex h => ?_) (fun cdv A outer s H vs Q Ex hr h => ?_)
  · obtain ⟨p, S, rfl, _⟩ := h
    rfl
  obtain ⟨p, S, rfl, hS, hG, q⟩ := h
  refine ⟨_, (pss_cons (ps_set (i := 1) sc_orbits_of.nd rfl (Or.inr rfl) (pe_cl G_ends_by_state (hr.mono (by omega)) rfl (pa_cons (pv 0) pa_nil)))
    (pss_cons (ps_set (i := 2) sc_orbits_of.nd rfl (Or.inr rfl) (pe_dc (own := [("state", 4)]) (g := gName 4) (tt := tYes) rfl sc_orbits_of.nd (pi_tup (pe_ix (r := rIxT K) ix_tup (pv 0) pe_int (fun _ _ => rfl))) (blkOk_by (N := N_orbits_of) (sc := defScope s_orbits_of) (by decide +kernel)) (fun _ _ _ _ _ => pg_name (i := 4) sc_orbits_of.nd rfl (Or.inl rfl)) (fun _ _ _ _ _ => pts_nil) (fun _ _ _ _ _ => (pv 4)) (fun _ _ _ _ _ => (pe_cl G_reached_from (hr.mono (by omega)) rfl (pa_cons (pv 1) (pa_cons (pv 4) pa_nil))))))
    (pss_cons (ps_set (i := 3) sc_orbits_of.nd rfl (Or.inl rfl) (pe_lst pa_nil))
    (pss_cons (ps_for PassesOwn.never rfl (pi_tup (pe_ix (r := rIxT K) ix_tup (pv 0) pe_int (fun _ _ => rfl))) (pg_name (i := 4) sc_orbits_of.nd rfl (Or.inr rfl)) (pss_cons (ps_set (i := 5) sc_orbits_of.nd rfl (Or.inl rfl) (pe_callTy (r := rTupOf K) call_tuple_ofK rfl B.b_tuple boot_tuple (pa_cons (pe_lc (own := [("other", 6)]) (g := gName 6) rfl sc_orbits_of.nd (pi_tup (pe_ix (r := rIxT K) ix_tup (pv 0) pe_int (fun _ _ => rfl))) (blkOk_by (N := N_orbits_of) (sc := defScope s_orbits_of) (by decide +kernel)) (fun _ _ _ _ _ => pg_name (i := 6) sc_orbits_of.nd rfl (Or.inl rfl)) (fun _ _ _ _ _ => pts_one (PW.pt (pw_and (pt_cmp (pc_din (hu_of hr) (pv 6) (pe_dget (hu_of hr) (pv 2) (pv 4) (fun _ _ => rfl)))) (pw_and1 (pt_cmp (pc_din (hu_of hr) (pv 4) (pe_dget (hu_of hr) (pv 2) (pv 6) (fun _ _ => rfl)))))))) (fun _ _ _ _ _ => (pv 6))) pa_nil)))
    (pss_one (ps_if (pt_cmpR op_eq (pe_ix (r := rIxT K) ix_tup (pv 5) pe_int (fun _ _ => rfl)) (pv 4) (nomark _)) (pss_one (ps_expr (pe_bm PySem.F.plainAttrs_list PySem.F.slot_list_append PySem.F.type_list_append mt_append (pv 3) (pa_cons (pv 5) pa_nil)))) pss_nil))))
    (pss_one (ps_ret (pv 3))))))), ?_⟩
  refine ⟨_, rfl, p, S, rfl, hS, hG, fun D H1 s1 hE => ?_⟩
  have hS1 := hS.same s1
  obtain ⟨a, b, c, ts, h1, h2, h3, h4, h5⟩ := hS1.ex
  have h40 := hG.len
  refine ⟨_, rfl, p, _, 0, _, rfl, rfl, SqT.of h1, at_zero, a, rfl, ⟨_, SqT.of h2⟩, fun R hR => ?_⟩
  refine dc_tup (K := K) (a := a) (xs := natsV S.st) (fun j H' => Same H1 H' ∧ ∃ kvs : List (L2.Key × V), H' R = some (.dK kvs) ∧ (∀ s ∈ S.st.take j, ∃ F, valV kvs (Sum.inl (s : Int)) = some (.ref F) ∧ F ≠ R ∧ KeysAt H' F (fun n => dec (Rch S s n))) ∧ kvs.length ≤ j) ⟨same_upd hR, [], upd_same, fun s h => (by simp at h), Nat.le_refl _⟩ (fun j H' _ h => SqT.of (h.1 _ _ h2)) (fun j x H' hx h => ?_) (fun H2 h => ?_)
  · obtain ⟨s2, kvs, hk, hg, hl⟩ := h
    obtain ⟨y, hy, rfl⟩ := natsV_getB hx
    have hj := (List.getElem?_eq_some_iff.mp hy).1
    refine ⟨rfl, tyes ⟨_, rfl, _, rfl, _, rfl, D, S, y, rfl, hE.same s2, hG, List.mem_of_getElem? hy, fun F H3 hF00 s3 hF => ?_⟩⟩
    have hF0 := hF00.1
    have FR : F ≠ R := (ne_of_none hk hF0).symm
    have keep : ∀ F' kv, F' ≠ R → KeysAt H3 F' kv → ∀ o, KeysAt (upd H3 R o) F' kv := fun F' kv n h o => by
      obtain ⟨k2, g1, g2⟩ := h
      exact ⟨k2, by rw [upd_ne n]; exact g1, g2⟩
    refine ⟨kvs, Sum.inl (y : Int), rfl, s3 _ _ hk, Nat.lt_of_le_of_lt (m := 40) (by omega) (by decide), fun b' o hb' => by rw [upd_ne (ne_of_none hb' hR)]; exact s3 _ _ (s2 _ _ hb'), _, upd_same, fun n hn => ?_, Nat.le_trans (length_putK kvs _ _) (Nat.succ_le_succ hl)⟩
    rw [take_snoc hy] at hn
    rw [valV_put]
    by_cases c : n = y
    · rw [c, if_pos rfl]
      exact ⟨F, rfl, FR, keep F _ FR hF _⟩
    · rw [if_neg fun h => c (by have := Sum.inl.inj h; omega)]
      obtain ⟨F', e1, e2, e3⟩ := hg n ((List.mem_append.mp hn).elim id fun h => absurd (List.mem_singleton.mp h) c)
      exact ⟨F', e1, e2, keep F' _ e2 (e3.same s3) _⟩
  obtain ⟨s2, kvs, hk, hg, _⟩ := h
  rw [natsV_len, List.take_length] at hg
  have RA : ReachAt H2 R S := ⟨kvs, hk, fun s hs => by
    obtain ⟨F, e1, _, e3⟩ := hg s hs
    exact ⟨F, e1, e3⟩⟩
  refine ⟨Nat.zero_le _, fun L hL => ?_⟩
  have sL := same_upd (o := .lst []) hL
  have S2 := s1.trans s2
  have pos : ∀ i : Nat, (S.st.take i).length ≤ 40 := fun i => by rw [List.length_take]; omega
  refine ⟨_, rfl, p, _, 0, _, rfl, rfl, SqT.of (sL _ _ (s2 _ _ h1)), at_zero, a, rfl, ⟨_, SqT.of (sL _ _ (s2 _ _ h2))⟩, for_tup (K := K) (a := a) (xs := natsV S.st) (fun i σ' H' => ∃ o4 o5 : Option V, σ' = [some (.ref p), some (.ref D), some (.ref R), some (.ref L), o4, o5, none] ∧ Same H2 H' ∧ RowsTu H' L (((S.st.take i).filter fun s => decide ((orbL S s).head? = some s)).map (orbL S))) ?_ ?_ ?_ ?_⟩
  · exact ⟨none, none, rfl, sL, [], upd_same, .nil⟩
  · rintro i σ' H' hi ⟨o4, o5, rfl, s3, _⟩
    exact SqT.of (s3 _ _ (s2 _ _ h2))
  · rintro i v σ' H3 hv ⟨o4, o5, rfl, s3, ⟨rs, hrs, two⟩⟩
    obtain ⟨y, hy, rfl⟩ := natsV_getB hv
    have hys := List.mem_of_getElem? hy
    obtain ⟨kv2, g1, g2⟩ := RA
    refine ⟨_, rfl, p, _, 0, _, rfl, rfl, SqT.of (s3 _ _ (s2 _ _ h1)), at_zero, a, rfl, ⟨_, SqT.of (s3 _ _ (s2 _ _ h2))⟩, fun M hM => ?_⟩
    refine lc_tupR (K := K) (a := a) (xs := natsV S.st) (ftR S.st fun o => dec (Rch S y o ∧ Rch S o y)) rfl (ftR_len (by omega)) hM (SqT.of (s3 _ _ (s2 _ _ h2))) (fun k x H' hx s4 fin fin0 => ?_) (fun H4 s4 hk4 => ?_)
    · obtain ⟨o, ho, rfl⟩ := natsV_getB hx
      have hos := List.mem_of_getElem? ho
      obtain ⟨F1, f1, kv3, f2, f3⟩ := g2 y hys
      obtain ⟨F2, f4, kv4, f5, f6⟩ := g2 o hos
      have S4 := s3.trans s4
      have d1 : DGet H' R (V.int (y : Int)) (some (.ref F1)) := by
        have := DGet.k (k := Sum.inl (y : Int)) (S4 _ _ g1)
        rw [f1] at this
        exact this
      have d2 : DGet H' R (V.int (o : Int)) (some (.ref F2)) := by
        have := DGet.k (k := Sum.inl (o : Int)) (S4 _ _ g1)
        rw [f4] at this
        exact this
      refine ⟨rfl, _, rfl, _, rfl, _, rfl, R, _, rfl, d1, F1, _, rfl, DGet.k (k := Sum.inl (o : Int)) (S4 _ _ f2), _, rfl, ?_⟩
      rw [show (valV kv3 (Sum.inl (o : Int))).isSome = dec (Rch S y o) from f3 o]
      refine ite2 (fun c1 => ?_) (fun c1 => iteF (fin0 _ (ftR_no ho ?_) (Same.refl _)))
      · refine ⟨_, rfl, _, rfl, _, rfl, R, _, rfl, d2, F2, _, rfl, DGet.k (k := Sum.inl (y : Int)) (S4 _ _ f5), _, rfl, ?_⟩
        rw [show (valV kv4 (Sum.inl (y : Int))).isSome = dec (Rch S o y) from f6 y]
        refine ite2 (fun c2 => ?_) (fun c2 => fin0 _ (ftR_no ho ?_) (Same.refl _))
        · exact ⟨_, rfl, fin _ _ (ftR_yes ho (by rw [dec_and, c1, c2]; rfl)) (Same.refl _)⟩
        · rw [dec_and, eq_false_of_ne_true c2, Bool.and_false]
          exact Bool.false_ne_true
      · rw [dec_and, eq_false_of_ne_true c1, Bool.false_and]
        exact Bool.false_ne_true
    rw [ftR_all] at hk4
    refine ⟨M, _, rfl, .inl ⟨SqL.of hk4, fun t ht => ?_⟩⟩
    have st := same_upd (o := .tup (natsV (orbL S y))) ht
    obtain ⟨z, hz⟩ : ∃ z, (orbL S y)[0]? = some z := ⟨_, List.getElem?_eq_getElem (List.length_pos_of_mem (orb_self hys))⟩
    have hhd : (orbL S y).head? = some z := by rw [List.head?_eq_getElem?]; exact hz
    have tk := take_snoc hy
    refine ⟨_, rfl, t, _, 0, .int (z : Int), rfl, rfl, SqT.of upd_same, at_of (j := 0) rfl (natsV_getN hz), _, rfl, rfl, _, rfl, ite2 (fun c1 => ?_) (fun c1 => ?_)⟩
    · have e1 : z = y := by
        have := V.int.inj (of_decide_eq_true c1)
        omega
      have L5 := st _ _ (s4 _ _ hrs)
      have tl := two.len
      refine ⟨_, rfl, .inl ⟨rfl, _, SqL.of L5⟩, _, rfl, L, rs, _, rfl, rfl, L5, ?_, _, _, rfl, ?_, rs ++ [.ref t], upd_same, ?_⟩
      · rw [tl, List.length_map]
        exact Nat.lt_of_le_of_lt (m := 40) (Nat.le_trans (List.length_filter_le _ _) (pos i)) (by decide)
      · exact fun b' o' hb' => by rw [upd_ne (ne_of_none hb' hL)]; exact st _ _ (s4 _ _ (s3 _ _ hb'))
      · rw [tk, List.filter_append, List.filter_cons, if_pos (decide_eq_true (by rw [hhd, e1])), List.filter_nil, List.map_append]
        refine (two.mono fun v r hx => ?_).app (.cons ⟨t, rfl, ?_⟩ .nil)
        · obtain ⟨q1, e2, h⟩ := hx
          exact ⟨q1, e2, by rw [upd_ne fun e3 => by rw [e3, hrs] at h; cases h]; exact st _ _ (s4 _ _ h)⟩
        · rw [upd_ne fun e3 => by rw [e3, s4 _ _ hrs] at ht; cases ht]
          exact upd_same
    · have e1 : ¬ (orbL S y).head? = some y := fun h => c1 (by
        rw [hhd] at h
        rw [Option.some.inj h]
        exact decide_eq_true rfl)
      refine ⟨_, _, rfl, s3.trans (s4.trans st), rs, st _ _ (s4 _ _ hrs), ?_⟩
      rw [tk, List.filter_append, List.filter_cons, if_neg (by rw [decide_eq_false e1]; exact Bool.false_ne_true), List.filter_nil, List.append_nil]
      refine two.mono fun v r hx => ?_
      obtain ⟨q1, e2, h⟩ := hx
      exact ⟨q1, e2, st _ _ (s4 _ _ h)⟩
  · rintro σ' H3 ⟨o4, o5, rfl, s3, rw3⟩
    rw [natsV_len, List.take_length] at rw3
    exact ⟨_, rfl, q L H3 (S2.trans s3) (S2.free hL) rw3⟩
abbrev N_orbits : List Str := ["system"]
theorem sc_orbits : FnScope ["system"] ["system"] (defScope s_orbits) := ⟨rfl, rfl, rfl, by decide +kernel, rfl, by decide +kernel, by decide +kernel⟩
theorem ok_orbits {f : Addr} {fd : FuncData} (B : Bt K mg tL tM tV) (Dd : Df K mg "orbits" s_orbits ["system"] f fd) (Gcheck_system : Cl P w K mg base 5 "check_system" ["value"] spChkSys) (Gorbits_of : Cl P w K mg base 2 "orbits_of" ["system"] spOrbitsOf) : FnOk P w K mg base CX0 6 f fd ["system"] spOrbitsOf := by
  refine Dd.F.ok sc_orbits (fun vs H Q Ex h => ?_) (fun cdv A outer s H vs Q Ex hr h => ?_)
  · obtain ⟨p, S, rfl, _⟩ := h
    rfl
  obtain ⟨p, S, rfl, hS, hG, q⟩ := h
  refine ⟨_, (pss_cons (ps_expr (pe_cl Gcheck_system (hr.mono (by omega)) rfl (pa_cons (pv 0) pa_nil)))
    (pss_one (ps_ret (pe_cl Gorbits_of (hr.mono (by omega)) rfl (pa_cons (pv 0) pa_nil))))), ?_⟩
  exact ⟨_, rfl, p, S, rfl, hS, hG, fun H1 s1 => ⟨_, rfl, p, S, rfl, hS.same s1, hG, fun R H2 s2 hR r => q R H2 (s1.trans s2) (s1.free hR) r⟩⟩
abbrev N_orbit_at : List Str := ["system", "state", "ends", "reach", "other"]
theorem sc_orbit_at : FnScope ["system", "state", "ends", "reach", "other"] ["system", "state"] (defScope s_orbit_at) := ⟨rfl, rfl, rfl, by decide +kernel, rfl, by decide +kernel, by decide +kernel⟩
theorem ok_orbitat {f : Addr} {fd : FuncData} (B : Bt K mg tL tM tV) (Dd : Df K mg "orbit_at" s_orbit_at ["system", "state"] f fd) (G_ends_by_state : Cl P w K mg base 1 "_ends_by_state" ["system"] spEnds) (G_reached_from : Cl P w K mg base 1 "_reached_from" ["ends", "state"] spReached) : FnOk P w K mg base CX0 2 f fd ["system", "state"] spOrbitAt := by
  refine Dd.F.ok sc_orbit_at (fun vs H Q Ex h => ?_) (fun cdv A outer s H vs Q Ex hr h => ?_)
  · obtain ⟨p, S, s, rfl, _⟩ := h
    rfl
  obtain ⟨p, S, y, rfl, hS, hG, hys, q⟩ := h
  refine ⟨_, (pss_cons (ps_set (i := 2) sc_orbit_at.nd rfl (Or.inr rfl) (pe_cl G_ends_by_state (hr.mono (by omega)) rfl (pa_cons (pv 0) pa_nil)))
    (pss_cons (ps_set (i := 3) sc_orbit_at.nd rfl (Or.inr rfl) (pe_cl G_reached_from (hr.mono (by omega)) rfl (pa_cons (pv 2) (pa_cons (pv 1) pa_nil))))
    (pss_one (ps_ret (pe_callTy (r := rTupOf K) call_tuple_ofK rfl B.b_tuple boot_tuple (pa_cons (pe_lc (own := [("other", 4)]) (g := gName 4) rfl sc_orbit_at.nd (pi_tup (pe_ix (r := rIxT K) ix_tup (pv 0) pe_int (fun _ _ => rfl))) (blkOk_by (N := N_orbit_at) (sc := defScope s_orbit_at) (by decide +kernel)) (fun _ _ _ _ _ => pg_name (i := 4) sc_orbit_at.nd rfl (Or.inl rfl)) (fun _ _ _ _ _ => pts_one (PW.pt (pw_and (pt_cmp (pc_din (hu_of hr) (pv 4) (pv 3))) (pw_and1 (pt_cmp (pc_din (hu_of hr) (pv 1) (pe_cl G_reached_from (hr.mono (by omega)) rfl (pa_cons (pv 2) (pa_cons (pv 4) pa_nil))))))))) (fun _ _ _ _ _ => (pv 4))) pa_nil)))))), ?_⟩
  refine ⟨_, rfl, p, S, rfl, hS, hG, fun D H1 s1 hE => ?_⟩
  refine ⟨_, rfl, _, rfl, D, S, y, rfl, hE, hG, hys, fun F H2 _ s2 hF => ?_⟩
  have S2 := s1.trans s2
  obtain ⟨a, b, c, ts, h1, h2, h3, h4, h5⟩ := (hS.same S2).ex
  have h40 := hG.len
  refine ⟨_, rfl, p, _, 0, _, rfl, rfl, SqT.of h1, at_zero, a, rfl, ⟨_, SqT.of h2⟩, fun M hM => ?_⟩
  refine lc_tupR (K := K) (a := a) (xs := natsV S.st) (ftR S.st fun o => dec (Rch S y o ∧ Rch S o y)) rfl (ftR_len (by omega)) hM (SqT.of h2) (fun k x H' hx s4 fin fin0 => ?_) (fun H4 s4 hk4 => ?_)
  · obtain ⟨o, ho, rfl⟩ := natsV_getB hx
    have hos := List.mem_of_getElem? ho
    obtain ⟨kv3, f2, f3⟩ := hF.same s4
    refine ⟨rfl, _, rfl, _, rfl, F, _, rfl, DGet.k (k := Sum.inl (o : Int)) f2, _, rfl, ?_⟩
    rw [show (valV kv3 (Sum.inl (o : Int))).isSome = dec (Rch S y o) from f3 o]
    refine ite2 (fun c1 => ?_) (fun c1 => iteF (fin0 _ (ftR_no ho ?_) (Same.refl _)))
    · refine ⟨_, rfl, _, rfl, _, rfl, D, S, o, rfl, (hE.same s2).same s4, hG, hos, fun F2 H5 _ s5 hF2 => ?_⟩
      obtain ⟨kv4, f5, f6⟩ := hF2
      refine ⟨F2, _, rfl, DGet.k (k := Sum.inl (y : Int)) f5, _, rfl, ?_⟩
      rw [show (valV kv4 (Sum.inl (y : Int))).isSome = dec (Rch S o y) from f6 y]
      refine ite2 (fun c2 => ?_) (fun c2 => fin0 _ (ftR_no ho ?_) s5)
      · exact ⟨_, rfl, fin _ _ (ftR_yes ho (by rw [dec_and, c1, c2]; rfl)) s5⟩
      · rw [dec_and, eq_false_of_ne_true c2, Bool.and_false]
        exact Bool.false_ne_true
    · rw [dec_and, eq_false_of_ne_true c1, Bool.false_and]
      exact Bool.false_ne_true
  rw [ftR_all] at hk4
  exact ⟨M, _, rfl, .inl ⟨SqL.of hk4, fun t ht => q t _ (S2.trans (s4.trans (same_upd ht))) upd_same⟩⟩
end
end My
namespace My
open PySem PySem.Spec PyProof.Rows L2
theorem for_strB {z : Str} {g : TG} {tb : TS} {D : Ends} {σ : L2.St} {H : Hp} (Pv : Nat → L2.St → Hp → Prop) (h0 : Pv 0 σ H)
    (hs : ∀ i c σ H, z.cps[i]? = some c → Pv i σ H → g (.str ⟨#[c]⟩) σ H fun σ2 H2 => tb { D with nx := Pv (i + 1), ct := Pv (i + 1), bk := D.nx } σ2 H2) (hd : ∀ σ H, Pv z.cps.size σ H → D.nx σ H) :
    ∃ W : Nat → Nat → L2.St → Hp → Prop, (∃ m, W 0 m σ H) ∧ ∀ i m σ H, W i m σ H →
      ((Its z).stop i H ∧ D.nx σ H) ∨ ((Its z).go i H ∧ ∃ N : L2.St → Hp → Prop, (∀ σ' H', N σ' H' → ∃ m', m' < m ∧ W (i + 1) m' σ' H') ∧ ∀ x H', (Its z).yld i H x H' → g x σ H' fun σ2 H2 => tb { D with nx := N, ct := N, bk := D.nx } σ2 H2) := by
  refine ⟨fun i m σ H => m = z.cps.size - i ∧ i ≤ z.cps.size ∧ Pv i σ H, ⟨z.cps.size, by simp, Nat.zero_le _, h0⟩, ?_⟩
  rintro i m σ H ⟨rfl, hi, p⟩
  by_cases hlt : i < z.cps.size
  · refine .inr ⟨hlt, Pv (i + 1), fun σ' H' p' => ⟨z.cps.size - (i + 1), by omega, rfl, hlt, p'⟩, fun x H' y => ?_⟩
    obtain ⟨rfl, c, hc, rfl⟩ := y
    exact hs i c σ _ hc p
  · have e : i = z.cps.size := by omega
    subst e
    exact .inl ⟨Nat.le_refl _, hd σ H p⟩
theorem Go.free {a p : Addr} {H H' : Hp} (g : Go a H H') (n : H' p = none) : H p = none := by
  cases c : H p with
  | none => rfl
  | some o =>
    by_cases e : p = a
    · obtain ⟨xs, h⟩ := g.st.isl
      rw [e, h] at n
      cases n
    · have := g.keep _ _ c e
      rw [n] at this
      cases this
/-- letters from a on -/
def LetZ (z : Str) : Prop := z.cps.size ≤ 4 ∧ ∀ k c, z.cps[k]? = some c → c = 97 + k
theorem letz_by {z : Str} (h : (decide (z.cps.size ≤ 4) && (List.range 4).all fun k => match z.cps.toList[k]? with | none => true | some c => decide (c = 97 + k)) = true) : LetZ z := by
  rw [Bool.and_eq_true, decide_eq_true_eq, List.all_eq_true] at h
  refine ⟨h.1, fun k c hc => ?_⟩
  have hk : k < z.cps.size := (Array.getElem?_eq_some_iff.mp hc).1
  have := h.2 k (List.mem_range.mpr (by omega))
  rw [Array.getElem?_toList, hc] at this
  exact of_decide_eq_true this
/-- moves that are made: those of the states before, and of this one the letters before -/
structure MvOk (xs : List Nat) (ms : List Mv) (n : Nat) (lim : Nat → Nat → Prop) : Prop where
  rise : ms.Pairwise (fun m n => m.1 < n.1 ∨ (m.1 = n.1 ∧ m.2.1 < n.2.1))
  min : ∀ m ∈ ms, m.1 ∈ xs ∧ m.2.2 ∈ xs ∧ 97 ≤ m.2.1 ∧ m.2.1 ≤ 100
  ln : ms.length ≤ n
  lm : ∀ m ∈ ms, lim m.1 m.2.1
theorem MvOk.snoc {xs : List Nat} {ms : List Mv} {n : Nat} {lim lim' : Nat → Nat → Prop} (h : MvOk xs ms n lim) (m : Mv) (hm : m.1 ∈ xs ∧ m.2.2 ∈ xs ∧ 97 ≤ m.2.1 ∧ m.2.1 ≤ 100) (h1 : ∀ s c, lim s c → s < m.1 ∨ (s = m.1 ∧ c < m.2.1)) (h2 : ∀ s c, lim s c → lim' s c) (h3 : lim' m.1 m.2.1) : MvOk xs (ms ++ [m]) (n + 1) lim' where
  rise := by
    rw [List.pairwise_append]
    refine ⟨h.rise, List.pairwise_singleton _ _, fun x hx y hy => ?_⟩
    rw [List.mem_singleton.mp hy]
    exact h1 _ _ (h.lm x hx)
  min := fun y hy => by
    rcases List.mem_append.mp hy with hy | hy
    · exact h.min y hy
    · rw [List.mem_singleton.mp hy]
      exact hm
  ln := by
    have := h.ln
    rw [List.length_append, List.length_singleton]
    omega
  lm := fun y hy => by
    rcases List.mem_append.mp hy with hy | hy
    · exact h2 _ _ (h.lm y hy)
    · rw [List.mem_singleton.mp hy]
      exact h3
theorem MvOk.weak {xs : List Nat} {ms : List Mv} {n n' : Nat} {lim lim' : Nat → Nat → Prop} (h : MvOk xs ms n lim) (hn : n ≤ n') (h2 : ∀ s c, lim s c → lim' s c) : MvOk xs ms n' lim' := ⟨h.rise, h.min, Nat.le_trans h.ln hn, fun m hm => h2 _ _ (h.lm m hm)⟩
def limI (x k : Nat) (s c : Nat) : Prop := s < x ∨ (s = x ∧ c < 97 + k)
def limO (xs : List Nat) (i : Nat) (s _c : Nat) : Prop := ∀ j x, i ≤ j → xs[j]? = some x → s < x
theorem pw_get {xs : List Nat} (h : xs.Pairwise (· < ·)) {i j x y : Nat} (hij : i < j) (hi : xs[i]? = some x) (hj : xs[j]? = some y) : x < y := by
  obtain ⟨h1, e1⟩ := List.getElem?_eq_some_iff.mp hi
  obtain ⟨h2, e2⟩ := List.getElem?_eq_some_iff.mp hj
  have := List.pairwise_iff_getElem.mp h i j h1 h2 hij
  rw [e1, e2] at this
  exact this
theorem atI_nats {xs : List Nat} {d : Int} {n : Nat} (hl : xs.length = n) (h0 : 0 ≤ d) (h1 : d < n) : ∃ x : Nat, atI (natsV xs) d = some (.int (x : Int)) ∧ x ∈ xs := by
  obtain ⟨v, hv, hm⟩ := at_draw (xs := natsV xs) (by rw [natsV_len]; exact hl) h0 h1
  obtain ⟨x, hx, rfl⟩ := List.mem_map.mp hm
  exact ⟨x, hv, hx⟩
def spLawSys : Sp := fun vs H Q _ => ∃ (a : Addr) (most : Nat), vs = [.ref a, .int most] ∧ Strm H a ∧ 0 < most ∧ most ≤ 6 ∧ ∀ (p : Addr) (S : Sy) H', Go a H H' → SysAt H' p S → Good S → S.st.length ≤ most → Q (.ref p) H'
section
variable {P : Program} {w : World} {K : PySem.W.Frag} {mg : Str → Option Value} {base : Heap} {tL tM tV : Tok}
abbrev N__law_system : List Str := ["stream", "most", "size", "states", "here", "turn", "letters", "full", "moves", "state", "letter", "dense", "accepting"]
theorem sc__law_system : FnScope ["stream", "most", "size", "states", "here", "turn", "letters", "full", "moves", "state", "letter", "dense", "accepting"] ["stream", "most"] (defScope s__law_system) := ⟨rfl, rfl, rfl, by decide +kernel, rfl, by decide +kernel, by decide +kernel⟩
theorem ok_system {f : Addr} {fd : FuncData} (B : Bt K mg tL tM tV) (Dd : Df K mg "_law_system" s__law_system ["stream", "most"] f fd) (G_law_next : Cl P w K mg base 1 "_law_next" ["stream", "many"] spNext) : FnOk P w K mg base CX0 2 f fd ["stream", "most"] spLawSys := by
  refine Dd.F.ok sc__law_system (fun vs H Q Ex h => ?_) (fun cdv A outer s H vs Q Ex hr h => ?_)
  · obtain ⟨a, most, rfl, _⟩ := h
    rfl
  obtain ⟨a, most, rfl, hS, hm0, hm6, q⟩ := h
  refine ⟨_, (pss_cons (ps_set (i := 2) sc__law_system.nd rfl (Or.inl rfl) (pe_op op_add pe_int (pe_cl G_law_next (hr.mono (by omega)) rfl (pa_cons (pv 0) (pa_cons (pv 1) pa_nil)))))
    (pss_cons (ps_set (i := 3) sc__law_system.nd rfl (Or.inl rfl) (pe_lst pa_nil))
    (pss_cons (ps_set (i := 4) sc__law_system.nd rfl (Or.inl rfl) (pe_cl G_law_next (hr.mono (by omega)) rfl (pa_cons (pv 0) (pa_cons pe_int pa_nil))))
    (pss_cons (ps_for PassesOwn.never rfl (pi_range1 rfl B.b_range (pa_cons (pv 2) pa_nil)) (pg_name (i := 5) sc__law_system.nd rfl (Or.inl rfl)) (pss_cons (ps_expr (pe_bm PySem.F.plainAttrs_list PySem.F.slot_list_append PySem.F.type_list_append mt_append (pv 3) (pa_cons (pv 4) pa_nil)))
    (pss_one (ps_set (i := 4) sc__law_system.nd rfl (Or.inl rfl) (pe_op op_add (pe_op op_add (pv 4) pe_int) (pe_cl G_law_next (hr.mono (by omega)) rfl (pa_cons (pv 0) (pa_cons pe_int pa_nil))))))))
    (pss_cons (ps_set (i := 6) sc__law_system.nd rfl (Or.inl rfl) (pe_ix (r := rIxL K) ix_list (pe_lst (pa_cons pe_str (pa_cons pe_str (pa_cons pe_str (pa_cons pe_str pa_nil))))) (pe_cl G_law_next (hr.mono (by omega)) rfl (pa_cons (pv 0) (pa_cons pe_int pa_nil))) (fun _ _ => rfl)))
    (pss_cons (ps_set (i := 7) sc__law_system.nd rfl (Or.inl rfl) (pe_cl G_law_next (hr.mono (by omega)) rfl (pa_cons (pv 0) (pa_cons pe_int pa_nil))))
    (pss_cons (ps_set (i := 8) sc__law_system.nd rfl (Or.inl rfl) (pe_lst pa_nil))
    (pss_cons (ps_for PassesOwn.never rfl (pi_list (pv 3)) (pg_name (i := 9) sc__law_system.nd rfl (Or.inl rfl)) (pss_one (ps_for PassesOwn.never rfl (pi_str (pv 6)) (pg_name (i := 10) sc__law_system.nd rfl (Or.inl rfl)) (pss_one (ps_if (PW.pt (pw_or (pt_cmpR op_eq (pv 7) pe_int (nomark _)) (pw_or1 (pt_cmpR op_gt (pe_cl G_law_next (hr.mono (by omega)) rfl (pa_cons (pv 0) (pa_cons pe_int pa_nil))) pe_int (nomark _))))) (pss_one (ps_expr (pe_bm PySem.F.plainAttrs_list PySem.F.slot_list_append PySem.F.type_list_append mt_append (pv 8) (pa_cons (pe_tup (pa_cons (pv 9) (pa_cons (pv 10) (pa_cons (pe_ix (r := rIxL K) ix_list (pv 3) (pe_cl G_law_next (hr.mono (by omega)) rfl (pa_cons (pv 0) (pa_cons (pv 2) pa_nil))) (fun _ _ => rfl)) pa_nil)))) pa_nil)))) pss_nil)))))
    (pss_cons (ps_set (i := 11) sc__law_system.nd rfl (Or.inr rfl) (pe_cl G_law_next (hr.mono (by omega)) rfl (pa_cons (pv 0) (pa_cons pe_int pa_nil))))
    (pss_cons (ps_set (i := 12) sc__law_system.nd rfl (Or.inl rfl) (pe_callTy (r := rTupOf K) call_tuple_ofK rfl B.b_tuple boot_tuple (pa_cons (pe_lc (own := [("state", 9)]) (g := gName 9) rfl sc__law_system.nd (pi_list (pv 3)) (blkOk_by (N := N__law_system) (sc := defScope s__law_system) (by decide +kernel)) (fun _ _ _ _ _ => pg_name (i := 9) sc__law_system.nd rfl (Or.inl rfl)) (fun _ _ _ _ _ => pts_one (pt_cmpR op_le (pe_cl G_law_next (hr.mono (by omega)) rfl (pa_cons (pv 0) (pa_cons pe_int pa_nil))) (pv 11) (nomark _))) (fun _ _ _ _ _ => (pv 9))) pa_nil)))
    (pss_one (ps_ret (pe_tup (pa_cons (pe_callTy (r := rTupOf K) call_tuple_ofK rfl B.b_tuple boot_tuple (pa_cons (pv 3) pa_nil)) (pa_cons (pe_callTy (r := rTupOf K) call_tuple_ofK rfl B.b_tuple boot_tuple (pa_cons (pv 8) pa_nil)) (pa_cons (pv 12) pa_nil)))))))))))))))), ?_⟩
  refine ⟨_, rfl, _, rfl, a, most, rfl, hS, by omega, by omega, fun d0 H1 d00 d01 g1 => ?_⟩
  refine ⟨_, _, rfl, rfl, by show 0 ≤ sizeLine; decide, fun L hL => ?_⟩
  have nL := g1.free hL
  have hLa : L ≠ a := (g1.st.ne hL).symm
  have G1 := g1.trans (Go.new (o := .lst []) g1.st hL)
  refine ⟨_, rfl, a, 3, rfl, G1.st, by decide, by decide, fun d1 H2 d10 d11 g2 => ?_⟩
  have hL2 := g2.keep _ _ (upd_same (H := H1) (a := L) (o := .lst [])) hLa
  have G2 := G1.trans g2
  refine ⟨_, rfl, _, rfl, by omega, by omega, for_range (lo := 0) (n := (1 + d0).toNat) (fun i σ' H' => ∃ (xs : List Nat) (here : Nat) (o5 : Option V), σ' = [some (.ref a), some (.int most), some (.int (1 + d0)), some (.ref L), some (.int here), o5, none, none, none, none, none, none, none] ∧ Go a H H' ∧ H' L = some (.lst (natsV xs)) ∧ xs.length = i ∧ xs.Pairwise (· < ·) ∧ (∀ x ∈ xs, x < here) ∧ here ≤ 2 + 2 * i) ?_ ?_ ?_⟩
  · exact ⟨[], d1.toNat, none, by rw [show ((d1.toNat : Nat) : Int) = d1 by omega]; rfl, G2, hL2, rfl, .nil, fun x h => by (cases h), by omega⟩
  · rintro i σ' H3 hi ⟨xs, here, o5, rfl, G3, hL3, hln, hrs, hlt, hhr⟩
    refine ⟨_, rfl, .inl ⟨rfl, _, SqL.of hL3⟩, _, rfl, L, _, _, rfl, rfl, hL3, ?_, ?_⟩
    · rw [natsV_len, hln]
      exact Nat.lt_of_le_of_lt (m := 6) (by omega) (by decide)
    have G4 := G3.loc (o := .lst (natsV xs ++ [V.int (here : Int)])) nL
    refine ⟨_, rfl, _, _, rfl, rfl, _, rfl, a, 2, rfl, G4.st, by decide, by decide, fun d H4 d0' d1' g4 => ⟨_, _, rfl, rfl, ?_⟩⟩
    have hL4 := g4.keep _ _ (upd_same (H := H3) (a := L) (o := .lst (natsV xs ++ [V.int (here : Int)]))) hLa
    rw [natsV_snoc] at hL4
    refine ⟨xs ++ [here], (here + 1 + d.toNat), some (.int (0 + (i : Nat))), ?_, G4.trans g4, hL4, ?_, ?_, ?_, ?_⟩
    · rw [show ((here + 1 + d.toNat : Nat) : Int) = (here : Int) + 1 + d by omega]
      rfl
    · rw [List.length_append, hln]
      rfl
    · rw [List.pairwise_append]
      exact ⟨hrs, List.pairwise_singleton _ _, fun x hx y hy => by rw [List.mem_singleton.mp hy]; exact hlt x hx⟩
    · intro x hx
      rcases List.mem_append.mp hx with hx | hx
      · have := hlt x hx
        omega
      · rw [List.mem_singleton.mp hx]
        omega
    · omega
  · rintro σ' H3 ⟨xs, here, o5, rfl, G3, hL3, hln, hrs, hlt, hhr⟩
    have hx40 : ∀ x ∈ xs, x < 40 := fun x hx => by
      have := hlt x hx
      omega
    refine ⟨by show 4 ≤ sizeLine; decide, fun l hl => ?_⟩
    have u1 := same_upd (o := .lst [V.str (Str.ofString "ab"), V.str (Str.ofString "abc"), V.str (Str.ofString "abcd"), V.str (Str.ofString "a")]) hl
    have hla : l ≠ a := (G3.st.ne hl).symm
    have G4 := G3.trans (Go.same G3.st u1)
    refine ⟨_, rfl, a, 4, rfl, G4.st, by decide, by decide, fun d2 H4 d20 d21 g4 => ?_⟩
    have hl4 := g4.keep _ _ (upd_same (H := H3) (a := l) (o := .lst [V.str (Str.ofString "ab"), V.str (Str.ofString "abc"), V.str (Str.ofString "abcd"), V.str (Str.ofString "a")])) hla
    obtain ⟨zv, hz, hzm⟩ := at_draw (xs := [V.str (Str.ofString "ab"), V.str (Str.ofString "abc"), V.str (Str.ofString "abcd"), V.str (Str.ofString "a")]) (n := 4) rfl d20 d21
    obtain ⟨z, rfl, hzz⟩ : ∃ z, zv = .str z ∧ LetZ z := by
      simp only [List.mem_cons, List.not_mem_nil, or_false] at hzm
      rcases hzm with rfl | rfl | rfl | rfl <;> exact ⟨_, rfl, letz_by (by decide +kernel)⟩
    refine ⟨l, _, _, _, rfl, rfl, SqL.of hl4, hz, ?_⟩
    have G5 := G4.trans g4
    refine ⟨_, rfl, a, 3, rfl, G5.st, by decide, by decide, fun d3 H5 d30 d31 g5 => ?_⟩
    have G6 := G5.trans g5
    have hL6 : H5 L = some (.lst (natsV xs)) := g5.keep _ _ (g4.keep _ _ (u1 _ _ hL3) hLa) hLa
    refine ⟨by show 0 ≤ sizeLine; decide, fun M hM => ?_⟩
    have nM := G6.free hM
    have hMa : M ≠ a := (G6.st.ne hM).symm
    have hML : M ≠ L := fun e => by rw [e, hL6] at hM; cases hM
    have G7 := G6.trans (Go.new (o := .lst []) G6.st hM)
    have lkeep : ∀ H', Go a H H' → True := fun _ _ => trivial
    refine ⟨_, rfl, L, rfl, ⟨_, SqL.of (same_upd hM _ _ hL6)⟩, for_list (K := K) (a := L) (xs := natsV xs) (fun i σ' H' => ∃ (ms : List Mv) (ts : List V) (o9 o10 : Option V), σ' = [some (.ref a), some (.int most), some (.int (1 + d0)), some (.ref L), some (.int here), o5, some (.str z), some (.int d3), some (.ref M), o9, o10, none, none] ∧ Go a H H' ∧ H' L = some (.lst (natsV xs)) ∧ H' M = some (.lst ts) ∧ Two (MoveAt H') ts ms ∧ MvOk xs ms (4 * i) (limO xs i)) ?_ ?_ ?_ ?_⟩
    · exact ⟨[], [], none, none, rfl, G7, same_upd hM _ _ hL6, upd_same, .nil, .nil, fun m h => by (cases h), Nat.zero_le _, fun m h => by (cases h)⟩
    · rintro i σ' H' _ ⟨ms, ts, o9, o10, rfl, _, h, _⟩
      exact SqL.of h
    · rintro i v σ' H7 hv ⟨ms, ts, o9, o10, rfl, G8, h1, h2, two, ok⟩
      obtain ⟨x, hx, rfl⟩ := natsV_getB hv
      refine ⟨_, rfl, z, rfl, for_strB (z := z) (fun k σ' H' => ∃ (ms : List Mv) (ts : List V) (o10 : Option V), σ' = [some (.ref a), some (.int most), some (.int (1 + d0)), some (.ref L), some (.int here), o5, some (.str z), some (.int d3), some (.ref M), some (.int (x : Int)), o10, none, none] ∧ Go a H H' ∧ H' L = some (.lst (natsV xs)) ∧ H' M = some (.lst ts) ∧ Two (MoveAt H') ts ms ∧ MvOk xs ms (4 * i + k) (limI x k)) ?_ ?_ ?_⟩
      · exact ⟨ms, ts, o10, rfl, G8, h1, h2, two, ok.weak (Nat.le_refl _) fun s c h => .inl (h i x (Nat.le_refl _) hx)⟩
      · rintro k c σ' H8 hc ⟨ms, ts, o10, rfl, G8, h1, h2, two, ok⟩
        have ec := hzz.2 k c hc
        have hk : k < z.cps.size := (Array.getElem?_eq_some_iff.mp hc).1
        have hk4 := hzz.1
        have hxs := List.mem_of_getElem? hx
        have hil : i < xs.length := (List.getElem?_eq_some_iff.mp hx).1
        have fin : ∀ (H9 H10 : Hp) (y : Nat) (T : Addr) (w : Option V), Go a H8 H9 → y ∈ xs → H9 T = none → H10 = upd H9 T (.tup [.int (x : Int), .str ⟨#[c]⟩, .int (y : Int)]) → H10 M = some (.lst ts) ∧ ts.length < sizeLine ∧ ∃ (ms' : List Mv) (ts' : List V) (o10 : Option V), [some (.ref a), some (.int most), some (.int (1 + d0)), some (.ref L), some (.int here), o5, some (.str z), some (.int d3), some (.ref M), some (.int (x : Int)), w, none, none] = [some (.ref a), some (.int most), some (.int (1 + d0)), some (.ref L), some (.int here), o5, some (.str z), some (.int d3), some (.ref M), some (.int (x : Int)), o10, none, none] ∧ Go a H (upd H10 M (.lst (ts ++ [.ref T]))) ∧ (upd H10 M (.lst (ts ++ [.ref T]))) L = some (.lst (natsV xs)) ∧ (upd H10 M (.lst (ts ++ [.ref T]))) M = some (.lst ts') ∧ Two (MoveAt (upd H10 M (.lst (ts ++ [.ref T])))) ts' ms' ∧ MvOk xs ms' (4 * i + (k + 1)) (limI x (k + 1)) := fun H9 H10 y T w g9 hy hT e10 => by
          subst e10
          have sT := same_upd (o := .tup [.int (x : Int), .str ⟨#[c]⟩, .int (y : Int)]) hT
          have m9 := g9.keep _ _ h2 hMa
          have hTM : T ≠ M := fun e => by rw [e, m9] at hT; cases hT
          refine ⟨sT _ _ m9, ?_, ms ++ [(x, c, y)], ts ++ [.ref T], w, rfl, ((G8.trans g9).trans (Go.new g9.st hT)).loc nM, ?_, upd_same, ?_, ?_⟩
          · rw [two.len]
            exact Nat.lt_of_le_of_lt (m := 1000) (by have := ok.ln; omega) (by decide)
          · rw [upd_ne hML.symm]
            exact sT _ _ (g9.keep _ _ h1 hLa)
          · refine (two.mono fun v m hv => ?_).app (.cons ⟨T, rfl, ?_⟩ .nil)
            · obtain ⟨t, e, h⟩ := hv.pers g9.pers
              exact ⟨t, e, by rw [upd_ne fun e => by rw [e, m9] at h; cases h]; exact sT _ _ h⟩
            · rw [upd_ne hTM]
              exact upd_same
          · refine ok.snoc (x, c, y) ⟨hxs, hy, by show 97 ≤ c; omega, by show c ≤ 100; omega⟩ (fun s c' h => ?_) (fun s c' h => ?_) ?_
            · rcases h with h | ⟨h, h'⟩
              · exact .inl h
              · exact .inr ⟨h, by show c' < c; omega⟩
            · rcases h with h | ⟨h, h'⟩
              · exact .inl h
              · exact .inr ⟨h, by omega⟩
            · exact .inr ⟨rfl, by show c < _; omega⟩
        have h2a := h2
        refine ⟨_, rfl, rfl, _, rfl, ite2 (fun c1 => iteT ?_) (fun c1 => ?_)⟩
        · refine ⟨_, rfl, .inl ⟨rfl, _, SqL.of h2⟩, _, rfl, _, rfl, _, rfl, _, rfl, _, rfl, a, 1 + d0, rfl, G8.st, by omega, by omega, fun d H9 d0' d1' g9 => ?_⟩
          obtain ⟨y, hy, hym⟩ := atI_nats (n := xs.length) rfl d0' (by omega)
          refine ⟨L, _, _, _, rfl, rfl, SqL.of (g9.keep _ _ h1 hLa), hy, by show 3 ≤ sizeLine; decide, fun T hT => ?_⟩
          obtain ⟨f1, f2, f3⟩ := fin H9 _ y T (some (.str ⟨#[c]⟩)) g9 hym hT rfl
          exact ⟨M, ts, _, rfl, rfl, f1, f2, f3⟩
        · refine ⟨_, rfl, a, 3, rfl, G8.st, by decide, by decide, fun d' H9 _ _ g9 => ⟨_, _, rfl, rfl, _, rfl, ite2 (fun c2 => ?_) (fun c2 => ?_)⟩⟩
          · refine ⟨_, rfl, .inl ⟨rfl, _, SqL.of (g9.keep _ _ h2 hMa)⟩, _, rfl, _, rfl, _, rfl, _, rfl, _, rfl, a, 1 + d0, rfl, g9.st, by omega, by omega, fun d H10 d0' d1' g10 => ?_⟩
            obtain ⟨y, hy, hym⟩ := atI_nats (n := xs.length) rfl d0' (by omega)
            refine ⟨L, _, _, _, rfl, rfl, SqL.of (g10.keep _ _ (g9.keep _ _ h1 hLa) hLa), hy, by show 3 ≤ sizeLine; decide, fun T hT => ?_⟩
            obtain ⟨f1, f2, f3⟩ := fin H10 _ y T (some (.str ⟨#[c]⟩)) (g9.trans g10) hym hT rfl
            exact ⟨M, ts, _, rfl, rfl, f1, f2, f3⟩
          · refine ⟨ms, ts, _, rfl, G8.trans g9, g9.keep _ _ h1 hLa, g9.keep _ _ h2 hMa, two.mono fun v m hv => hv.pers g9.pers, ok.weak (by omega) fun s c' h => ?_⟩
            rcases h with h | ⟨h, h'⟩
            · exact .inl h
            · exact .inr ⟨h, by omega⟩
      · rintro σ' H8 ⟨ms, ts, o10, rfl, G8, h1, h2, two, ok⟩
        refine ⟨ms, ts, _, _, rfl, G8, h1, h2, two, ok.weak (by have := hzz.1; omega) fun s c h j y hj hy => ?_⟩
        have := pw_get hrs (Nat.lt_of_succ_le hj) hx hy
        rcases h with h | ⟨h, _⟩ <;> omega
    · rintro σ' H7 ⟨ms, ts, o9, o10, rfl, G8, h1, h2, two, ok⟩
      rw [natsV_len] at ok
      refine ⟨_, rfl, a, 3, rfl, G8.st, by decide, by decide, fun d4 H8 d40 d41 g8 => ?_⟩
      have G9 := G8.trans g8
      have h1a := g8.keep _ _ h1 hLa
      have h2a := g8.keep _ _ h2 hMa
      have two2 := two.mono fun v m (hv : MoveAt H7 v m) => hv.pers g8.pers
      refine ⟨_, rfl, L, rfl, ⟨_, SqL.of h1a⟩, fun R hR => ?_⟩
      have nR := G9.free hR
      have hRa : R ≠ a := (G9.st.ne hR).symm
      have hRL : R ≠ L := fun e => by rw [e, h1a] at hR; cases hR
      refine lc_list (K := K) (a := L) (xs := natsV xs) (fun i H' => Go a H8 H' ∧ ∃ ys : List Nat, H' R = some (.lst (natsV ys)) ∧ ys.Pairwise (· < ·) ∧ (∀ y ∈ ys, y ∈ xs) ∧ ∀ y ∈ ys, limO xs i y 0) ⟨Go.new G9.st hR, [], upd_same, .nil, fun y h => by (cases h), fun y h => by (cases h)⟩ (fun i H' _ h => SqL.of (h.1.keep _ _ h1a hLa)) (fun i v H' hv h => ?_) (fun H' h => ?_)
      · obtain ⟨x, hx, rfl⟩ := natsV_getB hv
        obtain ⟨g10, ys, hys, r1, r2, r3⟩ := h
        have hil : i < xs.length := (List.getElem?_eq_some_iff.mp hx).1
        refine ⟨rfl, _, rfl, a, 3, rfl, g10.st, by decide, by decide, fun d H11 _ _ g11 => ⟨_, rfl, _, _, rfl, rfl, _, rfl, ite2 (fun c2 => ?_) (fun c2 => ?_)⟩⟩
        · have yl := rise_short ys 0 40 r1 fun y hy => ⟨Nat.zero_le _, hx40 y (r2 y hy)⟩
          refine ⟨_, rfl, natsV ys, g11.keep _ _ hys hRa, ?_, (g10.trans g11).loc hR, ys ++ [x], by rw [upd_same, natsV_snoc], ?_, ?_, ?_⟩
          · rw [natsV_len]
            exact Nat.lt_of_le_of_lt (m := 40) yl (by decide)
          · rw [List.pairwise_append]
            exact ⟨r1, List.pairwise_singleton _ _, fun y hy z hz => by rw [List.mem_singleton.mp hz]; exact r3 y hy i x (Nat.le_refl _) hx⟩
          · intro y hy
            rcases List.mem_append.mp hy with hy | hy
            · exact r2 y hy
            · rw [List.mem_singleton.mp hy]
              exact List.mem_of_getElem? hx
          · intro y hy j z hj hz
            rcases List.mem_append.mp hy with hy | hy
            · exact r3 y hy j z (Nat.le_of_succ_le hj) hz
            · rw [List.mem_singleton.mp hy]
              exact pw_get hrs (Nat.lt_of_succ_le hj) hx hz
        · exact ⟨g10.trans g11, ys, g11.keep _ _ hys hRa, r1, r2, fun y hy j z hj hz => r3 y hy j z (Nat.le_of_succ_le hj) hz⟩
      · obtain ⟨g10, ys, hys, r1, r2, r3⟩ := h
        refine ⟨R, _, rfl, .inl ⟨SqL.of hys, fun t3 ht3 => ?_⟩⟩
        have u3 := same_upd (o := .tup (natsV ys)) ht3
        refine ⟨_, rfl, L, _, rfl, .inl ⟨SqL.of (u3 _ _ (g10.keep _ _ h1a hLa)), fun t1 ht1 => ?_⟩⟩
        have u4 := same_upd (o := .tup (natsV xs)) ht1
        refine ⟨_, rfl, M, _, rfl, .inl ⟨SqL.of (u4 _ _ (u3 _ _ (g10.keep _ _ h2a hMa))), fun t2 ht2 => ?_⟩⟩
        have u5 := same_upd (o := .tup ts) ht2
        refine ⟨_, rfl, by show 3 ≤ sizeLine; decide, fun p hp => ?_⟩
        have u6 := same_upd (o := .tup [.ref t1, .ref t2, .ref t3]) hp
        have U := u3.trans (u4.trans (u5.trans u6))
        have two3 := (two2.mono fun v m (hv : MoveAt H8 v m) => hv.pers g10.pers).mono fun v m (hv : MoveAt H' v m) => hv.same U
        refine q p ⟨xs, ms, ys⟩ _ ((G9.trans g10).trans (Go.same g10.st U)) ⟨t1, t2, t3, ts, upd_same, u6 _ _ (u5 _ _ upd_same), u6 _ _ upd_same, two3, u6 _ _ (u5 _ _ (u4 _ _ upd_same))⟩ ⟨?_, hrs, hx40, ok.rise, ok.min, ?_, r1, r2⟩ ?_
        · intro e
          have : xs.length = 0 := by rw [show xs = [] from e]; rfl
          omega
        · have := ok.ln
          show ms.length ≤ 1000
          omega
        · show xs.length ≤ most
          omega
end
end My
namespace My
open PySem PySem.Spec PyProof.Rows L2
def rInDT (K : PySem.W.Frag) : R2 := fun x y H Q => ∃ d ds, Dp K H x d ∧ Dp K H y (.tuple ds) ∧ SeqAt.shaped d = true ∧ SeqAt.shaped (.tuple ds) = true ∧ Q (.bl (ds.any fun z => PyData.eqv z d)) H
def rNotInDT (K : PySem.W.Frag) : R2 := fun x y H Q => ∃ d ds, Dp K H x d ∧ Dp K H y (.tuple ds) ∧ SeqAt.shaped d = true ∧ SeqAt.shaped (.tuple ds) = true ∧ Q (.bl (!ds.any fun z => PyData.eqv z d)) H
theorem op_inDT {X : Cx} (hu : X.A.units + 65 < cLine) : OpR X (compareOp .In) (rInDT X.K) := by
  intro pins s σ H x y v u Q I rx ry h
  obtain ⟨d, ds, hd, he, sd, se, q⟩ := h
  obtain ⟨as, r1⟩ := Dp.reads I d x v hd rx
  obtain ⟨bs, r2⟩ := Dp.reads I (.tuple ds) y u he ry
  exact SeqAt.in_tuple_reads r2 r1 (SeqAt.canLay_of_shaped se) (SeqAt.canLay_of_shaped sd) (room_in_shaped sd hu) ⟨.bl _, H, I, rfl, q⟩
theorem op_notInDT {X : Cx} (hu : X.A.units + 65 < cLine) : OpR X (compareOp .NotIn) (rNotInDT X.K) := by
  intro pins s σ H x y v u Q I rx ry h
  obtain ⟨d, ds, hd, he, sd, se, q⟩ := h
  obtain ⟨as, r1⟩ := Dp.reads I d x v hd rx
  obtain ⟨bs, r2⟩ := Dp.reads I (.tuple ds) y u he ry
  exact SeqAt.notIn_tuple_reads r2 r1 (SeqAt.canLay_of_shaped se) (SeqAt.canLay_of_shaped sd) (room_in_shaped sd hu) ⟨.bl _, H, I, rfl, q⟩
theorem op_inDTB {X : Cx} {K : PySem.W.Frag} (hK : X.K = K) (hu : X.A.units + 65 < cLine) : OpR X (compareOp .In) (rInDT K) := by
  subst hK
  exact op_inDT hu
theorem op_notInDTB {X : Cx} {K : PySem.W.Frag} (hK : X.K = K) (hu : X.A.units + 65 < cLine) : OpR X (compareOp .NotIn) (rNotInDT K) := by
  subst hK
  exact op_notInDT hu
theorem u65 {k : Nat} {A : Around} (h : Room k A) : A.units + 65 < cLine := by
  have := h.un
  omega
/-! ### the number of an orbit -/
theorem orb_eq {S : Sy} {s t : Nat} (h1 : Rch S s t) (h2 : Rch S t s) : orbL S s = orbL S t := by
  unfold orbL
  refine List.filter_congr fun o _ => ?_
  have : (Rch S s o ∧ Rch S o s) ↔ (Rch S t o ∧ Rch S o t) := ⟨fun h => ⟨h2.trans h.1, h.2.trans h1⟩, fun h => ⟨h1.trans h.1, h.2.trans h2⟩⟩
  rw [this]
def headsL (S : Sy) (f : Nat → List Nat) : List Nat := S.st.filter fun s => decide ((f s).head? = some s)
theorem orbs_get {S : Sy} {i : Nat} {r : List Nat} (h : (orbsL S)[i]? = some r) : ∃ x, (headsL S (orbL S))[i]? = some x ∧ r = orbL S x ∧ (orbL S x).head? = some x ∧ x ∈ S.st := by
  unfold orbsL at h
  rw [List.getElem?_map] at h
  obtain ⟨x, hx, rfl⟩ := Option.map_eq_some_iff.mp h
  have := List.mem_filter.mp (List.mem_of_getElem? hx)
  exact ⟨x, hx, rfl, of_decide_eq_true this.2, this.1⟩
theorem orbs_one {S : Sy} (G : Good S) {i j s : Nat} {r r' : List Nat} (h : (orbsL S)[i]? = some r) (h' : (orbsL S)[j]? = some r') (hs : s ∈ r) (hs' : s ∈ r') : i = j := by
  obtain ⟨x, hx, rfl, ex, _⟩ := orbs_get h
  obtain ⟨y, hy, rfl, ey, _⟩ := orbs_get h'
  have a := (mem_orb.mp hs).2
  have b := (mem_orb.mp hs').2
  have e := orb_eq (a.1.trans b.2) (b.1.trans a.2)
  rw [e, ey] at ex
  have exy := Option.some.inj ex
  subst exy
  have nd : (headsL S (orbL S)).Pairwise (· < ·) := G.rise.sublist List.filter_sublist
  rcases Nat.lt_trichotomy i j with c | c | c
  · have := List.pairwise_iff_getElem.mp nd i j (List.getElem?_eq_some_iff.mp hx).1 (List.getElem?_eq_some_iff.mp hy).1 c
    rw [(List.getElem?_eq_some_iff.mp hx).2, (List.getElem?_eq_some_iff.mp hy).2] at this
    omega
  · exact c
  · have := List.pairwise_iff_getElem.mp nd j i (List.getElem?_eq_some_iff.mp hy).1 (List.getElem?_eq_some_iff.mp hx).1 c
    rw [(List.getElem?_eq_some_iff.mp hx).2, (List.getElem?_eq_some_iff.mp hy).2] at this
    omega
theorem orbs_mem {S : Sy} {s : Nat} (h : s ∈ S.st) : ∃ (i : Nat) (r : List Nat), (orbsL S)[i]? = some r ∧ s ∈ r := by
  obtain ⟨z, hz⟩ : ∃ z, (orbL S s).head? = some z := by
    have := orb_self h
    cases e : orbL S s with
    | nil => rw [e] at this; cases this
    | cons z l => exact ⟨z, rfl⟩
  have hzm : z ∈ orbL S s := List.mem_of_head? hz
  obtain ⟨h1, h2, h3⟩ := mem_orb.mp hzm
  have e := orb_eq h2 h3
  have : orbL S z ∈ orbsL S := List.mem_map.mpr ⟨z, List.mem_filter.mpr ⟨h1, decide_eq_true (by rw [← e]; exact hz)⟩, rfl⟩
  obtain ⟨i, hi⟩ := List.getElem?_of_mem this
  exact ⟨i, _, hi, by rw [← e]; exact orb_self h⟩
noncomputable def numOf (S : Sy) (s : Nat) : Nat := (orbsL S).findIdx fun r => decide (s ∈ r)
theorem num_row {S : Sy} {s : Nat} (h : s ∈ S.st) : ∃ r, (orbsL S)[numOf S s]? = some r ∧ s ∈ r := by
  obtain ⟨i, r, hi, hr⟩ := orbs_mem h
  have hlt : numOf S s < (orbsL S).length := List.findIdx_lt_length_of_exists ⟨r, List.mem_of_getElem? hi, decide_eq_true hr⟩
  exact ⟨_, List.getElem?_eq_getElem hlt, of_decide_eq_true (List.findIdx_getElem (w := hlt))⟩
theorem num_of {S : Sy} (G : Good S) {i s : Nat} {r : List Nat} (h : (orbsL S)[i]? = some r) (hs : s ∈ r) : numOf S s = i := by
  obtain ⟨x, _, e, _, _⟩ := orbs_get h
  have : s ∈ S.st := by
    rw [e] at hs
    exact (mem_orb.mp hs).1
  obtain ⟨r', h', hs'⟩ := num_row this
  exact orbs_one G h' h hs' hs
theorem num_iff {S : Sy} (G : Good S) {s t : Nat} (hs : s ∈ S.st) (ht : t ∈ S.st) : numOf S s = numOf S t ↔ (Rch S s t ∧ Rch S t s) := by
  constructor
  · intro e
    obtain ⟨r, h1, h2⟩ := num_row hs
    obtain ⟨r', h1', h2'⟩ := num_row ht
    rw [← e, h1] at h1'
    cases h1'
    obtain ⟨x, _, e, _, _⟩ := orbs_get h1
    rw [e] at h2 h2'
    have a := (mem_orb.mp h2).2
    have b := (mem_orb.mp h2').2
    exact ⟨a.2.trans b.1, b.2.trans a.1⟩
  · rintro ⟨a, b⟩
    obtain ⟨r, h1, h2⟩ := num_row ht
    refine num_of G h1 ?_
    obtain ⟨x, _, e, _, _⟩ := orbs_get h1
    rw [e] at h2 ⊢
    have c := (mem_orb.mp h2).2
    exact mem_orb.mpr ⟨hs, c.1.trans b, a.trans c.2⟩
theorem orbs_len {S : Sy} (G : Good S) : (orbsL S).length ≤ 40 := by
  unfold orbsL
  rw [List.length_map]
  exact Nat.le_trans (List.length_filter_le _ _) G.len
/-- numbers by state -/
def NumAt (H : Hp) (D : Addr) (S : Sy) : Prop := ∃ kvs : List (L2.Key × V), H D = some (.dK kvs) ∧ ∀ s ∈ S.st, valV kvs (Sum.inl (s : Int)) = some (.int (numOf S s : Nat))
theorem NumAt.get {H : Hp} {D : Addr} {S : Sy} (h : NumAt H D S) {s : Nat} (hs : s ∈ S.st) : DGet H D (V.int (s : Int)) (some (.int (numOf S s : Nat))) := by
  obtain ⟨kvs, h1, h2⟩ := h
  have := DGet.k (k := Sum.inl (s : Int)) h1
  rw [h2 s hs] at this
  exact this
theorem NumAt.keep {a : Addr} {H H' : Hp} {D : Addr} {S : Sy} (k : Keep a H H') (n : D ≠ a) (h : NumAt H D S) : NumAt H' D S := by
  obtain ⟨kvs, h1, h2⟩ := h
  exact ⟨kvs, k _ _ h1 n, h2⟩
def exD (x : Nat × Nat) : PyData := .tuple [.str ⟨#[x.1]⟩, .int (x.2 : Int)]
theorem one_ok {c : Nat} (h : c ≤ 100) : PyData.strOk ⟨#[c]⟩ = true := by
  simp [PyData.strOk]
  omega
theorem exD_lay {x : Nat × Nat} (h : x.1 ≤ 100) : (exD x).canLay0 = true := by
  simp [exD, PyData.canLay0, PyData.canLayAll0, one_ok h]
theorem exD_dep (x : Nat × Nat) : (exD x).depth = 1 := by simp [exD, PyData.depth, PyData.depthAll]
theorem exD_shaped {x : Nat × Nat} (h : x.1 ≤ 100) : SeqAt.shaped (exD x) = true := by
  show ((exD x).canLay0 && decide ((exD x).depth ≤ 64)) = true
  rw [exD_lay h, exD_dep]
  rfl
theorem exDs_lay : ∀ xs : List (Nat × Nat), (∀ x ∈ xs, x.1 ≤ 100) → PyData.canLayAll0 (xs.map exD) = true
  | [], _ => by simp [PyData.canLayAll0]
  | x :: xs, h => by
    have h1 := exDs_lay xs fun y hy => h y (List.mem_cons_of_mem _ hy)
    have h2 := exD_lay (h x (List.mem_cons_self ..))
    show PyData.canLayAll0 (exD x :: xs.map exD) = true
    simp [PyData.canLayAll0, h1, h2]
theorem exDs_dep : ∀ xs : List (Nat × Nat), PyData.depthAll (xs.map exD) ≤ 1
  | [] => by simp [PyData.depthAll]
  | x :: xs => by
    have h := exDs_dep xs
    have h2 := exD_dep x
    simp only [List.map_cons, PyData.depthAll]
    omega
theorem exDs_shaped {xs : List (Nat × Nat)} (h : ∀ x ∈ xs, x.1 ≤ 100) : SeqAt.shaped (.tuple (xs.map exD)) = true := by
  have h1 := exDs_dep xs
  have h2 : PyData.depth (.tuple (xs.map exD)) ≤ 64 := by
    simp only [PyData.depth]
    omega
  show (PyData.canLay0 (.tuple (xs.map exD)) && decide (PyData.depth (.tuple (xs.map exD)) ≤ 64)) = true
  rw [Bool.and_eq_true]
  exact ⟨by simp only [PyData.canLay0]; exact exDs_lay xs h, decide_eq_true h2⟩
theorem exits_le {S : Sy} (G : Good S) {orb : List Nat} {s : Nat} : ∀ x ∈ exitsL S orb s, x.1 ≤ 100 := fun x h => by
  obtain ⟨m, hm, rfl⟩ := List.mem_map.mp h
  exact (G.min m (List.mem_filter.mp hm).1).2.2.2
theorem exD_eqv (x y : Nat × Nat) : PyData.eqv (exD x) (exD y) = decide (x = y) := by
  obtain ⟨a, b⟩ := x
  obtain ⟨c, d⟩ := y
  have e : PyData.eqv (exD (a, b)) (exD (c, d)) = (((⟨#[a]⟩ : Str) == ⟨#[c]⟩) && (((b : Int) == (d : Int)) && true)) := by simp only [exD, PyData.eqv, PyData.eqvAll]
  rw [e, Bool.eq_iff_iff, decide_eq_true_eq, Bool.and_eq_true, Bool.and_true, beq_iff_eq, beq_iff_eq]
  constructor
  · rintro ⟨h1, h2⟩
    have e1 : a = c := (List.cons.inj (congrArg (fun s : Str => s.cps.toList) h1)).1
    have e2 : b = d := by omega
    rw [e1, e2]
  · intro h
    cases h
    exact ⟨rfl, rfl⟩
theorem ex_any (x : Nat × Nat) (xs : List (Nat × Nat)) : ((xs.map exD).any fun z => PyData.eqv z (exD x)) = decide (x ∈ xs) := by
  rw [Bool.eq_iff_iff, decide_eq_true_eq, List.any_eq_true]
  constructor
  · rintro ⟨z, hz, h⟩
    obtain ⟨y, hy, rfl⟩ := List.mem_map.mp hz
    rw [exD_eqv, decide_eq_true_eq] at h
    rw [← h]
    exact hy
  · exact fun h => ⟨_, List.mem_map_of_mem h, by rw [exD_eqv]; exact decide_eq_true rfl⟩
theorem mem_exits {S : Sy} {orb : List Nat} {s c t : Nat} (h : (s, c, t) ∈ S.mv) (ho : t ∉ orb) : (c, t) ∈ exitsL S orb s := List.mem_map.mpr ⟨(s, c, t), List.mem_filter.mpr ⟨h, decide_eq_true ⟨rfl, ho⟩⟩, rfl⟩
theorem not_exits {S : Sy} {orb : List Nat} {s c t : Nat} (ho : t ∈ orb) : (c, t) ∉ exitsL S orb s := fun h => by
  obtain ⟨m, hm, e⟩ := List.mem_map.mp h
  have := of_decide_eq_true (List.mem_filter.mp hm).2
  cases e
  exact this.2 ho
section
variable {P : Program} {w : World} {K : PySem.W.Frag} {mg : Str → Option Value} {base : Heap} {tL tM tV : Tok}
theorem dp_ex {H : Hp} {v : V} {x : Nat × Nat} (h : ExitAt H v x) : Dp K H v (exD x) := by
  obtain ⟨t, rfl, h⟩ := h
  exact .tup (SqT.of h) (.cons (.str _) (.cons (.int _) .nil))
theorem dp_exs {H : Hp} {t : Addr} {xs : List (Nat × Nat)} (h : ExitsAt H t xs) : Dp K H (.ref t) (.tuple (xs.map exD)) := by
  obtain ⟨ts, h1, h2⟩ := h
  refine .tup (SqT.of h1) ?_
  clear h1
  induction h2 with
  | nil => exact .nil
  | cons h _ ih => exact .cons (dp_ex h) ih
end
end My
namespace My
open PySem PySem.Spec PyProof.Rows L2
def spEqual (n : Nat) : Sp := fun vs H Q _ => ∃ (x y : V) (j : J) (k : Nat), vs = [x, y] ∧ k < n ∧ RepJ H x j k ∧ RepJ H y j k ∧ ∀ H', Same H H' → Q (.bl true) H'
section
variable {P : Program} {w : World} {K : PySem.W.Frag} {mg : Str → Option Value} {base : Heap} {tL tM tV : Tok}
theorem sum_cast (es : List E) (f : E → Nat) : (es.map fun k => ((f k : Nat) : Int)).sum = (((es.map f).sum : Nat) : Int) := by
  induction es with
  | nil => rfl
  | cons e es ih =>
    rw [List.map_cons, List.sum_cons, List.map_cons, List.sum_cons, ih]
    omega
/-! ### the law's own comparison, of equal data -/
def SeqV (K : PySem.W.Frag) (H : Hp) (p : Addr) (xs : List V) : Prop := SqL K H p xs ∨ SqT K H p xs
theorem SeqV.len {K : PySem.W.Frag} {H : Hp} {p : Addr} {xs : List V} (h : SeqV K H p xs) {n : Nat} (e : n = xs.length) : LenV K (.ref p) H n := by
  rcases h with h | h
  · exact .inl ⟨xs, h, e⟩
  · exact .inr ⟨xs, h, e⟩
theorem SeqV.ix {K : PySem.W.Frag} {H : Hp} {p : Addr} {xs : List V} (h : SeqV K H p xs) {i : Int} {v : V} {Q : VK} (hi : atI xs i = some v) (q : Q v H) : rIx K (.ref p) (.int i) H Q := by
  rcases h with h | h
  · exact .inl ⟨p, xs, i, v, rfl, rfl, h, hi, q⟩
  · exact .inr (.inl ⟨p, xs, i, v, rfl, rfl, h, hi, q⟩)
theorem SeqV.same {K : PySem.W.Frag} {H H' : Hp} {p : Addr} {xs : List V} (s : Same H H') (h : SeqV K H p xs) : SeqV K H' p xs := by
  rcases h with h | h
  · exact .inl (s.seq h)
  · rcases h with (h | ⟨o, h⟩) | h
    · exact .inr (.inl (.inl (s _ _ h)))
    · exact .inr (.inl (.inr ⟨o, s _ _ h⟩))
    · exact .inr (.inr h)
theorem RepJ.both {K : PySem.W.Frag} {H : Hp} {x y : V} {j : J} {k : Nat} (hx : RepJ H x j k) (hy : RepJ H y j k) : (x = .non ∧ y = .non) ∨ (∃ b, x = .bl b ∧ y = .bl b) ∨ (∃ i, x = .int i ∧ y = .int i) ∨ (∃ z, x = .str z ∧ y = .str z) ∨
    ∃ (isT : Bool) (p q : Addr) (xs ys : List V) (js : List J) (k' : Nat), k = k' + 1 ∧ x = .ref p ∧ y = .ref q ∧ TyX K H x (.type (if isT then "tuple" else "list")) ∧ TyX K H y (.type (if isT then "tuple" else "list")) ∧ SeqV K H p xs ∧ SeqV K H q ys ∧ xs.length ≤ 100000 ∧ xs.length = js.length ∧ ys.length = js.length ∧
      (∀ (i : Nat) (x : V) (j : J), xs[i]? = some x → js[i]? = some j → RepJ H x j k') ∧ (∀ (i : Nat) (x : V) (j : J), ys[i]? = some x → js[i]? = some j → RepJ H x j k') := by
  cases hx with
  | non => cases hy; exact .inl ⟨rfl, rfl⟩
  | bl b => cases hy; exact .inr (.inl ⟨b, rfl, rfl⟩)
  | int i => cases hy; exact .inr (.inr (.inl ⟨i, rfl, rfl⟩))
  | str z => cases hy; exact .inr (.inr (.inr (.inl ⟨z, rfl, rfl⟩)))
  | @tup n p xs js h z l r =>
    cases hy with
    | @tup _ q ys _ h' z' l' r' => exact .inr (.inr (.inr (.inr ⟨true, p, q, xs, ys, js, n, rfl, rfl, rfl, .base (.tup h), .base (.tup h'), .inr (SqT.of h), .inr (SqT.of h'), z, l, l', r, r'⟩)))
  | @lst n p xs js h z l r =>
    cases hy with
    | @lst _ q ys _ h' z' l' r' => exact .inr (.inr (.inr (.inr ⟨false, p, q, xs, ys, js, n, rfl, rfl, rfl, .base (.lst h), .base (.lst h'), .inl (SqL.of h), .inl (SqL.of h'), z, l, l', r, r'⟩)))
def spIsInt : Sp := fun vs H Q _ => ∃ i : Int, vs = [.int i] ∧ Q (.bl true) H
abbrev N__law_is_integer : List Str := ["actual"]
theorem sc__law_is_integer : FnScope ["actual"] ["actual"] (defScope s__law_is_integer) := ⟨rfl, rfl, rfl, by decide +kernel, rfl, by decide +kernel, by decide +kernel⟩
theorem ok_isint {f : Addr} {fd : FuncData} (B : Bt K mg tL tM tV) (Dd : Df K mg "_law_is_integer" s__law_is_integer ["actual"] f fd) : FnOk P w K mg base CX0 1 f fd ["actual"] spIsInt := by
  refine Dd.F.ok sc__law_is_integer (fun vs H Q Ex h => ?_) (fun cdv A outer s H vs Q Ex hr h => ?_)
  · obtain ⟨i, rfl, _⟩ := h
    rfl
  obtain ⟨i, rfl, q⟩ := h
  refine ⟨_, (pss_one (ps_ret (pe_and (pe_callB call_isi rfl B.b_isinstance boot_isinstance (pa_cons (pv 0) (pa_cons (pe_bltn (v := .ty "int") rfl B.b_int boot_int rfl) pa_nil))) (pe_one (pe_not (pe_callB call_isi rfl B.b_isinstance boot_isinstance (pa_cons (pv 0) (pa_cons (pe_bltn (v := .ty "bool") rfl B.b_bool boot_bool rfl) pa_nil)))))))), ?_⟩
  have T : TyX K H (.int i) (.type "int") := .base (.int i)
  exact ⟨_, rfl, _, _, _, _, _, rfl, .ty _, T, kit_ty (r := true) (by decide +kernel), _, rfl, iteT ⟨_, rfl, _, _, _, _, _, rfl, .ty _, T, kit_ty (r := false) (by decide +kernel), _, rfl, q⟩⟩
abbrev N__law_equal : List Str := ["actual", "due", "at"]
theorem sc__law_equal : FnScope ["actual", "due", "at"] ["actual", "due"] (defScope s__law_equal) := ⟨rfl, rfl, rfl, by decide +kernel, rfl, by decide +kernel, by decide +kernel⟩
theorem ok_equal_step {f : Addr} {fd : FuncData} (B : Bt K mg tL tM tV) (Dd : Df K mg "_law_equal" s__law_equal ["actual", "due"] f fd) (G_law_is_integer : Cl P w K mg base 1 "_law_is_integer" ["actual"] spIsInt) (n : Nat)
    (G_law_equal : Cl P w K mg base (n + 1) "_law_equal" ["actual", "due"] (spEqual n)) : FnOk P w K mg base CX0 (n + 2) f fd ["actual", "due"] (spEqual (n + 1)) := by
  refine Dd.F.ok sc__law_equal (fun vs H Q Ex h => ?_) (fun cdv A outer s H vs Q Ex hr h => ?_)
  · obtain ⟨x, y, j, k, rfl, _⟩ := h
    rfl
  obtain ⟨x, y, j, k, rfl, hk, hx, hy, q⟩ := h
  refine ⟨_, (pss_cons (ps_if (pt_cmpR op_isN (pv 1) pe_non (nomark _)) (pss_one (ps_ret (pe_cmpR op_isN (pv 0) pe_non (nomark _)))) pss_nil)
    (pss_cons (ps_if (pt_val (pe_callB call_isi rfl B.b_isinstance boot_isinstance (pa_cons (pv 1) (pa_cons (pe_bltn (v := .ty "bool") rfl B.b_bool boot_bool rfl) pa_nil)))) (pss_one (ps_ret (pe_and (pe_callB call_isi rfl B.b_isinstance boot_isinstance (pa_cons (pv 0) (pa_cons (pe_bltn (v := .ty "bool") rfl B.b_bool boot_bool rfl) pa_nil))) (pe_one (pe_cmpR op_eq (pv 0) (pv 1) (nomark _)))))) pss_nil)
    (pss_cons (ps_if (pt_val (pe_callB call_isi rfl B.b_isinstance boot_isinstance (pa_cons (pv 1) (pa_cons (pe_bltn (v := .ty "int") rfl B.b_int boot_int rfl) pa_nil)))) (pss_one (ps_ret (pe_and (pe_cl G_law_is_integer (hr.mono (by omega)) rfl (pa_cons (pv 0) pa_nil)) (pe_one (pe_cmpR op_eq (pv 0) (pv 1) (nomark _)))))) pss_nil)
    (pss_cons (ps_if (pt_val (pe_callB call_isi rfl B.b_isinstance boot_isinstance (pa_cons (pv 1) (pa_cons (pe_bltn (v := .ty "str") rfl B.b_str boot_str rfl) pa_nil)))) (pss_one (ps_ret (pe_and (pe_callB call_isi rfl B.b_isinstance boot_isinstance (pa_cons (pv 0) (pa_cons (pe_bltn (v := .ty "str") rfl B.b_str boot_str rfl) pa_nil))) (pe_one (pe_cmpR op_eq (pv 0) (pv 1) (nomark _)))))) pss_nil)
    (C8.pss_cut (ps_if (PW.pt (pw_and (pt_val (pe_callB call_isi rfl B.b_isinstance boot_isinstance (pa_cons (pv 1) (pa_cons (pe_bltn (v := .ty "tuple") rfl B.b_tuple boot_tuple rfl) pa_nil)))) (pw_and1 (pt_not (pt_val (pe_callB call_isi rfl B.b_isinstance boot_isinstance (pa_cons (pv 0) (pa_cons (pe_bltn (v := .ty "tuple") rfl B.b_tuple boot_tuple rfl) pa_nil)))))))) (pss_one (ps_ret pe_bl)) pss_nil)
    (C8.pss_cut (ps_if (PW.pt (pw_and (pt_val (pe_callB call_isi rfl B.b_isinstance boot_isinstance (pa_cons (pv 1) (pa_cons (pe_bltn (v := .ty "list") rfl B.b_list boot_list rfl) pa_nil)))) (pw_and1 (pt_not (pt_val (pe_callB call_isi rfl B.b_isinstance boot_isinstance (pa_cons (pv 0) (pa_cons (pe_bltn (v := .ty "list") rfl B.b_list boot_list rfl) pa_nil)))))))) (pss_one (ps_ret pe_bl)) pss_nil)
    (pss_cons (ps_if (pt_cmpR op_ne (pe_callB call_len rfl B.b_len boot_len (pa_cons (pv 0) pa_nil)) (pe_callB call_len rfl B.b_len boot_len (pa_cons (pv 1) pa_nil)) (nomark _)) (pss_one (ps_ret pe_bl)) pss_nil)
    (pss_one (ps_ret (pe_callB (cr_all rfl) rfl B.b_all boot_all (pa_cons (pe_lc (own := [("at", 2)]) (g := gName 2) (tt := tYes) rfl sc__law_equal.nd (pi_range1 rfl B.b_range (pa_cons (pe_callB call_len rfl B.b_len boot_len (pa_cons (pv 1) pa_nil)) pa_nil)) (blkOk_by (N := N__law_equal) (sc := defScope s__law_equal) (by decide +kernel)) (fun _ _ _ _ _ => pg_name (i := 2) sc__law_equal.nd rfl (Or.inl rfl)) (fun _ _ _ _ _ => pts_nil) (fun _ _ _ _ _ => (pe_cl G_law_equal (hr.mono (by omega)) rfl (pa_cons (pe_ix (r := rIx K) ix_seq (pv 0) (pv 2) (fun _ _ => rfl)) (pa_cons (pe_ix (r := rIx K) ix_seq (pv 1) (pv 2) (fun _ _ => rfl)) pa_nil))))) pa_nil))))))))))), ?_⟩
  rcases hx.both (K := K) hy with ⟨rfl, rfl⟩ | ⟨b, rfl, rfl⟩ | ⟨i, rfl, rfl⟩ | ⟨z, rfl, rfl⟩ | ⟨isT, p, p', xs, ys, js, k', rfl, rfl, rfl, T, T', S, S', hz, l, l', r, r'⟩
  · exact ⟨_, rfl, rfl, _, rfl, iteT ⟨_, rfl, rfl, q _ (Same.refl _)⟩⟩
  · have T : TyX K H (.bl b) (.type "bool") := .base (.bl b)
    refine ⟨_, rfl, rfl, _, rfl, iteF ⟨_, rfl, _, _, _, _, _, rfl, .ty _, T, kit_ty (r := true) (by decide +kernel), _, rfl, iteT ⟨_, rfl, _, _, _, _, _, rfl, .ty _, T, kit_ty (r := true) (by decide +kernel), _, rfl, iteT ⟨_, rfl, _, rfl, rfl, ?_⟩⟩⟩⟩
    rw [decide_eq_true rfl]
    exact q _ (Same.refl _)
  · have T : TyX K H (.int i) (.type "int") := .base (.int i)
    refine ⟨_, rfl, rfl, _, rfl, iteF ⟨_, rfl, _, _, _, _, _, rfl, .ty _, T, kit_ty (r := false) (by decide +kernel), _, rfl, iteF ⟨_, rfl, _, _, _, _, _, rfl, .ty _, T, kit_ty (r := true) (by decide +kernel), _, rfl, iteT ⟨_, rfl, i, rfl, _, rfl, iteT ⟨_, rfl, _, rfl, rfl, ?_⟩⟩⟩⟩⟩
    rw [decide_eq_true rfl]
    exact q _ (Same.refl _)
  · have T : TyX K H (.str z) (.type "str") := .base (.str z)
    refine ⟨_, rfl, rfl, _, rfl, iteF ⟨_, rfl, _, _, _, _, _, rfl, .ty _, T, kit_ty (r := false) (by decide +kernel), _, rfl, iteF ⟨_, rfl, _, _, _, _, _, rfl, .ty _, T, kit_ty (r := false) (by decide +kernel), _, rfl, iteF ⟨_, rfl, _, _, _, _, _, rfl, .ty _, T, kit_ty (r := true) (by decide +kernel), _, rfl,
      iteT ⟨_, rfl, _, _, _, _, _, rfl, .ty _, T, kit_ty (r := true) (by decide +kernel), _, rfl, iteT ⟨_, rfl, _, rfl, rfl, ?_⟩⟩⟩⟩⟩⟩
    rw [decide_eq_true rfl]
    exact q _ (Same.refl _)
  · have kb : PySem.W.kitOne K (.type (if isT then "tuple" else "list")) (.type "bool") = some false := by cases isT <;> exact kit_ty (r := false) (by decide +kernel)
    have ki : PySem.W.kitOne K (.type (if isT then "tuple" else "list")) (.type "int") = some false := by cases isT <;> exact kit_ty (r := false) (by decide +kernel)
    have ks : PySem.W.kitOne K (.type (if isT then "tuple" else "list")) (.type "str") = some false := by cases isT <;> exact kit_ty (r := false) (by decide +kernel)
    have kt : PySem.W.kitOne K (.type (if isT then "tuple" else "list")) (.type "tuple") = some isT := by
      cases isT
      · exact kit_ty (r := false) (by decide +kernel)
      · exact kit_ty (r := true) (by decide +kernel)
    have kl : PySem.W.kitOne K (.type (if isT then "tuple" else "list")) (.type "list") = some (!isT) := by
      cases isT
      · exact kit_ty (r := true) (by decide +kernel)
      · exact kit_ty (r := false) (by decide +kernel)
    refine ⟨_, rfl, rfl, _, rfl, iteF ⟨_, rfl, _, _, _, _, _, rfl, .ty _, T', kb, _, rfl, iteF ⟨_, rfl, _, _, _, _, _, rfl, .ty _, T', ki, _, rfl, iteF ⟨_, rfl, _, _, _, _, _, rfl, .ty _, T', ks, _, rfl, iteF ?_⟩⟩⟩⟩
    refine ⟨fun σ' H' => σ' = [some (.ref p), some (.ref p'), none] ∧ H = H', ?_, ?_⟩
    · refine ⟨_, rfl, _, _, _, _, _, rfl, .ty _, T', kt, _, rfl, ite2 (fun e => ?_) (fun e => iteF ⟨rfl, rfl⟩)⟩
      refine ⟨_, rfl, _, _, _, _, _, rfl, .ty _, T, kt, _, rfl, ?_⟩
      rw [e]
      exact iteF ⟨rfl, rfl⟩
    rintro σ' H' ⟨rfl, rfl⟩
    refine ⟨fun σ' H' => σ' = [some (.ref p), some (.ref p'), none] ∧ H = H', ?_, ?_⟩
    · refine ⟨_, rfl, _, _, _, _, _, rfl, .ty _, T', kl, _, rfl, ite2 (fun e => ?_) (fun e => iteF ⟨rfl, rfl⟩)⟩
      refine ⟨_, rfl, _, _, _, _, _, rfl, .ty _, T, kl, _, rfl, ?_⟩
      rw [e]
      exact iteF ⟨rfl, rfl⟩
    rintro σ' H' ⟨rfl, rfl⟩
    refine ⟨_, rfl, _, js.length, rfl, S.len l.symm, _, rfl, _, js.length, rfl, S'.len l'.symm, rfl, _, rfl, ?_⟩
    have e0 : (!decide (V.int ((js.length : Nat) : Int) = V.int ((js.length : Nat) : Int))) = false := by
      rw [decide_eq_true rfl]
      rfl
    refine ite2 (fun e => ?_) (fun _ => ?_)
    · have e1 : (!decide (V.int ((js.length : Nat) : Int) = V.int ((js.length : Nat) : Int))) = true := e
      rw [e0] at e1
      cases e1
    refine ⟨_, rfl, _, js.length, rfl, S'.len l'.symm, _, rfl, by omega, by omega, fun L hL => ?_⟩
    refine lc_range (lo := 0) (n := js.length) (fun i H2 => Same H H2 ∧ H2 L = some (.lst ((List.replicate i true).map V.bl))) ⟨same_upd hL, upd_same⟩ (fun i H2 hi h => ?_) (fun H2 h => ?_)
    · have ix : xs[i]? = some xs[i] := List.getElem?_eq_getElem (by omega)
      have iy : ys[i]? = some ys[i] := List.getElem?_eq_getElem (by omega)
      have ij : js[i]? = some js[i] := List.getElem?_eq_getElem hi
      refine ⟨rfl, tyes ⟨_, rfl, _, rfl, (S.same h.1).ix (at_of (j := i) (by omega) ix) ⟨_, rfl, _, rfl, (S'.same h.1).ix (at_of (j := i) (by omega) iy) ⟨_, _, _, _, rfl, by omega, (r i _ _ ix ij).same h.1, (r' i _ _ iy ij).same h.1, fun H3 s3 => ⟨_, s3 _ _ h.2, ?_, ?_, ?_⟩⟩⟩⟩⟩
      · rw [List.length_map, List.length_replicate]
        exact Nat.lt_of_le_of_lt (m := 100000) (by omega) (by decide)
      · exact fun b o e => by rw [upd_ne (ne_of_none e hL)]; exact s3 _ _ (h.1 b o e)
      · rw [upd_same, List.replicate_succ', List.map_append]
        rfl
    · obtain ⟨h1, h2⟩ := h
      refine ⟨L, _, rfl, SqL.of h2, ?_⟩
      have e1 : (List.replicate js.length true).all id = true := by
        rw [List.all_eq_true]
        intro x hx
        rw [(List.mem_replicate.mp hx).2]
        rfl
      rw [e1]
      exact q _ h1
theorem none_left {f : Addr} {fd : FuncData} {k : Nat} {ps : List Str} {sp : Sp} (no : ∀ vs H Q E, ¬ sp vs H Q E) : FnOk P w K mg base CX0 k f fd ps sp :=
  ⟨fun vs H Q E h => absurd h (no vs H Q E), fun A outer s H args us vs Q E _ _ _ _ h => absurd h (no vs H Q E)⟩
theorem all_equal {f : Addr} {fd : FuncData} (B : Bt K mg tL tM tV) (Dd : Df K mg "_law_equal" s__law_equal ["actual", "due"] f fd) (G1 : Cl P w K mg base 1 "_law_is_integer" ["actual"] spIsInt) :
    ∀ n, FnOk P w K mg base CX0 (n + 1) f fd ["actual", "due"] (spEqual n)
  | 0 => none_left fun vs H Q Ex h => by
    obtain ⟨x, y, j, k, _, h, _⟩ := h
    exact absurd h (Nat.not_lt_zero _)
  | n + 1 => ok_equal_step B Dd G1 n (Dd.cl (all_equal B Dd G1 n))
end
end My
namespace My
open PySem PySem.Spec PyProof.Rows L2
theorem nodup_sub : ∀ (l ys : List Nat), l.Nodup → (∀ x ∈ l, x ∈ ys) → l.length ≤ ys.length
  | [], _, _, _ => Nat.zero_le _
  | x :: l, ys, h, hs => by
    rw [List.nodup_cons] at h
    have hx := hs x (List.mem_cons_self ..)
    have := nodup_sub l (ys.erase x) h.2 fun y hy => (List.mem_erase_of_ne fun (e : y = x) => h.1 (by rw [← e]; exact hy)).mpr (hs y (List.mem_cons_of_mem _ hy))
    rw [List.length_erase_of_mem hx] at this
    have := List.length_pos_of_mem hx
    rw [List.length_cons]
    omega
def spLR : Sp := fun vs H Q _ => ∃ (p : Addr) (S : Sy) (s : Nat), vs = [.ref p, .int s] ∧ SysAt H p S ∧ Good S ∧ s ∈ S.st ∧ ∀ (F : Addr) (fs : List Nat) H', Same H H' → H F = none → H' F = some (.lst (natsV fs)) → (fs.Nodup ∧ ∀ n, n ∈ fs ↔ Rch S s n) → Q (.ref F) H'
/-- what is found so far -/
structure Fnd (S : Sy) (s0 : Nat) (fs : List Nat) : Prop where
  s0m : s0 ∈ fs
  nd : fs.Nodup
  ok : ∀ f ∈ fs, f ∈ S.st ∧ Rch S s0 f
theorem Fnd.snoc {S : Sy} {s0 : Nat} {fs : List Nat} (h : Fnd S s0 fs) {x : Nat} (hx : x ∉ fs) (hs : x ∈ S.st) (hr : Rch S s0 x) : Fnd S s0 (fs ++ [x]) where
  s0m := List.mem_append_left _ h.s0m
  nd := by
    rw [List.nodup_append]
    exact ⟨h.nd, nodup_one x, fun a ha b hb e => hx (by rw [List.mem_singleton.mp hb] at e; rw [← e]; exact ha)⟩
  ok := fun f hf => by
    rcases List.mem_append.mp hf with hf | hf
    · exact h.ok f hf
    · rw [List.mem_singleton.mp hf]
      exact ⟨hs, hr⟩
section
variable {P : Program} {w : World} {K : PySem.W.Frag} {mg : Str → Option Value} {base : Heap} {tL tM tV : Tok}
abbrev N__law_reached : List Str := ["system", "state", "found", "turn", "start", "letter", "end"]
theorem sc__law_reached : FnScope ["system", "state", "found", "turn", "start", "letter", "end"] ["system", "state"] (defScope s__law_reached) := ⟨rfl, rfl, rfl, by decide +kernel, rfl, by decide +kernel, by decide +kernel⟩
set_option maxHeartbeats 1000000 in
theorem ok_lreached {f : Addr} {fd : FuncData} (B : Bt K mg tL tM tV) (Dd : Df K mg "_law_reached" s__law_reached ["system", "state"] f fd) : FnOk P w K mg base CX0 1 f fd ["system", "state"] spLR := by
  refine Dd.F.ok sc__law_reached (fun vs H Q Ex h => ?_) (fun cdv A outer s H vs Q Ex hr h => ?_)
  · obtain ⟨p, S, s, rfl, _⟩ := h
    rfl
  obtain ⟨p, S, s0, rfl, hS, hG, hs, q⟩ := h
  refine ⟨_, (pss_cons (ps_set (i := 2) sc__law_reached.nd rfl (Or.inl rfl) (pe_lst (pa_cons (pv 1) pa_nil)))
    (pss_cons (ps_for PassesOwn.never rfl (pi_range1 rfl B.b_range (pa_cons (pe_callB call_len rfl B.b_len boot_len (pa_cons (pe_ix (r := rIxT K) ix_tup (pv 0) pe_int (fun _ _ => rfl)) pa_nil)) pa_nil)) (pg_name (i := 3) sc__law_reached.nd rfl (Or.inl rfl)) (pss_one (ps_if (pt_cmpR op_lt (pv 3) (pe_callB call_len rfl B.b_len boot_len (pa_cons (pv 2) pa_nil)) (nomark _)) (pss_one (ps_for PassesOwn.never rfl (pi_tup (pe_ix (r := rIxT K) ix_tup (pv 0) pe_int (fun _ _ => rfl))) (pg_tup rfl (pgs_cons (pg_name (i := 4) sc__law_reached.nd rfl (Or.inl rfl)) (pgs_cons (pg_name (i := 5) sc__law_reached.nd rfl (Or.inl rfl)) (pgs_cons (pg_name (i := 6) sc__law_reached.nd rfl (Or.inl rfl)) pgs_nil)))) (pss_one (ps_if (PW.pt (pw_and (pt_cmpR op_eq (pv 4) (pe_ix (r := rIxL K) ix_list (pv 2) (pv 3) (fun _ _ => rfl)) (nomark _)) (pw_and1 (pt_cmpR (r := rNotInB K) (op_notin_seqB rfl) (pv 6) (pv 2) rfl)))) (pss_one (ps_expr (pe_bm PySem.F.plainAttrs_list PySem.F.slot_list_append PySem.F.type_list_append mt_append (pv 2) (pa_cons (pv 6) pa_nil)))) pss_nil)))) pss_nil)))
    (pss_one (ps_ret (pv 2))))), ?_⟩
  obtain ⟨a, b, c, ts, h1, h2, h3, h4, h5⟩ := hS.ex
  refine ⟨_, rfl, by show 1 ≤ sizeLine; decide, fun F hF => ?_⟩
  have u1 := same_upd (o := .lst [V.int (s0 : Int)]) hF
  have sl := hG.len
  refine ⟨_, rfl, p, _, 0, _, rfl, rfl, SqT.of (u1 _ _ h1), at_zero, _, S.st.length, rfl, .inr ⟨_, SqT.of (u1 _ _ h2), by rw [natsV_len]⟩, _, rfl, by omega, by omega, for_range (lo := 0) (n := S.st.length) (fun i σ' H' => ∃ (fs : List Nat) (o3 o4 o5 o6 : Option V), σ' = [some (.ref p), some (.int s0), some (.ref F), o3, o4, o5, o6] ∧ Same H H' ∧ H' F = some (.lst (natsV fs)) ∧ Fnd S s0 fs ∧ ∀ j < i, ∀ f, fs[j]? = some f → ∀ m ∈ S.mv, m.1 = f → m.2.2 ∈ fs) ?_ ?_ ?_⟩
  · exact ⟨[s0], none, none, none, none, rfl, u1, upd_same, ⟨List.mem_singleton.mpr rfl, nodup_one _, fun f hf => by rw [List.mem_singleton.mp hf]; exact ⟨hs, .refl _⟩⟩, fun j hj => by omega⟩
  · rintro i σ' H1 hi ⟨fs, o3, o4, o5, o6, rfl, s1, hF1, fn, cl⟩
    have fl := nodup_sub fs S.st fn.nd fun x hx => (fn.ok x hx).1
    refine ⟨_, rfl, _, rfl, _, fs.length, rfl, .inl ⟨_, SqL.of hF1, by rw [natsV_len]⟩, _, _, rfl, rfl, _, rfl, ite2 (fun c1 => ?_) (fun c1 => ?_)⟩
    · have hil : i < fs.length := by
        have := of_decide_eq_true c1
        omega
      obtain ⟨f, hf⟩ : ∃ f, fs[i]? = some f := ⟨_, List.getElem?_eq_getElem hil⟩
      have hfm := List.mem_of_getElem? hf
      refine ⟨_, rfl, p, _, 1, _, rfl, rfl, SqT.of (s1 _ _ h1), at_one, b, rfl, ⟨_, SqT.of (s1 _ _ h3)⟩, for_tup (K := K) (a := b) (xs := ts) (fun k σ' H' => ∃ (ex : List Nat) (o4 o5 o6 : Option V), σ' = [some (.ref p), some (.int s0), some (.ref F), some (.int (0 + (i : Nat))), o4, o5, o6] ∧ Same H H' ∧ H' F = some (.lst (natsV (fs ++ ex))) ∧ Fnd S s0 (fs ++ ex) ∧ ∀ m ∈ S.mv.take k, m.1 = f → m.2.2 ∈ fs ++ ex) ?_ ?_ ?_ ?_⟩
      · exact ⟨[], o4, o5, o6, rfl, s1, by rw [List.append_nil]; exact hF1, by rw [List.append_nil]; exact fn, fun m hm => by (cases hm)⟩
      · rintro k σ' H' _ ⟨ex, o4, o5, o6, rfl, s2, _⟩
        exact SqT.of (s2 _ _ h3)
      · rintro k v σ' H2 hv ⟨ex, o4, o5, o6, rfl, s2, hF2, fn2, cl2⟩
        obtain ⟨m, hm, hmv⟩ := h4.get hv
        obtain ⟨t, rfl, ht⟩ := hmv.same s2
        have hmS := List.mem_of_getElem? hm
        have tk := take_snoc hm
        have hfi : (fs ++ ex)[i]? = some f := by rw [List.getElem?_append_left hil]; exact hf
        have fl2 := nodup_sub (fs ++ ex) S.st fn2.nd fun x hx => (fn2.ok x hx).1
        refine ⟨t, _, rfl, SqT.of ht, rfl, _, _, rfl, _, _, rfl, _, _, rfl, rfl, ?_⟩
        refine ⟨_, rfl, _, rfl, _, rfl, F, _, _, _, rfl, rfl, SqL.of hF2, (by rw [Int.zero_add]; exact atI_nat (natsV_getN hfi)), rfl, _, rfl, ite2 (fun c2 => ?_) (fun c2 => ?_)⟩
        · have e1 : m.1 = f := by
            have := V.int.inj (of_decide_eq_true c2)
            omega
          refine ⟨_, rfl, _, rfl, F, _, rfl, .inl (SqL.of hF2), rfl, flat_nats _, _, rfl, ?_⟩
          show if (!inV (V.int (m.2.2 : Int)) (natsV (fs ++ ex))) = true then _ else _
          rw [in_nats]
          refine ite2 (fun c3 => ?_) (fun c3 => ?_)
          · have hn : m.2.2 ∉ fs ++ ex := fun h => by rw [decide_eq_true h] at c3; cases c3
            have fn3 := fn2.snoc hn (hG.min m hmS).2.1 (((fn.ok f hfm).2).trans (e1 ▸ Rch.one hmS))
            refine ⟨_, rfl, .inl ⟨rfl, _, SqL.of hF2⟩, _, rfl, F, _, _, rfl, rfl, hF2, ?_, ex ++ [m.2.2], _, _, _, rfl, fun b' o' hb' => by rw [upd_ne (ne_of_none hb' hF)]; exact s2 _ _ hb', ?_, by rw [← List.append_assoc]; exact fn3, ?_⟩
            · rw [natsV_len]
              exact Nat.lt_of_le_of_lt (m := 40) (by omega) (by decide)
            · rw [upd_same, natsV_snoc, List.append_assoc]
            · intro m' hm' e
              rw [← List.append_assoc]
              rw [tk] at hm'
              rcases List.mem_append.mp hm' with h | h
              · exact List.mem_append_left _ (cl2 m' h e)
              · rw [List.mem_singleton.mp h]
                exact List.mem_append_right _ (List.mem_singleton.mpr rfl)
          · refine ⟨ex, _, _, _, rfl, s2, hF2, fn2, fun m' hm' e => ?_⟩
            rw [tk] at hm'
            rcases List.mem_append.mp hm' with h | h
            · exact cl2 m' h e
            · rw [List.mem_singleton.mp h]
              by_cases k : m.2.2 ∈ fs ++ ex
              · exact k
              · exact absurd (by rw [decide_eq_false k]; rfl) c3
        · refine ⟨ex, _, _, _, rfl, s2, hF2, fn2, fun m' hm' e => ?_⟩
          rw [tk] at hm'
          rcases List.mem_append.mp hm' with h | h
          · exact cl2 m' h e
          · rw [List.mem_singleton.mp h] at e
            exact absurd (by rw [e]; exact decide_eq_true rfl) c2
      · rintro σ' H2 ⟨ex, o4, o5, o6, rfl, s2, hF2, fn2, cl2⟩
        rw [h4.len, List.take_length] at cl2
        refine ⟨fs ++ ex, _, _, _, _, rfl, s2, hF2, fn2, fun j hj g hg m hm e => ?_⟩
        have hjl : j < fs.length := by omega
        rw [List.getElem?_append_left hjl] at hg
        by_cases k : j = i
        · rw [k, hf] at hg
          cases hg
          exact cl2 m hm e
        · exact List.mem_append_left _ (cl j (by omega) g hg m hm e)
    · refine ⟨fs, _, _, _, _, rfl, s1, hF1, fn, fun j hj g hg m hm e => ?_⟩
      by_cases k : j = i
      · have hjl := (List.getElem?_eq_some_iff.mp hg).1
        exact absurd (decide_eq_true (by omega)) c1
      · exact cl j (by omega) g hg m hm e
  · rintro σ' H1 ⟨fs, o3, o4, o5, o6, rfl, s1, hF1, fn, cl⟩
    have fl := nodup_sub fs S.st fn.nd fun x hx => (fn.ok x hx).1
    refine ⟨_, rfl, q F fs H1 s1 hF hF1 ⟨fn.nd, fun n => ⟨fun h => (fn.ok n h).2, fun h => ?_⟩⟩⟩
    refine h.closed (F := fun n => n ∈ fs) fn.s0m fun m hm hx => ?_
    obtain ⟨j, hj⟩ := List.getElem?_of_mem hx
    exact cl j (by have := (List.getElem?_eq_some_iff.mp hj).1; omega) m.1 hj m hm rfl
end
end My
namespace My
open PySem PySem.Spec PyProof.Rows L2
theorem psd_eqv : ∀ a b : List Nat, PyData.eqvAll (psd a) (psd b) = decide (a = b)
  | [], [] => by simp [psd, PyData.eqvAll]
  | [], y :: b => by simp [psd, PyData.eqvAll]
  | x :: a, [] => by simp [psd, PyData.eqvAll]
  | x :: a, y :: b => by
    have ih := psd_eqv a b
    show PyData.eqvAll (.int (x : Int) :: psd a) (.int (y : Int) :: psd b) = _
    simp only [PyData.eqvAll, PyData.eqv, ih]
    rw [Bool.eq_iff_iff]
    simp
    intro _
    omega
theorem row_eqv (a b : List Nat) : PyData.eqv (.tuple (psd a)) (.tuple (psd b)) = decide (a = b) := by
  rw [← psd_eqv]
  simp only [PyData.eqv]
theorem rows_any (b : List Nat) (rows : List (List Nat)) : ((rows.map fun r => PyData.tuple (psd r)).any fun z => PyData.eqv z (.tuple (psd b))) = decide (b ∈ rows) := by
  rw [Bool.eq_iff_iff, decide_eq_true_eq, List.any_eq_true]
  constructor
  · rintro ⟨z, hz, h⟩
    obtain ⟨r, hr, rfl⟩ := List.mem_map.mp hz
    rw [row_eqv, decide_eq_true_eq] at h
    rw [← h]
    exact hr
  · exact fun h => ⟨_, List.mem_map_of_mem h, by rw [row_eqv]; exact decide_eq_true rfl⟩
theorem rows_lay : ∀ rows : List (List Nat), PyData.canLayAll0 (rows.map fun r => PyData.tuple (psd r)) = true
  | [] => by simp [PyData.canLayAll0]
  | r :: rows => by
    have h1 := rows_lay rows
    have h2 := psd_lay r
    show PyData.canLayAll0 (PyData.tuple (psd r) :: rows.map fun r => PyData.tuple (psd r)) = true
    simp [PyData.canLayAll0, PyData.canLay0, h1, h2]
theorem rows_dep : ∀ rows : List (List Nat), PyData.depthAll (rows.map fun r => PyData.tuple (psd r)) ≤ 1
  | [] => by simp [PyData.depthAll]
  | r :: rows => by
    have h1 := rows_dep rows
    have h2 := psd_dep r
    show PyData.depthAll (PyData.tuple (psd r) :: rows.map fun r => PyData.tuple (psd r)) ≤ 1
    simp only [PyData.depthAll, PyData.depth, h2]
    omega
theorem rows_shaped (rows : List (List Nat)) : SeqAt.shaped (.list (rows.map fun r => PyData.tuple (psd r))) = true := by
  have h1 := rows_dep rows
  have h2 : PyData.depth (.list (rows.map fun r => PyData.tuple (psd r))) ≤ 64 := by
    simp only [PyData.depth]
    omega
  show (PyData.canLay0 (.list (rows.map fun r => PyData.tuple (psd r))) && decide (PyData.depth (.list (rows.map fun r => PyData.tuple (psd r))) ≤ 64)) = true
  rw [Bool.and_eq_true]
  exact ⟨by simp only [PyData.canLay0]; exact rows_lay rows, decide_eq_true h2⟩
noncomputable def rowsTo (S : Sy) (i : Nat) : List (List Nat) := ((S.st.take i).filter fun s => decide ((orbL S s).head? = some s)).map (orbL S)
theorem rowsTo_all (S : Sy) : rowsTo S S.st.length = orbsL S := by
  unfold rowsTo
  rw [List.take_length]
  rfl
theorem rowsTo_yes {S : Sy} {i y : Nat} (h : S.st[i]? = some y) (e : (orbL S y).head? = some y) : rowsTo S (i + 1) = rowsTo S i ++ [orbL S y] := by
  unfold rowsTo
  rw [take_snoc h, List.filter_append, List.filter_cons, if_pos (decide_eq_true e), List.filter_nil, List.map_append]
  rfl
theorem rowsTo_no {S : Sy} {i y : Nat} (h : S.st[i]? = some y) (e : ¬ (orbL S y).head? = some y) : rowsTo S (i + 1) = rowsTo S i := by
  unfold rowsTo
  rw [take_snoc h, List.filter_append, List.filter_cons, if_neg (by rw [decide_eq_false e]; exact Bool.false_ne_true), List.filter_nil, List.append_nil]
theorem mem_rowsTo {S : Sy} (G : Good S) {i y : Nat} (h : S.st[i]? = some y) : orbL S y ∈ rowsTo S i ↔ ¬ (orbL S y).head? = some y := by
  have hy := List.mem_of_getElem? h
  constructor
  · intro hm e
    obtain ⟨z, hz, ez⟩ := List.mem_map.mp hm
    obtain ⟨hz1, hz2⟩ := List.mem_filter.mp hz
    have hz3 := of_decide_eq_true hz2
    rw [ez, e] at hz3
    have eyz := Option.some.inj hz3
    obtain ⟨j, hj⟩ := List.getElem?_of_mem hz1
    have hjl := (List.getElem?_eq_some_iff.mp hj).1
    rw [List.length_take] at hjl
    rw [List.getElem?_take_of_lt (by omega)] at hj
    have := pw_get G.rise (by omega : j < i) hj h
    omega
  · intro e
    obtain ⟨z, hz⟩ : ∃ z, (orbL S y).head? = some z := by
      have := orb_self hy
      cases k : orbL S y with
      | nil => rw [k] at this; cases this
      | cons z l => exact ⟨z, rfl⟩
    have hzm : z ∈ orbL S y := List.mem_of_head? hz
    obtain ⟨a1, a2, a3⟩ := mem_orb.mp hzm
    have eo := orb_eq a2 a3
    have zy : z < y := by
      have hr : (orbL S y).Pairwise (· < ·) := G.rise.sublist List.filter_sublist
      have hself := orb_self hy
      cases k : orbL S y with
      | nil => rw [k] at hself; cases hself
      | cons u l =>
        rw [k] at hz hr hself
        have eu : u = z := Option.some.inj hz
        rcases List.mem_cons.mp hself with c | c
        · exact absurd (by rw [k, c]; rfl) e
        · rw [← eu]
          exact (List.pairwise_cons.mp hr).1 y c
    obtain ⟨j, hj⟩ := List.getElem?_of_mem a1
    have hji : j < i := by
      rcases Nat.lt_trichotomy j i with c | c | c
      · exact c
      · rw [c, h] at hj
        have := Option.some.inj hj
        omega
      · have := pw_get G.rise c h hj
        omega
    refine List.mem_map.mpr ⟨z, List.mem_filter.mpr ⟨?_, decide_eq_true (by rw [← eo]; exact hz)⟩, eo.symm⟩
    exact List.mem_of_getElem? (i := j) (by rw [List.getElem?_take_of_lt hji]; exact hj)
section
variable {P : Program} {w : World} {K : PySem.W.Frag} {mg : Str → Option Value} {base : Heap} {tL tM tV : Tok}
theorem dp_rows {H : Hp} {L : Addr} {ts : List V} {rows : List (List Nat)} (h : H L = some (.lst ts)) (two : Two (fun t row => ∃ q, t = V.ref q ∧ H q = some (.tup (natsV row))) ts rows) : Dp K H (.ref L) (.list (rows.map fun r => PyData.tuple (psd r))) := by
  refine .lst (SqL.of h) ?_
  clear h
  induction two with
  | nil => exact .nil
  | cons h _ ih =>
    obtain ⟨q, rfl, h⟩ := h
    exact .cons (.tup (SqT.of h) (dpAll_ints _)) ih
abbrev N__law_orbits : List Str := ["system", "near", "state", "found", "orbit", "other"]
theorem sc__law_orbits : FnScope ["system", "near", "state", "found", "orbit", "other"] ["system"] (defScope s__law_orbits) := ⟨rfl, rfl, rfl, by decide +kernel, rfl, by decide +kernel, by decide +kernel⟩
set_option maxHeartbeats 1000000 in
theorem ok_lorbits {f : Addr} {fd : FuncData} (B : Bt K mg tL tM tV) (Dd : Df K mg "_law_orbits" s__law_orbits ["system"] f fd) (G_law_reached : Cl P w K mg base 1 "_law_reached" ["system", "state"] spLR) : FnOk P w K mg base CX0 2 f fd ["system"] spOrbitsOf := by
  refine Dd.F.ok sc__law_orbits (fun vs H Q Ex h => ?_) (fun cdv A outer s H vs Q Ex hr h => ?_)
  · obtain ⟨p, S, rfl, _⟩ := h
    rfl
  obtain ⟨p, S, rfl, hS, hG, q⟩ := h
  refine ⟨_, (pss_cons (ps_set (i := 1) sc__law_orbits.nd rfl (Or.inr rfl) pe_dnewK)
    (pss_cons (ps_for PassesOwn.never rfl (pi_tup (pe_ix (r := rIxT K) ix_tup (pv 0) pe_int (fun _ _ => rfl))) (pg_name (i := 2) sc__law_orbits.nd rfl (Or.inr rfl)) (pss_one (ps_dput (hu_of hr) (pv 1) (pv 2) (pe_cl G_law_reached (hr.mono (by omega)) rfl (pa_cons (pv 0) (pa_cons (pv 2) pa_nil))) rfl)))
    (pss_cons (ps_set (i := 3) sc__law_orbits.nd rfl (Or.inl rfl) (pe_lst pa_nil))
    (pss_cons (ps_for PassesOwn.never rfl (pi_tup (pe_ix (r := rIxT K) ix_tup (pv 0) pe_int (fun _ _ => rfl))) (pg_name (i := 2) sc__law_orbits.nd rfl (Or.inr rfl)) (pss_cons (ps_set (i := 4) sc__law_orbits.nd rfl (Or.inl rfl) (pe_callTy (r := rTupOf K) call_tuple_ofK rfl B.b_tuple boot_tuple (pa_cons (pe_lc (own := [("other", 5)]) (g := gName 5) rfl sc__law_orbits.nd (pi_tup (pe_ix (r := rIxT K) ix_tup (pv 0) pe_int (fun _ _ => rfl))) (blkOk_by (N := N__law_orbits) (sc := defScope s__law_orbits) (by decide +kernel)) (fun _ _ _ _ _ => pg_name (i := 5) sc__law_orbits.nd rfl (Or.inl rfl)) (fun _ _ _ _ _ => pts_one (PW.pt (pw_and (pt_cmpR (r := rInB K) (op_in_seqB rfl) (pv 5) (pe_dget (hu_of hr) (pv 1) (pv 2) (fun _ _ => rfl)) rfl) (pw_and1 (pt_cmpR (r := rInB K) (op_in_seqB rfl) (pv 2) (pe_dget (hu_of hr) (pv 1) (pv 5) (fun _ _ => rfl)) rfl))))) (fun _ _ _ _ _ => (pv 5))) pa_nil)))
    (pss_one (ps_if (pt_cmpR (r := rNotInD K) (op_notInD (u65 hr)) (pv 4) (pv 3) rfl) (pss_one (ps_expr (pe_bm PySem.F.plainAttrs_list PySem.F.slot_list_append PySem.F.type_list_append mt_append (pv 3) (pa_cons (pv 4) pa_nil)))) pss_nil))))
    (pss_one (ps_ret (pv 3))))))), ?_⟩
  obtain ⟨a, b, c, ts, h1, h2, h3, h4, h5⟩ := hS.ex
  have sl := hG.len
  refine fun D hD => ?_
  have u1 := same_upd (o := .dK []) hD
  refine ⟨_, rfl, p, _, 0, _, rfl, rfl, SqT.of (u1 _ _ h1), at_zero, a, rfl, ⟨_, SqT.of (u1 _ _ h2)⟩, for_tup (K := K) (a := a) (xs := natsV S.st) (fun i σ' H' => ∃ (kvs : List (L2.Key × V)) (o2 o3 o4 o5 : Option V), σ' = [some (.ref p), some (.ref D), o2, none, o4, o5] ∧ Same H H' ∧ H' D = some (.dK kvs) ∧ kvs.length ≤ i ∧ ∀ y ∈ S.st.take i, ∃ F fs, valV kvs (Sum.inl ((y : Nat) : Int)) = some (.ref F) ∧ H' F = some (.lst (natsV fs)) ∧ ∀ n, n ∈ fs ↔ Rch S y n) ?_ ?_ ?_ ?_⟩
  · exact ⟨[], none, none, none, none, rfl, u1, upd_same, Nat.le_refl _, fun y hy => by (cases hy)⟩
  · rintro i σ' H' _ ⟨kvs, o2, o3, o4, o5, rfl, s1, _⟩
    exact SqT.of (s1 _ _ h2)
  · rintro i v σ' H1 hv ⟨kvs, o2, o3, o4, o5, rfl, s1, hk, kl, kv⟩
    obtain ⟨y, hy, rfl⟩ := natsV_getB hv
    have hys := List.mem_of_getElem? hy
    have hil := (List.getElem?_eq_some_iff.mp hy).1
    refine ⟨_, rfl, _, rfl, p, S, y, rfl, hS.same s1, hG, hys, fun F fs H2 s2 hF0 hF hfs0 => ?_⟩
    have hfs := hfs0.2
    have hk2 := s2 _ _ hk
    refine ⟨_, rfl, _, rfl, D, _, rfl, DPut.k (k := Sum.inl (y : Int)) hk2 (Nat.lt_of_le_of_lt (m := 40) (by omega) (by decide)), ?_⟩
    refine ⟨_, _, none, _, _, rfl, fun b' o' hb' => by rw [upd_ne (ne_of_none hb' hD)]; exact s2 _ _ (s1 _ _ hb'), upd_same, Nat.le_trans (length_putK kvs _ _) (Nat.succ_le_succ kl), fun z hz => ?_⟩
    rw [valV_put]
    by_cases e : z = y
    · rw [e, if_pos rfl]
      exact ⟨F, fs, rfl, by rw [upd_ne fun e => by rw [e, hk2] at hF; cases hF]; exact hF, hfs⟩
    · rw [if_neg fun k => e (by have := Sum.inl.inj k; omega)]
      rw [take_snoc hy] at hz
      rcases List.mem_append.mp hz with hz | hz
      · obtain ⟨F', fs', e1, e2, e3⟩ := kv z hz
        have e2' := s2 _ _ e2
        exact ⟨F', fs', e1, by rw [upd_ne fun e => by rw [e, hk2] at e2'; cases e2']; exact e2', e3⟩
      · exact absurd (List.mem_singleton.mp hz) e
  · rintro σ' H1 ⟨kvs, o2, o3, o4, o5, rfl, s1, hk, kl, kv⟩
    rw [natsV_len, List.take_length] at kv
    refine ⟨by show 0 ≤ sizeLine; decide, fun L hL => ?_⟩
    have nL : H L = none := s1.free hL
    have uL := same_upd (o := .lst []) hL
    have S2 := s1.trans uL
    refine ⟨_, rfl, p, _, 0, _, rfl, rfl, SqT.of (S2 _ _ h1), at_zero, a, rfl, ⟨_, SqT.of (S2 _ _ h2)⟩, for_tup (K := K) (a := a) (xs := natsV S.st) (fun i σ' H' => ∃ (ws : List V) (o2 o4 o5 : Option V), σ' = [some (.ref p), some (.ref D), o2, some (.ref L), o4, o5] ∧ Same H1 H' ∧ H' L = some (.lst ws) ∧ Two (fun t row => ∃ q, t = V.ref q ∧ H' q = some (.tup (natsV row))) ws (rowsTo S i)) ?_ ?_ ?_ ?_⟩
    · exact ⟨[], _, _, _, rfl, uL, upd_same, .nil⟩
    · rintro i σ' H' _ ⟨ws, o2, o4, o5, rfl, s3, _⟩
      exact SqT.of (s3 _ _ (s1 _ _ h2))
    · rintro i v σ' H3 hv ⟨ws, o2, o4, o5, rfl, s3, hws, two⟩
      obtain ⟨y, hy, rfl⟩ := natsV_getB hv
      have hys := List.mem_of_getElem? hy
      have S3 := s1.trans s3
      have wl : ws.length ≤ 40 := by
        rw [two.len]
        unfold rowsTo
        rw [List.length_map]
        exact Nat.le_trans (List.length_filter_le _ _) (by rw [List.length_take]; omega)
      obtain ⟨F1, f1, e1, e2, e3⟩ := kv y hys
      refine ⟨_, rfl, p, _, 0, _, rfl, rfl, SqT.of (S3 _ _ h1), at_zero, a, rfl, ⟨_, SqT.of (S3 _ _ h2)⟩, fun M hM => ?_⟩
      refine lc_tupR (K := K) (a := a) (xs := natsV S.st) (ftR S.st fun o => dec (Rch S y o ∧ Rch S o y)) rfl (ftR_len (by omega)) hM (SqT.of (S3 _ _ h2)) (fun k x H' hx s4 fin fin0 => ?_) (fun H4 s4 hk4 => ?_)
      · obtain ⟨o, ho, rfl⟩ := natsV_getB hx
        have hos := List.mem_of_getElem? ho
        obtain ⟨F2, f2, e4, e5, e6⟩ := kv o hos
        have S4 := s3.trans s4
        have d1 : DGet H' D (V.int (y : Int)) (some (.ref F1)) := by
          have := DGet.k (k := Sum.inl (y : Int)) (S4 _ _ hk)
          rw [e1] at this
          exact this
        have d2 : DGet H' D (V.int (o : Int)) (some (.ref F2)) := by
          have := DGet.k (k := Sum.inl (o : Int)) (S4 _ _ hk)
          rw [e4] at this
          exact this
        have b1 : decide (o ∈ f1) = dec (Rch S y o) := by rw [Bool.eq_iff_iff, decide_eq_true_eq, dec_iff]; exact e3 o
        have b2 : decide (y ∈ f2) = dec (Rch S o y) := by rw [Bool.eq_iff_iff, decide_eq_true_eq, dec_iff]; exact e6 y
        refine ⟨rfl, _, rfl, _, rfl, _, rfl, D, _, rfl, d1, F1, _, rfl, .inl (SqL.of (S4 _ _ e2)), rfl, flat_nats _, _, rfl, ?_⟩
        show if inV (V.int (o : Int)) (natsV f1) = true then _ else _
        rw [in_nats, b1]
        refine ite2 (fun c1 => ?_) (fun c1 => iteF (fin0 _ (ftR_no ho ?_) (Same.refl _)))
        · refine ⟨_, rfl, _, rfl, _, rfl, D, _, rfl, d2, F2, _, rfl, .inl (SqL.of (S4 _ _ e5)), rfl, flat_nats _, _, rfl, ?_⟩
          show if inV (V.int (y : Int)) (natsV f2) = true then _ else _
          rw [in_nats, b2]
          refine ite2 (fun c2 => ?_) (fun c2 => fin0 _ (ftR_no ho ?_) (Same.refl _))
          · exact ⟨_, rfl, fin _ _ (ftR_yes ho (by rw [dec_and, c1, c2]; rfl)) (Same.refl _)⟩
          · rw [dec_and, eq_false_of_ne_true c2, Bool.and_false]
            exact Bool.false_ne_true
        · rw [dec_and, eq_false_of_ne_true c1, Bool.false_and]
          exact Bool.false_ne_true
      rw [ftR_all] at hk4
      refine ⟨M, _, rfl, .inl ⟨SqL.of hk4, fun t ht => ?_⟩⟩
      have st := same_upd (o := .tup (natsV (orbL S y))) ht
      have U := s4.trans st
      have hws5 := U _ _ hws
      have two5 := two.mono fun v r (hx : ∃ q, v = V.ref q ∧ H3 q = some (.tup (natsV r))) => (show ∃ q, v = V.ref q ∧ (upd H4 t (.tup (natsV (orbL S y)))) q = some (.tup (natsV r)) from by obtain ⟨q1, e, h⟩ := hx; exact ⟨q1, e, U _ _ h⟩)
      refine ⟨_, rfl, _, rfl, .tuple (psd (orbL S y)), (rowsTo S i).map (fun r => PyData.tuple (psd r)), .tup (SqT.of upd_same) (dpAll_ints _), dp_rows hws5 two5, tup_shaped _, rows_shaped _, _, rfl, ?_⟩
      rw [rows_any]
      show if (!decide (orbL S y ∈ rowsTo S i)) = true then _ else _
      refine ite2 (fun c1 => ?_) (fun c1 => ?_)
      · have hh : (orbL S y).head? = some y := by
          by_cases e : (orbL S y).head? = some y
          · exact e
          · rw [decide_eq_true ((mem_rowsTo hG hy).mpr e)] at c1
            cases c1
        refine ⟨_, rfl, .inl ⟨rfl, _, SqL.of hws5⟩, _, rfl, L, _, _, rfl, rfl, hws5, Nat.lt_of_le_of_lt wl (by decide), ws ++ [.ref t], _, _, _, rfl, fun b' o' hb' => by rw [upd_ne (ne_of_none hb' hL)]; exact U _ _ (s3 _ _ hb'), upd_same, ?_⟩
        rw [rowsTo_yes hy hh]
        refine (two5.mono fun v r hx => ?_).app (.cons ⟨t, rfl, ?_⟩ .nil)
        · obtain ⟨q1, e2, h⟩ := hx
          exact ⟨q1, e2, by rw [upd_ne fun e3 => by rw [e3, hws5] at h; cases h]; exact h⟩
        · rw [upd_ne fun e3 => by rw [e3, s4 _ _ hws] at ht; cases ht]
          exact upd_same
      · have hh : ¬ (orbL S y).head? = some y := by
          refine (mem_rowsTo hG hy).mp ?_
          by_cases e : orbL S y ∈ rowsTo S i
          · exact e
          · exact absurd (by rw [decide_eq_false e]; rfl) c1
        exact ⟨ws, _, _, _, rfl, s3.trans U, hws5, by rw [rowsTo_no hy hh]; exact two5⟩
    · rintro σ' H3 ⟨ws, o2, o4, o5, rfl, s3, hws, two⟩
      rw [natsV_len, rowsTo_all] at two
      exact ⟨_, rfl, q L H3 (s1.trans s3) nL ⟨ws, hws, two⟩⟩
abbrev N__law_orbit : List Str := ["system", "state", "orbit"]
theorem sc__law_orbit : FnScope ["system", "state", "orbit"] ["system", "state"] (defScope s__law_orbit) := ⟨rfl, rfl, rfl, by decide +kernel, rfl, by decide +kernel, by decide +kernel⟩
theorem ok_lorbit {f : Addr} {fd : FuncData} (B : Bt K mg tL tM tV) (Dd : Df K mg "_law_orbit" s__law_orbit ["system", "state"] f fd) (G_law_orbits : Cl P w K mg base 2 "_law_orbits" ["system"] spOrbitsOf) : FnOk P w K mg base CX0 3 f fd ["system", "state"] spOrbitAt := by
  refine Dd.F.ok sc__law_orbit (fun vs H Q Ex h => ?_) (fun cdv A outer s H vs Q Ex hr h => ?_)
  · obtain ⟨p, S, s, rfl, _⟩ := h
    rfl
  obtain ⟨p, S, y, rfl, hS, hG, hys, q⟩ := h
  refine ⟨_, (pss_one (ps_ret (pe_ix (r := rIxL K) ix_list (pe_lc (own := [("orbit", 2)]) (g := gName 2) rfl sc__law_orbit.nd (pi_list (pe_cl G_law_orbits (hr.mono (by omega)) rfl (pa_cons (pv 0) pa_nil))) (blkOk_by (N := N__law_orbit) (sc := defScope s__law_orbit) (by decide +kernel)) (fun _ _ _ _ _ => pg_name (i := 2) sc__law_orbit.nd rfl (Or.inl rfl)) (fun _ _ _ _ _ => pts_one (pt_cmpR (r := rInB K) (op_in_seqB rfl) (pv 1) (pv 2) rfl)) (fun _ _ _ _ _ => (pv 2))) pe_int (fun _ _ => rfl)))), ?_⟩
  refine ⟨_, rfl, p, S, rfl, hS, hG, fun R H1 s1 hR0 hRT => ?_⟩
  obtain ⟨ts, hts, two⟩ := hRT
  have ol := orbs_len hG
  have tl := two.len
  refine ⟨R, rfl, ⟨_, SqL.of hts⟩, fun M hM => ?_⟩
  refine lc_list (K := K) (a := R) (xs := ts) (fun j H' => Same H1 H' ∧ ∃ ws : List V, H' M = some (.lst ws) ∧ ws.length ≤ j ∧ (∀ v ∈ ws, ∃ t, v = .ref t ∧ H' t = some (.tup (natsV (orbL S y)))) ∧ ∀ k < j, ∀ r, (orbsL S)[k]? = some r → y ∈ r → ws ≠ []) ⟨same_upd hM, [], upd_same, Nat.le_refl _, fun v hv => by (cases hv), fun k hk => by omega⟩ (fun j H' _ h => SqL.of (h.1 _ _ hts)) (fun j x H' hx h => ?_) (fun H2 h => ?_)
  · obtain ⟨s2, ws, hws, wl, wv, wn⟩ := h
    obtain ⟨row, hrow, q1, rfl, hq1⟩ := two.get hx
    have hjl := (List.getElem?_eq_some_iff.mp hx).1
    have hq2 := s2 _ _ hq1
    obtain ⟨x0, _, er, _, _⟩ := orbs_get hrow
    refine ⟨rfl, _, rfl, _, rfl, q1, _, rfl, .inr (SqT.of hq2), rfl, flat_nats _, _, rfl, ?_⟩
    show if inV (V.int (y : Int)) (natsV row) = true then _ else _
    rw [in_nats]
    refine ite2 (fun c1 => ?_) (fun c1 => ?_)
    · have hyr : y ∈ row := of_decide_eq_true c1
      have er2 : row = orbL S y := by
        rw [er] at hyr ⊢
        obtain ⟨_, a2, a3⟩ := mem_orb.mp hyr
        exact orb_eq a2 a3
      refine ⟨_, rfl, ws, hws, Nat.lt_of_le_of_lt (m := 40) (by omega) (by decide), fun b' o' hb' => by rw [upd_ne (ne_of_none hb' hM)]; exact s2 _ _ hb', ws ++ [.ref q1], upd_same, by rw [List.length_append]; exact Nat.succ_le_succ wl, fun v hv => ?_, fun k _ r _ _ e => by simp at e⟩
      rcases List.mem_append.mp hv with hv | hv
      · obtain ⟨t, e, h⟩ := wv v hv
        exact ⟨t, e, by rw [upd_ne fun e => by rw [e, hws] at h; cases h]; exact h⟩
      · rw [List.mem_singleton.mp hv]
        exact ⟨q1, rfl, by rw [← er2, upd_ne (fun e => by rw [e, hws] at hq2; cases hq2)]; exact hq2⟩
    · refine ⟨s2, ws, hws, Nat.le_succ_of_le wl, wv, fun k hk r hr hyr => ?_⟩
      by_cases e : k = j
      · rw [e, hrow] at hr
        cases hr
        exact absurd (decide_eq_true hyr) c1
      · exact wn k (by omega) r hr hyr
  · obtain ⟨s2, ws, hws, wl, wv, wn⟩ := h
    obtain ⟨i, r, hi, hr⟩ := orbs_mem hys
    have hne := wn i (by rw [tl]; exact (List.getElem?_eq_some_iff.mp hi).1) r hi hr
    cases ws with
    | nil => exact absurd rfl hne
    | cons v l =>
      obtain ⟨t, rfl, ht⟩ := wv v (List.mem_cons_self ..)
      exact ⟨M, _, 0, _, rfl, rfl, SqL.of hws, at_zero, q t H2 (s1.trans s2) ht⟩
end
end My
namespace My
open PySem PySem.Spec PyProof.Rows L2
theorem rise_ext : ∀ (xs ys : List Nat), xs.Pairwise (· < ·) → ys.Pairwise (· < ·) → (∀ x, x ∈ xs ↔ x ∈ ys) → xs = ys
  | [], [], _, _, _ => rfl
  | [], y :: ys, _, _, h => absurd ((h y).mpr (List.mem_cons_self ..)) (by simp)
  | x :: xs, [], _, _, h => absurd ((h x).mp (List.mem_cons_self ..)) (by simp)
  | x :: xs, y :: ys, hx, hy, h => by
    rw [List.pairwise_cons] at hx hy
    have e : x = y := by
      rcases List.mem_cons.mp ((h x).mp (List.mem_cons_self ..)) with h1 | h1
      · exact h1
      · rcases List.mem_cons.mp ((h y).mpr (List.mem_cons_self ..)) with h2 | h2
        · exact h2.symm
        · have a := hy.1 x h1
          have b := hx.1 y h2
          omega
    subst e
    rw [rise_ext xs ys hx.2 hy.2 fun z => ?_]
    have nx : x ∉ xs := fun m => Nat.lt_irrefl _ (hx.1 x m)
    have ny : x ∉ ys := fun m => Nat.lt_irrefl _ (hy.1 x m)
    constructor
    · intro hz
      rcases List.mem_cons.mp ((h z).mp (List.mem_cons_of_mem _ hz)) with e | e
      · exact absurd (e ▸ hz) nx
      · exact e
    · intro hz
      rcases List.mem_cons.mp ((h z).mpr (List.mem_cons_of_mem _ hz)) with e | e
      · exact absurd (e ▸ hz) ny
      · exact e
noncomputable def reachL (S : Sy) (s : Nat) : List Nat := S.st.filter fun n => dec (Rch S s n)
theorem mem_reach {S : Sy} (G : Good S) {s n : Nat} (hs : s ∈ S.st) : n ∈ reachL S s ↔ Rch S s n := by
  unfold reachL
  rw [List.mem_filter, dec_iff]
  exact ⟨fun h => h.2, fun h => ⟨h.mem G hs, h⟩⟩
theorem reach_rise {S : Sy} (G : Good S) (s : Nat) : (reachL S s).Pairwise (· < ·) := G.rise.sublist List.filter_sublist
/-- ints that are sorted are the naturals that rise -/
theorem sorted_nats {ns : List Int} {fs rs : List Nat} (hp : ns.Perm (fs.map fun (n : Nat) => (n : Int))) (hs : ns.Pairwise (· ≤ ·)) (nd : fs.Nodup) (hr : rs.Pairwise (· < ·)) (hm : ∀ n, n ∈ fs ↔ n ∈ rs) : ns = rs.map fun (n : Nat) => (n : Int) := by
  have hn : ∀ x ∈ ns, 0 ≤ x := fun x hx => by
    obtain ⟨n, _, rfl⟩ := List.mem_map.mp (hp.mem_iff.mp hx)
    omega
  have e : ns = (ns.map Int.toNat).map fun (n : Nat) => (n : Int) := by
    rw [List.map_map]
    refine (List.map_id ns).symm.trans (List.map_congr_left fun x hx => ?_)
    have := hn x hx
    show x = ((x.toNat : Nat) : Int)
    omega
  have nd2 : ns.Nodup := hp.nodup_iff.mpr (by
    rw [List.nodup_iff_pairwise_ne, List.pairwise_map]
    exact nd.imp fun h => by omega)
  have st : ns.Pairwise (· < ·) := by
    have := List.Pairwise.and hs nd2
    exact this.imp fun h => by omega
  have r1 : (ns.map Int.toNat).Pairwise (· < ·) := by
    rw [List.pairwise_map]
    refine st.imp_of_mem fun {x y} hx hy h => ?_
    have := hn x hx
    omega
  have : ns.map Int.toNat = rs := rise_ext _ _ r1 hr fun n => by
    rw [← hm]
    constructor
    · intro h
      obtain ⟨x, hx, rfl⟩ := List.mem_map.mp h
      obtain ⟨n, hn, e⟩ := List.mem_map.mp (hp.mem_iff.mp hx)
      rw [← e]
      exact hn
    · intro h
      exact List.mem_map.mpr ⟨(n : Int), hp.mem_iff.mpr (List.mem_map_of_mem h), by omega⟩
  rw [e, this]
def roundB (S : Sy) (orb : List Nat) : Bool := S.mv.any fun m => decide (m.1 ∈ orb) && decide (m.2.2 ∈ orb)
def spReach : Sp := fun vs H Q _ => ∃ (p : Addr) (S : Sy) (s : Nat), vs = [.ref p, .int s] ∧ SysAt H p S ∧ Good S ∧ s ∈ S.st ∧ ∀ (t : Addr) H', Same H H' → H' t = some (.tup (natsV (reachL S s))) → Q (.ref t) H'
def spRound : Sp := fun vs H Q _ => ∃ (p o : Addr) (S : Sy) (orb : List Nat), vs = [.ref p, .ref o] ∧ SysAt H p S ∧ Good S ∧ H o = some (.tup (natsV orb)) ∧ ∀ H', Same H H' → Q (.bl (roundB S orb)) H'
def spGoes : Sp := fun vs H Q _ => ∃ (p : Addr) (S : Sy) (s : Nat), vs = [.ref p, .int s] ∧ SysAt H p S ∧ Good S ∧ s ∈ S.st ∧ ∀ H', Same H H' → Q (.bl (roundB S (orbL S s))) H'
section
variable {P : Program} {w : World} {K : PySem.W.Frag} {mg : Str → Option Value} {base : Heap} {tL tM tV : Tok}
abbrev N_reached : List Str := ["system", "state"]
theorem sc_reached : FnScope ["system", "state"] ["system", "state"] (defScope s_reached) := ⟨rfl, rfl, rfl, by decide +kernel, rfl, by decide +kernel, by decide +kernel⟩
theorem ok_reachedp {f : Addr} {fd : FuncData} (B : Bt K mg tL tM tV) (Dd : Df K mg "reached" s_reached ["system", "state"] f fd) (Gcheck_system : Cl P w K mg base 5 "check_system" ["value"] spChkSys) (Gcheck_state : Cl P w K mg base 3 "check_state" ["system", "value"] spChkState) (G_ends_by_state : Cl P w K mg base 1 "_ends_by_state" ["system"] spEnds) (G_reached_from : Cl P w K mg base 1 "_reached_from" ["ends", "state"] spReached) : FnOk P w K mg base CX0 6 f fd ["system", "state"] spReach := by
  refine Dd.F.ok sc_reached (fun vs H Q Ex h => ?_) (fun cdv A outer s H vs Q Ex hr h => ?_)
  · obtain ⟨p, S, s, rfl, _⟩ := h
    rfl
  obtain ⟨p, S, y, rfl, hS, hG, hys, q⟩ := h
  refine ⟨_, (pss_cons (ps_expr (pe_cl Gcheck_system (hr.mono (by omega)) rfl (pa_cons (pv 0) pa_nil)))
    (pss_cons (ps_expr (pe_cl Gcheck_state (hr.mono (by omega)) rfl (pa_cons (pv 0) (pa_cons (pv 1) pa_nil))))
    (pss_one (ps_ret (pe_callTy (r := rTupOf K) call_tuple_ofK rfl B.b_tuple boot_tuple (pa_cons (pe_callB (cr_sortedDI rfl) rfl B.b_sorted boot_sorted (pa_cons (pe_cl G_reached_from (hr.mono (by omega)) rfl (pa_cons (pe_cl G_ends_by_state (hr.mono (by omega)) rfl (pa_cons (pv 0) pa_nil)) (pa_cons (pv 1) pa_nil))) pa_nil)) pa_nil)))))), ?_⟩
  refine ⟨_, rfl, p, S, rfl, hS, hG, fun H1 s1 => ?_⟩
  refine ⟨_, rfl, _, rfl, p, S, y, rfl, hS.same s1, hG, hys, ?_⟩
  refine ⟨_, rfl, p, S, rfl, hS.same s1, hG, fun D H2 s2 hE => ?_⟩
  refine ⟨_, rfl, D, S, y, rfl, hE, hG, hys, fun F H3 h3 s3 _ => ?_⟩
  obtain ⟨_, kvs, fs, hF, hk, nd, hm⟩ := h3
  refine ⟨F, kvs, _, rfl, hF, hk, fun ns L hp hs hL => ?_⟩
  have e := sorted_nats hp hs nd (reach_rise hG y) fun n => (hm n).trans (mem_reach hG hys).symm
  have hL2 : (upd H3 L (.lst (ns.map V.int))) L = some (.lst (natsV (reachL S y))) := by
    rw [upd_same, e, natsV, List.map_map]
    rfl
  exact ⟨L, _, rfl, .inl ⟨SqL.of hL2, fun t ht => q t _ (s1.trans (s2.trans (s3.trans ((same_upd hL).trans (same_upd ht))))) upd_same⟩⟩
abbrev N_is_round : List Str := ["system", "orbit", "start", "_", "end"]
theorem sc_is_round : FnScope ["system", "orbit", "start", "_", "end"] ["system", "orbit"] (defScope s_is_round) := ⟨rfl, rfl, rfl, by decide +kernel, rfl, by decide +kernel, by decide +kernel⟩
theorem ok_round {f : Addr} {fd : FuncData} (B : Bt K mg tL tM tV) (Dd : Df K mg "is_round" s_is_round ["system", "orbit"] f fd) : FnOk P w K mg base CX0 1 f fd ["system", "orbit"] spRound := by
  refine Dd.F.ok sc_is_round (fun vs H Q Ex h => ?_) (fun cdv A outer s H vs Q Ex hr h => ?_)
  · obtain ⟨p, o, S, orb, rfl, _⟩ := h
    rfl
  obtain ⟨p, o, S, orb, rfl, hS, hG, ho, q⟩ := h
  refine ⟨_, (pss_one (ps_ret (pe_callB (cr_any rfl) rfl B.b_any boot_any (pa_cons (pe_lc (own := [("start", 2), ("_", 3), ("end", 4)]) (g := gTup K 3 (gCons (gName 2) (gCons (gName 3) (gCons (gName 4) gNil)))) (tt := tYes) rfl sc_is_round.nd (pi_tup (pe_ix (r := rIxT K) ix_tup (pv 0) pe_int (fun _ _ => rfl))) (blkOk_by (N := N_is_round) (sc := defScope s_is_round) (by decide +kernel)) (fun _ _ _ _ _ => pg_tup rfl (pgs_cons (pg_name (i := 2) sc_is_round.nd rfl (Or.inl rfl)) (pgs_cons (pg_name (i := 3) sc_is_round.nd rfl (Or.inl rfl)) (pgs_cons (pg_name (i := 4) sc_is_round.nd rfl (Or.inl rfl)) pgs_nil)))) (fun _ _ _ _ _ => pts_nil) (fun _ _ _ _ _ => (pe_and (pe_cmpR (r := rInB K) (op_in_seqB rfl) (pv 2) (pv 1) rfl) (pe_one (pe_cmpR (r := rInB K) (op_in_seqB rfl) (pv 4) (pv 1) rfl))))) pa_nil)))), ?_⟩
  obtain ⟨a, b, c, ts, h1, h2, h3, h4, h5⟩ := hS.ex
  have ml := hG.ml
  refine ⟨_, rfl, p, _, 1, _, rfl, rfl, SqT.of h1, at_one, b, rfl, ⟨_, SqT.of h3⟩, fun M hM => ?_⟩
  refine lc_tupR (K := K) (a := b) (xs := ts) (fun j => ((S.mv.take j).map fun m => decide (m.1 ∈ orb) && decide (m.2.2 ∈ orb)).map V.bl) rfl (fun j => ?_) hM (SqT.of h3) (fun j x H' hx s1 fin fin0 => ?_) (fun H1 s1 hk1 => ?_)
  · rw [List.length_map, List.length_map, List.length_take]
    omega
  · obtain ⟨m, hm, hmv⟩ := h4.get hx
    obtain ⟨t, rfl, ht⟩ := hmv.same s1
    have ho1 := s1 _ _ ho
    have fin2 := fin (.bl (decide (m.1 ∈ orb) && decide (m.2.2 ∈ orb))) H' (by rw [take_snoc hm, List.map_append, List.map_append]; rfl) (Same.refl _)
    refine ⟨t, _, rfl, SqT.of ht, rfl, _, _, rfl, _, _, rfl, _, _, rfl, rfl, rfl, tyes ⟨_, rfl, _, rfl, o, _, rfl, .inr (SqT.of ho1), rfl, flat_nats _, ?_⟩⟩
    refine ⟨_, rfl, ?_⟩
    show if inV (V.int (m.1 : Int)) (natsV orb) = true then _ else _
    rw [in_nats]
    refine ite2 (fun c1 => ?_) (fun c1 => ?_)
    · refine ⟨_, rfl, _, rfl, o, _, rfl, .inr (SqT.of ho1), rfl, flat_nats _, ?_⟩
      have e : (if false = true then !inV (V.int (m.2.2 : Int)) (natsV orb) else inV (V.int (m.2.2 : Int)) (natsV orb)) = (decide (m.1 ∈ orb) && decide (m.2.2 ∈ orb)) := by
        rw [if_neg Bool.false_ne_true, in_nats, c1, Bool.true_and]
      rw [e]
      exact fin2
    · rw [eq_false_of_ne_true c1, Bool.false_and] at fin2
      exact fin2
  · rw [h4.len, List.take_length] at hk1
    refine ⟨M, _, rfl, SqL.of hk1, ?_⟩
    have e : (((S.mv.map fun m => decide (m.1 ∈ orb) && decide (m.2.2 ∈ orb)).any id) : Bool) = roundB S orb := by
      unfold roundB
      rw [List.any_map]
      rfl
    rw [e]
    exact q H1 s1
abbrev N__law_round : List Str := ["system", "orbit", "start", "letter", "end"]
theorem sc__law_round : FnScope ["system", "orbit", "start", "letter", "end"] ["system", "orbit"] (defScope s__law_round) := ⟨rfl, rfl, rfl, by decide +kernel, rfl, by decide +kernel, by decide +kernel⟩
theorem ok_lround {f : Addr} {fd : FuncData} (B : Bt K mg tL tM tV) (Dd : Df K mg "_law_round" s__law_round ["system", "orbit"] f fd) : FnOk P w K mg base CX0 1 f fd ["system", "orbit"] spRound := by
  refine Dd.F.ok sc__law_round (fun vs H Q Ex h => ?_) (fun cdv A outer s H vs Q Ex hr h => ?_)
  · obtain ⟨p, o, S, orb, rfl, _⟩ := h
    rfl
  obtain ⟨p, o, S, orb, rfl, hS, hG, ho, q⟩ := h
  refine ⟨_, (pss_one (ps_ret (pe_callB (cr_any rfl) rfl B.b_any boot_any (pa_cons (pe_lc (own := [("start", 2), ("letter", 3), ("end", 4)]) (g := gTup K 3 (gCons (gName 2) (gCons (gName 3) (gCons (gName 4) gNil)))) (tt := tYes) rfl sc__law_round.nd (pi_tup (pe_ix (r := rIxT K) ix_tup (pv 0) pe_int (fun _ _ => rfl))) (blkOk_by (N := N__law_round) (sc := defScope s__law_round) (by decide +kernel)) (fun _ _ _ _ _ => pg_tup rfl (pgs_cons (pg_name (i := 2) sc__law_round.nd rfl (Or.inl rfl)) (pgs_cons (pg_name (i := 3) sc__law_round.nd rfl (Or.inl rfl)) (pgs_cons (pg_name (i := 4) sc__law_round.nd rfl (Or.inl rfl)) pgs_nil)))) (fun _ _ _ _ _ => pts_nil) (fun _ _ _ _ _ => (pe_and (pe_cmpR (r := rInB K) (op_in_seqB rfl) (pv 2) (pv 1) rfl) (pe_one (pe_cmpR (r := rInB K) (op_in_seqB rfl) (pv 4) (pv 1) rfl))))) pa_nil)))), ?_⟩
  obtain ⟨a, b, c, ts, h1, h2, h3, h4, h5⟩ := hS.ex
  have ml := hG.ml
  refine ⟨_, rfl, p, _, 1, _, rfl, rfl, SqT.of h1, at_one, b, rfl, ⟨_, SqT.of h3⟩, fun M hM => ?_⟩
  refine lc_tupR (K := K) (a := b) (xs := ts) (fun j => ((S.mv.take j).map fun m => decide (m.1 ∈ orb) && decide (m.2.2 ∈ orb)).map V.bl) rfl (fun j => ?_) hM (SqT.of h3) (fun j x H' hx s1 fin fin0 => ?_) (fun H1 s1 hk1 => ?_)
  · rw [List.length_map, List.length_map, List.length_take]
    omega
  · obtain ⟨m, hm, hmv⟩ := h4.get hx
    obtain ⟨t, rfl, ht⟩ := hmv.same s1
    have ho1 := s1 _ _ ho
    have fin2 := fin (.bl (decide (m.1 ∈ orb) && decide (m.2.2 ∈ orb))) H' (by rw [take_snoc hm, List.map_append, List.map_append]; rfl) (Same.refl _)
    refine ⟨t, _, rfl, SqT.of ht, rfl, _, _, rfl, _, _, rfl, _, _, rfl, rfl, rfl, tyes ⟨_, rfl, _, rfl, o, _, rfl, .inr (SqT.of ho1), rfl, flat_nats _, ?_⟩⟩
    refine ⟨_, rfl, ?_⟩
    show if inV (V.int (m.1 : Int)) (natsV orb) = true then _ else _
    rw [in_nats]
    refine ite2 (fun c1 => ?_) (fun c1 => ?_)
    · refine ⟨_, rfl, _, rfl, o, _, rfl, .inr (SqT.of ho1), rfl, flat_nats _, ?_⟩
      have e : (if false = true then !inV (V.int (m.2.2 : Int)) (natsV orb) else inV (V.int (m.2.2 : Int)) (natsV orb)) = (decide (m.1 ∈ orb) && decide (m.2.2 ∈ orb)) := by
        rw [if_neg Bool.false_ne_true, in_nats, c1, Bool.true_and]
      rw [e]
      exact fin2
    · rw [eq_false_of_ne_true c1, Bool.false_and] at fin2
      exact fin2
  · rw [h4.len, List.take_length] at hk1
    refine ⟨M, _, rfl, SqL.of hk1, ?_⟩
    have e : (((S.mv.map fun m => decide (m.1 ∈ orb) && decide (m.2.2 ∈ orb)).any id) : Bool) = roundB S orb := by
      unfold roundB
      rw [List.any_map]
      rfl
    rw [e]
    exact q H1 s1
abbrev N_goes_round : List Str := ["system", "state"]
theorem sc_goes_round : FnScope ["system", "state"] ["system", "state"] (defScope s_goes_round) := ⟨rfl, rfl, rfl, by decide +kernel, rfl, by decide +kernel, by decide +kernel⟩
theorem ok_goes {f : Addr} {fd : FuncData} (B : Bt K mg tL tM tV) (Dd : Df K mg "goes_round" s_goes_round ["system", "state"] f fd) (Gcheck_system : Cl P w K mg base 5 "check_system" ["value"] spChkSys) (Gcheck_state : Cl P w K mg base 3 "check_state" ["system", "value"] spChkState) (Gorbit_at : Cl P w K mg base 2 "orbit_at" ["system", "state"] spOrbitAt) (Gis_round : Cl P w K mg base 1 "is_round" ["system", "orbit"] spRound) : FnOk P w K mg base CX0 6 f fd ["system", "state"] spGoes := by
  refine Dd.F.ok sc_goes_round (fun vs H Q Ex h => ?_) (fun cdv A outer s H vs Q Ex hr h => ?_)
  · obtain ⟨p, S, s, rfl, _⟩ := h
    rfl
  obtain ⟨p, S, y, rfl, hS, hG, hys, q⟩ := h
  refine ⟨_, (pss_cons (ps_expr (pe_cl Gcheck_system (hr.mono (by omega)) rfl (pa_cons (pv 0) pa_nil)))
    (pss_cons (ps_expr (pe_cl Gcheck_state (hr.mono (by omega)) rfl (pa_cons (pv 0) (pa_cons (pv 1) pa_nil))))
    (pss_one (ps_ret (pe_cl Gis_round (hr.mono (by omega)) rfl (pa_cons (pv 0) (pa_cons (pe_cl Gorbit_at (hr.mono (by omega)) rfl (pa_cons (pv 0) (pa_cons (pv 1) pa_nil))) pa_nil))))))), ?_⟩
  refine ⟨_, rfl, p, S, rfl, hS, hG, fun H1 s1 => ?_⟩
  refine ⟨_, rfl, _, rfl, p, S, y, rfl, hS.same s1, hG, hys, ?_⟩
  refine ⟨_, rfl, _, rfl, _, rfl, p, S, y, rfl, hS.same s1, hG, hys, fun o H2 s2 ho => ?_⟩
  exact ⟨p, o, S, orbL S y, rfl, (hS.same s1).same s2, hG, ho, fun H3 s3 => q H3 (s1.trans (s2.trans s3))⟩
end
end My
namespace My
open PySem PySem.Spec PyProof.Rows L2
def spLaw (K : PySem.W.Frag) : Sp := fun vs H Q _ => ∃ (s : Addr) (ns : List Int), vs = [.ref s] ∧ SqL K H s (ns.map V.int) ∧ ns.length ≤ 63 ∧ ∀ H', Q (.bl true) H'
theorem repJ_two {H : Hp} {p : Addr} {xs : List V} {js : List J} {n : Nat} (h : H p = some (.tup xs)) (z : xs.length ≤ 100000) (two : Two (fun x j => RepJ H x j n) xs js) : RepJ H (.ref p) (.tup js) (n + 1) := .tup h z two.len fun _ _ _ hx hj => two.get2 hx hj
theorem repJ_lst {H : Hp} {p : Addr} {xs : List V} {js : List J} {n : Nat} (h : H p = some (.lst xs)) (z : xs.length ≤ 100000) (two : Two (fun x j => RepJ H x j n) xs js) : RepJ H (.ref p) (.lst js) (n + 1) := .lst h z two.len fun _ _ _ hx hj => two.get2 hx hj
theorem two_map {α β γ : Type} {R : α → β → Prop} {T : α → γ → Prop} {g : β → γ} {as : List α} {bs : List β} (h : Two R as bs) (k : ∀ a b, b ∈ bs → R a b → T a (g b)) : Two T as (bs.map g) := by
  induction h with
  | nil => exact .nil
  | cons h _ ih => exact .cons (k _ _ (List.mem_cons_self ..) h) (ih fun a b hb => k a b (List.mem_cons_of_mem _ hb))
theorem two_nats {H : Hp} {n : Nat} : ∀ xs : List Nat, Two (fun x j => RepJ H x j n) (natsV xs) (xs.map fun (i : Nat) => J.int (i : Int))
  | [] => .nil
  | x :: xs => .cons (.int _) (two_nats xs)
def natJ (xs : List Nat) : J := .tup (xs.map fun (i : Nat) => J.int (i : Int))
theorem natJ_rep {H : Hp} {t : Addr} {xs : List Nat} (h : H t = some (.tup (natsV xs))) (hl : xs.length ≤ 1000) : RepJ H (.ref t) (natJ xs) 1 := repJ_two h (by rw [natsV_len]; omega) (two_nats _)
theorem rows_rep {H : Hp} {R : Addr} {S : Sy} (G : Good S) (h : RowsTu H R (orbsL S)) : RepJ H (.ref R) (.lst ((orbsL S).map natJ)) 2 := by
  obtain ⟨ts, h1, two⟩ := h
  have ol := orbs_len G
  refine repJ_lst h1 (by rw [two.len]; omega) (two_map two fun v r hr h => ?_)
  obtain ⟨q, rfl, h⟩ := h
  obtain ⟨i, hi⟩ := List.getElem?_of_mem hr
  obtain ⟨x, _, e, _, _⟩ := orbs_get hi
  exact natJ_rep h (by rw [e]; have := orb_len G x; omega)
theorem flat_nodup {S : Sy} (G : Good S) : (orbsL S).flatten.Nodup := by
  rw [List.nodup_iff_pairwise_ne, List.pairwise_flatten]
  refine ⟨fun r hr => ?_, ?_⟩
  · obtain ⟨i, hi⟩ := List.getElem?_of_mem hr
    obtain ⟨x, _, e, _, _⟩ := orbs_get hi
    have : r.Pairwise (· < ·) := by rw [e]; exact G.rise.sublist List.filter_sublist
    exact this.imp fun h => by omega
  · rw [List.pairwise_iff_getElem]
    intro i j hi hj hij x hx y hy e
    rw [e] at hx
    have := orbs_one G (List.getElem?_eq_getElem hi) (List.getElem?_eq_getElem hj) hx hy
    omega
theorem flat_mem {S : Sy} (n : Nat) : n ∈ (orbsL S).flatten ↔ n ∈ S.st := by
  rw [List.mem_flatten]
  constructor
  · rintro ⟨r, hr, h⟩
    obtain ⟨i, hi⟩ := List.getElem?_of_mem hr
    obtain ⟨x, _, e, _, _⟩ := orbs_get hi
    rw [e] at h
    exact (mem_orb.mp h).1
  · intro h
    obtain ⟨i, r, hi, hr⟩ := orbs_mem h
    exact ⟨r, List.mem_of_getElem? hi, hr⟩
theorem flat_len : ∀ (rows : List (List Nat)), (∀ r ∈ rows, r.length ≤ 40) → rows.flatten.length ≤ 40 * rows.length
  | [], _ => Nat.zero_le _
  | r :: rows, h => by
    have h1 := h r (List.mem_cons_self ..)
    have h2 := flat_len rows fun x hx => h x (List.mem_cons_of_mem _ hx)
    rw [List.flatten_cons, List.length_append, List.length_cons]
    omega
theorem lst_eqv (a b : List Nat) : PyData.eqv (.list (psd a)) (.list (psd b)) = decide (a = b) := by
  rw [← psd_eqv]
  simp only [PyData.eqv]
theorem lst_shaped (ns : List Nat) : SeqAt.shaped (.list (psd ns)) = true := by
  show (PyData.canLay0 (.list (psd ns)) && decide (PyData.depth (.list (psd ns)) ≤ 64)) = true
  have h1 : PyData.canLay0 (.list (psd ns)) = true := psd_lay ns
  have h2 : PyData.depth (.list (psd ns)) = PyData.depthAll (psd ns) + 1 := by simp [PyData.depth]
  rw [h1, h2, psd_dep]
  rfl
theorem RowsTu.store {H : Hp} {R1 R2 : Addr} {xs ys : List V} {rows : List (List Nat)} (h2 : H R2 = some (.lst xs)) (ne : R1 ≠ R2) (h : RowsTu H R1 rows) : RowsTu (upd H R2 (.lst ys)) R1 rows := by
  obtain ⟨ts, h1, two⟩ := h
  refine ⟨ts, by rw [upd_ne ne]; exact h1, two.mono fun t r ⟨q, e, h⟩ => ⟨q, e, ?_⟩⟩
  rw [upd_ne fun e => by rw [e, h2] at h; cases h]
  exact h
section
variable {P : Program} {w : World} {K : PySem.W.Frag} {mg : Str → Option Value} {base : Heap} {tL tM tV : Tok}
abbrev N_law : List Str := ["script", "stream", "system", "due", "told", "states", "orbit", "state"]
theorem sc_law : FnScope ["script", "stream", "system", "due", "told", "states", "orbit", "state"] ["script"] (defScope s_law) := ⟨rfl, rfl, rfl, by decide +kernel, rfl, by decide +kernel, by decide +kernel⟩
set_option maxHeartbeats 2000000 in
theorem ok_law {f : Addr} {fd : FuncData} (B : Bt K mg tL tM tV) (Dd : Df K mg "law" s_law ["script"] f fd)
    (G_law_stream : Cl P w K mg base 1 "_law_stream" ["script"] (spStream K)) (G_law_system : Cl P w K mg base 2 "_law_system" ["stream", "most"] spLawSys) (G_law_equal : Cl P w K mg base 5 "_law_equal" ["actual", "due"] (spEqual 4))
    (G_law_orbits : Cl P w K mg base 2 "_law_orbits" ["system"] spOrbitsOf) (Gorbits : Cl P w K mg base 6 "orbits" ["system"] spOrbitsOf) (Greached : Cl P w K mg base 6 "reached" ["system", "state"] spReach) (G_law_reached : Cl P w K mg base 1 "_law_reached" ["system", "state"] spLR)
    (Ggoes_round : Cl P w K mg base 6 "goes_round" ["system", "state"] spGoes) (G_law_round : Cl P w K mg base 1 "_law_round" ["system", "orbit"] spRound) (G_law_orbit : Cl P w K mg base 3 "_law_orbit" ["system", "state"] spOrbitAt) : FnOk P w K mg base CX0 9 f fd ["script"] (spLaw K) := by
  refine Dd.F.ok sc_law (fun vs H Q Ex h => ?_) (fun cdv A outer s H vs Q Ex hr h => ?_)
  · obtain ⟨s, ns, rfl, _⟩ := h
    rfl
  obtain ⟨s, ns, rfl, hs, hn, q⟩ := h
  refine ⟨_, (pss_cons (ps_set (i := 1) sc_law.nd rfl (Or.inl rfl) (pe_cl G_law_stream (hr.mono (by omega)) rfl (pa_cons (pv 0) pa_nil)))
    (pss_cons (ps_set (i := 2) sc_law.nd rfl (Or.inl rfl) (pe_cl G_law_system (hr.mono (by omega)) rfl (pa_cons (pv 1) (pa_cons pe_int pa_nil))))
    (pss_cons (ps_set (i := 3) sc_law.nd rfl (Or.inl rfl) (pe_cl G_law_orbits (hr.mono (by omega)) rfl (pa_cons (pv 2) pa_nil)))
    (pss_cons (ps_set (i := 4) sc_law.nd rfl (Or.inl rfl) (pe_cl Gorbits (hr.mono (by omega)) rfl (pa_cons (pv 2) pa_nil)))
    (pss_cons (ps_set (i := 5) sc_law.nd rfl (Or.inl rfl) (pe_lst pa_nil))
    (pss_cons (ps_for PassesOwn.never rfl (pi_list (pv 3)) (pg_name (i := 6) sc_law.nd rfl (Or.inl rfl)) (pss_one (ps_set (i := 5) sc_law.nd rfl (Or.inl rfl) (pe_op op_cat (pv 5) (pe_callTy call_list_of rfl B.b_list boot_list (pa_cons (pv 6) pa_nil))))))
    (pss_cons (ps_if (PW.pt (pw_or (pt_not (pt_val (pe_cl G_law_equal (hr.mono (by omega)) rfl (pa_cons (pv 4) (pa_cons (pv 3) pa_nil))))) (pw_or1 (pt_cmpR (op_neD (u64 hr)) (pe_callB cr_sortedI rfl B.b_sorted boot_sorted (pa_cons (pv 5) pa_nil)) (pe_callTy call_list_of rfl B.b_list boot_list (pa_cons (pe_ix (r := rIxT K) ix_tup (pv 2) pe_int (fun _ _ => rfl)) pa_nil)) (nomark _))))) (pss_one (ps_ret pe_bl)) pss_nil)
    (pss_cons (ps_expr (pe_bm PySem.F.plainAttrs_list PySem.F.slot_list_append PySem.F.type_list_append mt_append (pv 4) (pa_cons (pe_tup pa_nil) pa_nil)))
    (pss_cons (ps_if (pt_not (pt_val (pe_cl G_law_equal (hr.mono (by omega)) rfl (pa_cons (pe_cl Gorbits (hr.mono (by omega)) rfl (pa_cons (pv 2) pa_nil)) (pa_cons (pv 3) pa_nil))))) (pss_one (ps_ret pe_bl)) pss_nil)
    (pss_cons (ps_for PassesOwn.never rfl (pi_tup (pe_ix (r := rIxT K) ix_tup (pv 2) pe_int (fun _ _ => rfl))) (pg_name (i := 7) sc_law.nd rfl (Or.inl rfl)) (pss_cons (ps_if (pt_not (pt_val (pe_cl G_law_equal (hr.mono (by omega)) rfl (pa_cons (pe_cl Greached (hr.mono (by omega)) rfl (pa_cons (pv 2) (pa_cons (pv 7) pa_nil))) (pa_cons (pe_callTy (r := rTupOf K) call_tuple_ofK rfl B.b_tuple boot_tuple (pa_cons (pe_callB cr_sortedI rfl B.b_sorted boot_sorted (pa_cons (pe_cl G_law_reached (hr.mono (by omega)) rfl (pa_cons (pv 2) (pa_cons (pv 7) pa_nil))) pa_nil)) pa_nil)) pa_nil))))) (pss_one (ps_ret pe_bl)) pss_nil)
    (pss_one (ps_if (pt_not (pt_val (pe_cl G_law_equal (hr.mono (by omega)) rfl (pa_cons (pe_cl Ggoes_round (hr.mono (by omega)) rfl (pa_cons (pv 2) (pa_cons (pv 7) pa_nil))) (pa_cons (pe_cl G_law_round (hr.mono (by omega)) rfl (pa_cons (pv 2) (pa_cons (pe_cl G_law_orbit (hr.mono (by omega)) rfl (pa_cons (pv 2) (pa_cons (pv 7) pa_nil))) pa_nil))) pa_nil))))) (pss_one (ps_ret pe_bl)) pss_nil))))
    (pss_one (ps_ret pe_bl)))))))))))), ?_⟩
  refine ⟨_, rfl, s, ns, rfl, hs, hn, fun a H1 s1 ha st1 => ?_⟩
  refine ⟨_, rfl, a, 6, rfl, st1, by decide, by decide, fun p S H2 g2 hS hG hl6 => ?_⟩
  have ol := orbs_len hG
  have sl := hG.len
  refine ⟨_, rfl, p, S, rfl, hS, hG, fun R1 H3 s3 hR1 hRT1 => ?_⟩
  refine ⟨_, rfl, p, S, rfl, hS.same s3, hG, fun R2 H4 s4 hR2 hRT2 => ?_⟩
  refine ⟨by show 0 ≤ sizeLine; decide, fun L hL => ?_⟩
  have u5 := same_upd (o := .lst []) hL
  have hS5 := hS.same (s3.trans (s4.trans u5))
  have hRT1 := hRT1.same (s4.trans u5)
  have hRT2 := hRT2.same u5
  have hR12 : R1 ≠ R2 := fun e => by
    obtain ⟨ts, h, _⟩ := hRT1
    obtain ⟨ts1, h1, _⟩ : RowsTu H3 R1 (orbsL S) := by assumption
    rw [e, hR2] at h1
    cases h1
  have hL5 : (upd H4 L (.lst [])) L = some (.lst (natsV [])) := upd_same
  revert hS5 hRT1 hRT2 hL5
  generalize upd H4 L (.lst []) = H5
  intro hS5 hRT1 hRT2 hL5
  obtain ⟨ts1, hts1, two1⟩ := id hRT1
  obtain ⟨ts2, hts2, two2⟩ := id hRT2
  obtain ⟨pa, pb, pc, mts, p1, p2, p3, p4, p5⟩ := hS5.ex
  have row40 : ∀ r ∈ orbsL S, r.length ≤ 40 := fun r hr => by
    obtain ⟨i, hi⟩ := List.getElem?_of_mem hr
    obtain ⟨x, _, e, _, _⟩ := orbs_get hi
    rw [e]
    exact orb_len hG x
  have tlen := two1.len
  refine ⟨_, rfl, R1, rfl, ⟨_, SqL.of hts1⟩, for_list (K := K) (a := R1) (xs := ts1) (fun i σ' H' => ∃ (Z : Addr) (o6 : Option V), σ' = [some (.ref s), some (.ref a), some (.ref p), some (.ref R1), some (.ref R2), some (.ref Z), o6, none] ∧ Same H5 H' ∧ H' Z = some (.lst (natsV ((orbsL S).take i).flatten))) ?_ ?_ ?_ ?_⟩
  · exact ⟨L, none, rfl, Same.refl _, hL5⟩
  · rintro i σ' H' _ ⟨Z, o6, rfl, s6, _⟩
    exact SqL.of (s6 _ _ hts1)
  · rintro i v σ' H6 hv ⟨Z, o6, rfl, s6, hZ⟩
    obtain ⟨row, hrow, q1, rfl, hq1⟩ := two1.get hv
    have hil := (List.getElem?_eq_some_iff.mp hv).1
    have r40 := row40 row (List.mem_of_getElem? hrow)
    have fl := flat_len ((orbsL S).take i) fun r hr => row40 r (List.mem_of_mem_take hr)
    rw [List.length_take] at fl
    refine ⟨_, rfl, _, rfl, q1, _, rfl, .inr (SqT.of (s6 _ _ hq1)), fun l hl => ?_⟩
    have u7 := same_upd (o := .lst (natsV row)) hl
    refine ⟨Z, l, _, _, rfl, rfl, u7 _ _ hZ, upd_same, ?_, fun X hX => ?_⟩
    · rw [natsV_len, natsV_len]
      exact Nat.le_trans (m := 1640) (by omega) (by decide)
    refine ⟨X, _, rfl, s6.trans (u7.trans (same_upd hX)), ?_⟩
    rw [upd_same, take_snoc hrow, List.flatten_append, List.flatten_cons, List.flatten_nil, List.append_nil]
    unfold natsV
    rw [List.map_append]
  · rintro σ' H6 ⟨Z, o6, rfl, s6, hZ⟩
    rw [tlen, List.take_length] at hZ
    refine ⟨_, rfl, _, rfl, _, _, _, 2, rfl, by decide, rows_rep hG (hRT2.same s6), rows_rep hG (hRT1.same s6), fun H7 s7 => ⟨_, rfl, ?_⟩⟩
    have S7 := s6.trans s7
    have hZ7 : SqL K H7 Z ((((orbsL S).flatten).map fun (n : Nat) => (n : Int)).map V.int) := by
      rw [List.map_map]
      exact SqL.of (s7 _ _ hZ)
    refine ⟨_, rfl, Z, _, rfl, hZ7, fun ns' X hp hso hX => ?_⟩
    have e1 := sorted_nats hp hso (flat_nodup hG) hG.rise flat_mem
    have hX2 : (upd H7 X (.lst (ns'.map V.int))) X = some (.lst (natsV S.st)) := by
      rw [upd_same, e1, natsV, List.map_map]
      rfl
    have u8 := same_upd (o := .lst (ns'.map V.int)) hX
    revert hX2 u8
    generalize upd H7 X (.lst (ns'.map V.int)) = H8
    intro hX2 u8
    have S8 := S7.trans u8
    refine ⟨_, rfl, p, _, 0, _, rfl, rfl, SqT.of (S8 _ _ p1), at_zero, pa, _, rfl, .inr (SqT.of (S8 _ _ p2)), fun Y hY => ?_⟩
    have u9 := same_upd (o := .lst (natsV S.st)) hY
    refine ⟨.list (psd S.st), .list (psd S.st), .lst (SqL.of (u9 _ _ hX2)) (dpAll_ints _), .lst (SqL.of upd_same) (dpAll_ints _), lst_shaped _, lst_shaped _, _, rfl, ?_⟩
    rw [lst_eqv, decide_eq_true rfl]
    refine iteF ?_
    have S9 := S8.trans u9
    revert S9
    generalize upd H8 Y (.lst (natsV S.st)) = H9
    intro S9
    refine ⟨_, rfl, .inl ⟨rfl, _, SqL.of (S9 _ _ hts2)⟩, Nat.zero_le _, fun T hT => ?_⟩
    have uT := same_upd (o := .tup []) hT
    have S10 := S9.trans uT
    have h2T := S10 _ _ hts2
    refine ⟨R2, ts2, _, rfl, rfl, h2T, Nat.lt_of_le_of_lt (m := 40) (by rw [two2.len]; exact ol) (by decide), ?_⟩
    have hRT11 := (hRT1.same S10).store (ys := ts2 ++ [.ref T]) h2T hR12
    have hS11 := (hS5.same S10).pers (Pers.store (ys := ts2 ++ [.ref T]) h2T)
    revert hRT11 hS11
    generalize upd (upd H9 T (.tup [])) R2 (.lst (ts2 ++ [.ref T])) = H11
    intro hRT11 hS11
    refine ⟨_, rfl, p, S, rfl, hS11, hG, fun R3 H12 s12 hR3 hRT3 => ?_⟩
    refine ⟨_, rfl, _, _, _, 2, rfl, by decide, rows_rep hG hRT3, rows_rep hG (hRT11.same s12), fun H13 s13 => ⟨_, rfl, iteF ?_⟩⟩
    have hS13 := hS11.same (s12.trans s13)
    obtain ⟨qa, qb, qc, qts, q1, q2, q3, q4, q5⟩ := hS13.ex
    refine ⟨_, rfl, p, _, 0, _, rfl, rfl, SqT.of q1, at_zero, qa, rfl, ⟨_, SqT.of q2⟩, for_tup (K := K) (a := qa) (xs := natsV S.st) (fun i σ' H' => ∃ (Z6 : Option V) (o7 : Option V), σ' = [some (.ref s), some (.ref a), some (.ref p), some (.ref R1), some (.ref R2), some (.ref Z), Z6, o7] ∧ Same H13 H') ?_ ?_ ?_ ?_⟩
    · exact ⟨_, _, rfl, Same.refl _⟩
    · rintro i σ' H' _ ⟨o6, o7, rfl, s14⟩
      exact SqT.of (s14 _ _ q2)
    · rintro i v σ' H14 hv ⟨o6, o7, rfl, s14⟩
      obtain ⟨y, hy, rfl⟩ := natsV_getB hv
      have hys := List.mem_of_getElem? hy
      have rl : (reachL S y).length ≤ 1000 := Nat.le_trans (List.length_filter_le _ _) (by omega)
      refine ⟨_, rfl, _, rfl, p, S, y, rfl, hS13.same s14, hG, hys, fun t1 H15 s15 ht1 => ?_⟩
      have S15 := s14.trans s15
      refine ⟨_, rfl, _, rfl, p, S, y, rfl, hS13.same S15, hG, hys, fun F fs H16 s16 hF0 hF hfs => ?_⟩
      have S16 := S15.trans s16
      have hF2 : SqL K H16 F ((fs.map fun (n : Nat) => (n : Int)).map V.int) := by
        rw [List.map_map]
        exact SqL.of hF
      refine ⟨F, _, rfl, hF2, fun ns2 X2 hp2 hs2 hX2 => ?_⟩
      have e2 := sorted_nats hp2 hs2 hfs.1 (reach_rise hG y) fun n => (hfs.2 n).trans (mem_reach hG hys).symm
      have hX3 : (upd H16 X2 (.lst (ns2.map V.int))) X2 = some (.lst (natsV (reachL S y))) := by
        rw [upd_same, e2, natsV, List.map_map]
        rfl
      have uX := same_upd (o := .lst (ns2.map V.int)) hX2
      revert hX3 uX
      generalize upd H16 X2 (.lst (ns2.map V.int)) = H17
      intro hX3 uX
      refine ⟨X2, _, rfl, .inl ⟨SqL.of hX3, fun t2 ht2 => ?_⟩⟩
      have ut := same_upd (o := .tup (natsV (reachL S y))) ht2
      refine ⟨_, _, _, 1, rfl, by decide, natJ_rep ((s16.trans (uX.trans ut)) _ _ ht1) rl, natJ_rep upd_same rl, fun H18 s18 => ⟨_, rfl, iteF ?_⟩⟩
      have S18 := S16.trans (uX.trans (ut.trans s18))
      refine ⟨_, rfl, _, rfl, p, S, y, rfl, hS13.same S18, hG, hys, fun H19 s19 => ?_⟩
      have S19 := S18.trans s19
      refine ⟨_, rfl, _, rfl, _, rfl, p, S, y, rfl, hS13.same S19, hG, hys, fun o H20 s20 ho => ?_⟩
      have S20 := S19.trans s20
      refine ⟨p, o, S, orbL S y, rfl, hS13.same S20, hG, ho, fun H21 s21 => ?_⟩
      refine ⟨_, _, .bl (roundB S (orbL S y)), 1, rfl, by decide, .bl _, .bl _, fun H22 s22 => ⟨_, rfl, iteF ?_⟩⟩
      exact ⟨_, _, rfl, S20.trans (s21.trans s22)⟩
    · rintro σ' H14 ⟨o6, o7, rfl, s14⟩
      exact q H14
end
end My
namespace My
open PySem PySem.Spec PyProof.Rows L2
theorem all_mk {l : PySem.W.OpenLaw} {w : World} {K : PySem.W.Frag} {h : Heap} {mg : Str → Option Value} {fa : Addr} (X : K.In h) (G : h.Ns mainGlobals mg) (hfa : mg "law" = some (.ref fa))
    {od1 an1 od2 an2 od3 an3 od4 an4 od5 an5 od6 an6 od7 an7 od8 an8 od9 an9 od10 an10 od11 an11 od12 an12 od13 an13 od14 an14 od15 an15 od16 an16 od17 an17 od18 an18 od19 an19 od20 an20 od21 an21 od22 an22 od23 an23 od24 an24 od25 an25 od26 an26 od27 an27 : Option Addr} {sl1 sl2 sl3 sl4 sl5 sl6 sl7 sl8 sl9 sl10 sl11 sl12 sl13 sl14 sl15 sl16 sl17 sl18 sl19 sl20 sl21 sl22 sl23 sl24 sl25 sl26 sl27 : Array (Option Value)} {oc1 kV1 dc1 pm1 cd1 ct1 oc2 kV2 dc2 pm2 cd2 ct2 oc3 kV3 dc3 pm3 cd3 ct3 oc4 kV4 dc4 pm4 cd4 ct4 oc5 kV5 dc5 pm5 cd5 ct5 oc6 kV6 dc6 pm6 cd6 ct6 oc7 kV7 dc7 pm7 cd7 ct7 oc8 kV8 dc8 pm8 cd8 ct8 oc9 kV9 dc9 pm9 cd9 ct9 oc10 kV10 dc10 pm10 cd10 ct10 oc11 kV11 dc11 pm11 cd11 ct11 oc12 kV12 dc12 pm12 cd12 ct12 oc13 kV13 dc13 pm13 cd13 ct13 oc14 kV14 dc14 pm14 cd14 ct14 oc15 kV15 dc15 pm15 cd15 ct15 oc16 kV16 dc16 pm16 cd16 ct16 oc17 kV17 dc17 pm17 cd17 ct17 oc18 kV18 dc18 pm18 cd18 ct18 oc19 kV19 dc19 pm19 cd19 ct19 oc20 kV20 dc20 pm20 cd20 ct20 oc21 kV21 dc21 pm21 cd21 ct21 oc22 kV22 dc22 pm22 cd22 ct22 oc23 kV23 dc23 pm23 cd23 ct23 oc24 kV24 dc24 pm24 cd24 ct24 oc25 kV25 dc25 pm25 cd25 ct25 oc26 kV26 dc26 pm26 cd26 ct26 oc27 kV27 dc27 pm27 cd27 ct27 : Value} {f1 f2 f3 f4 f5 f6 f7 f8 f9 f10 f11 f12 f13 f14 f15 f16 f17 f18 f19 f20 f21 f22 f23 f24 f25 f26 f27 : Addr}
    (a1 : PySem.W.nsIn K mainGlobals "is_number" = some (some (.ref f1))) (l1 : K.lookup f1 = some ⟨oc1, od1, .func (PySem.W.fnOf "is_number" "is_number" (defArgs s_is_number) (defBody s_is_number) (defScope s_is_number) .none kV1 dc1 pm1 an1 cd1 ct1), sl1⟩) (c1 : PySem.W.codeIn K cd1 "is_number" = true) (k1 : PySem.W.keepIn K (.ref f1) = true)
    (a2 : PySem.W.nsIn K mainGlobals "is_letter" = some (some (.ref f2))) (l2 : K.lookup f2 = some ⟨oc2, od2, .func (PySem.W.fnOf "is_letter" "is_letter" (defArgs s_is_letter) (defBody s_is_letter) (defScope s_is_letter) .none kV2 dc2 pm2 an2 cd2 ct2), sl2⟩) (c2 : PySem.W.codeIn K cd2 "is_letter" = true) (k2 : PySem.W.keepIn K (.ref f2) = true)
    (a3 : PySem.W.nsIn K mainGlobals "are_moves" = some (some (.ref f3))) (l3 : K.lookup f3 = some ⟨oc3, od3, .func (PySem.W.fnOf "are_moves" "are_moves" (defArgs s_are_moves) (defBody s_are_moves) (defScope s_are_moves) .none kV3 dc3 pm3 an3 cd3 ct3), sl3⟩) (c3 : PySem.W.codeIn K cd3 "are_moves" = true) (k3 : PySem.W.keepIn K (.ref f3) = true)
    (a4 : PySem.W.nsIn K mainGlobals "_is_move" = some (some (.ref f4))) (l4 : K.lookup f4 = some ⟨oc4, od4, .func (PySem.W.fnOf "_is_move" "_is_move" (defArgs s__is_move) (defBody s__is_move) (defScope s__is_move) .none kV4 dc4 pm4 an4 cd4 ct4), sl4⟩) (c4 : PySem.W.codeIn K cd4 "_is_move" = true) (k4 : PySem.W.keepIn K (.ref f4) = true)
    (a5 : PySem.W.nsIn K mainGlobals "is_system" = some (some (.ref f5))) (l5 : K.lookup f5 = some ⟨oc5, od5, .func (PySem.W.fnOf "is_system" "is_system" (defArgs s_is_system) (defBody s_is_system) (defScope s_is_system) .none kV5 dc5 pm5 an5 cd5 ct5), sl5⟩) (c5 : PySem.W.codeIn K cd5 "is_system" = true) (k5 : PySem.W.keepIn K (.ref f5) = true)
    (a6 : PySem.W.nsIn K mainGlobals "_are_states" = some (some (.ref f6))) (l6 : K.lookup f6 = some ⟨oc6, od6, .func (PySem.W.fnOf "_are_states" "_are_states" (defArgs s__are_states) (defBody s__are_states) (defScope s__are_states) .none kV6 dc6 pm6 an6 cd6 ct6), sl6⟩) (c6 : PySem.W.codeIn K cd6 "_are_states" = true) (k6 : PySem.W.keepIn K (.ref f6) = true)
    (a7 : PySem.W.nsIn K mainGlobals "check_system" = some (some (.ref f7))) (l7 : K.lookup f7 = some ⟨oc7, od7, .func (PySem.W.fnOf "check_system" "check_system" (defArgs s_check_system) (defBody s_check_system) (defScope s_check_system) .none kV7 dc7 pm7 an7 cd7 ct7), sl7⟩) (c7 : PySem.W.codeIn K cd7 "check_system" = true) (k7 : PySem.W.keepIn K (.ref f7) = true)
    (a8 : PySem.W.nsIn K mainGlobals "check_state" = some (some (.ref f8))) (l8 : K.lookup f8 = some ⟨oc8, od8, .func (PySem.W.fnOf "check_state" "check_state" (defArgs s_check_state) (defBody s_check_state) (defScope s_check_state) .none kV8 dc8 pm8 an8 cd8 ct8), sl8⟩) (c8 : PySem.W.codeIn K cd8 "check_state" = true) (k8 : PySem.W.keepIn K (.ref f8) = true)
    (a9 : PySem.W.nsIn K mainGlobals "is_state" = some (some (.ref f9))) (l9 : K.lookup f9 = some ⟨oc9, od9, .func (PySem.W.fnOf "is_state" "is_state" (defArgs s_is_state) (defBody s_is_state) (defScope s_is_state) .none kV9 dc9 pm9 an9 cd9 ct9), sl9⟩) (c9 : PySem.W.codeIn K cd9 "is_state" = true) (k9 : PySem.W.keepIn K (.ref f9) = true)
    (a10 : PySem.W.nsIn K mainGlobals "reached" = some (some (.ref f10))) (l10 : K.lookup f10 = some ⟨oc10, od10, .func (PySem.W.fnOf "reached" "reached" (defArgs s_reached) (defBody s_reached) (defScope s_reached) .none kV10 dc10 pm10 an10 cd10 ct10), sl10⟩) (c10 : PySem.W.codeIn K cd10 "reached" = true) (k10 : PySem.W.keepIn K (.ref f10) = true)
    (a11 : PySem.W.nsIn K mainGlobals "_ends_by_state" = some (some (.ref f11))) (l11 : K.lookup f11 = some ⟨oc11, od11, .func (PySem.W.fnOf "_ends_by_state" "_ends_by_state" (defArgs s__ends_by_state) (defBody s__ends_by_state) (defScope s__ends_by_state) .none kV11 dc11 pm11 an11 cd11 ct11), sl11⟩) (c11 : PySem.W.codeIn K cd11 "_ends_by_state" = true) (k11 : PySem.W.keepIn K (.ref f11) = true)
    (a12 : PySem.W.nsIn K mainGlobals "_reached_from" = some (some (.ref f12))) (l12 : K.lookup f12 = some ⟨oc12, od12, .func (PySem.W.fnOf "_reached_from" "_reached_from" (defArgs s__reached_from) (defBody s__reached_from) (defScope s__reached_from) .none kV12 dc12 pm12 an12 cd12 ct12), sl12⟩) (c12 : PySem.W.codeIn K cd12 "_reached_from" = true) (k12 : PySem.W.keepIn K (.ref f12) = true)
    (a13 : PySem.W.nsIn K mainGlobals "orbits" = some (some (.ref f13))) (l13 : K.lookup f13 = some ⟨oc13, od13, .func (PySem.W.fnOf "orbits" "orbits" (defArgs s_orbits) (defBody s_orbits) (defScope s_orbits) .none kV13 dc13 pm13 an13 cd13 ct13), sl13⟩) (c13 : PySem.W.codeIn K cd13 "orbits" = true) (k13 : PySem.W.keepIn K (.ref f13) = true)
    (a14 : PySem.W.nsIn K mainGlobals "orbits_of" = some (some (.ref f14))) (l14 : K.lookup f14 = some ⟨oc14, od14, .func (PySem.W.fnOf "orbits_of" "orbits_of" (defArgs s_orbits_of) (defBody s_orbits_of) (defScope s_orbits_of) .none kV14 dc14 pm14 an14 cd14 ct14), sl14⟩) (c14 : PySem.W.codeIn K cd14 "orbits_of" = true) (k14 : PySem.W.keepIn K (.ref f14) = true)
    (a15 : PySem.W.nsIn K mainGlobals "orbit_at" = some (some (.ref f15))) (l15 : K.lookup f15 = some ⟨oc15, od15, .func (PySem.W.fnOf "orbit_at" "orbit_at" (defArgs s_orbit_at) (defBody s_orbit_at) (defScope s_orbit_at) .none kV15 dc15 pm15 an15 cd15 ct15), sl15⟩) (c15 : PySem.W.codeIn K cd15 "orbit_at" = true) (k15 : PySem.W.keepIn K (.ref f15) = true)
    (a16 : PySem.W.nsIn K mainGlobals "goes_round" = some (some (.ref f16))) (l16 : K.lookup f16 = some ⟨oc16, od16, .func (PySem.W.fnOf "goes_round" "goes_round" (defArgs s_goes_round) (defBody s_goes_round) (defScope s_goes_round) .none kV16 dc16 pm16 an16 cd16 ct16), sl16⟩) (c16 : PySem.W.codeIn K cd16 "goes_round" = true) (k16 : PySem.W.keepIn K (.ref f16) = true)
    (a17 : PySem.W.nsIn K mainGlobals "is_round" = some (some (.ref f17))) (l17 : K.lookup f17 = some ⟨oc17, od17, .func (PySem.W.fnOf "is_round" "is_round" (defArgs s_is_round) (defBody s_is_round) (defScope s_is_round) .none kV17 dc17 pm17 an17 cd17 ct17), sl17⟩) (c17 : PySem.W.codeIn K cd17 "is_round" = true) (k17 : PySem.W.keepIn K (.ref f17) = true)
    (a18 : PySem.W.nsIn K mainGlobals "_law_stream" = some (some (.ref f18))) (l18 : K.lookup f18 = some ⟨oc18, od18, .func (PySem.W.fnOf "_law_stream" "_law_stream" (defArgs s__law_stream) (defBody s__law_stream) (defScope s__law_stream) .none kV18 dc18 pm18 an18 cd18 ct18), sl18⟩) (c18 : PySem.W.codeIn K cd18 "_law_stream" = true) (k18 : PySem.W.keepIn K (.ref f18) = true)
    (a19 : PySem.W.nsIn K mainGlobals "_law_next" = some (some (.ref f19))) (l19 : K.lookup f19 = some ⟨oc19, od19, .func (PySem.W.fnOf "_law_next" "_law_next" (defArgs s__law_next) (defBody s__law_next) (defScope s__law_next) .none kV19 dc19 pm19 an19 cd19 ct19), sl19⟩) (c19 : PySem.W.codeIn K cd19 "_law_next" = true) (k19 : PySem.W.keepIn K (.ref f19) = true)
    (a20 : PySem.W.nsIn K mainGlobals "_law_is_integer" = some (some (.ref f20))) (l20 : K.lookup f20 = some ⟨oc20, od20, .func (PySem.W.fnOf "_law_is_integer" "_law_is_integer" (defArgs s__law_is_integer) (defBody s__law_is_integer) (defScope s__law_is_integer) .none kV20 dc20 pm20 an20 cd20 ct20), sl20⟩) (c20 : PySem.W.codeIn K cd20 "_law_is_integer" = true) (k20 : PySem.W.keepIn K (.ref f20) = true)
    (a21 : PySem.W.nsIn K mainGlobals "_law_equal" = some (some (.ref f21))) (l21 : K.lookup f21 = some ⟨oc21, od21, .func (PySem.W.fnOf "_law_equal" "_law_equal" (defArgs s__law_equal) (defBody s__law_equal) (defScope s__law_equal) .none kV21 dc21 pm21 an21 cd21 ct21), sl21⟩) (c21 : PySem.W.codeIn K cd21 "_law_equal" = true) (k21 : PySem.W.keepIn K (.ref f21) = true)
    (a22 : PySem.W.nsIn K mainGlobals "_law_system" = some (some (.ref f22))) (l22 : K.lookup f22 = some ⟨oc22, od22, .func (PySem.W.fnOf "_law_system" "_law_system" (defArgs s__law_system) (defBody s__law_system) (defScope s__law_system) .none kV22 dc22 pm22 an22 cd22 ct22), sl22⟩) (c22 : PySem.W.codeIn K cd22 "_law_system" = true) (k22 : PySem.W.keepIn K (.ref f22) = true)
    (a23 : PySem.W.nsIn K mainGlobals "_law_reached" = some (some (.ref f23))) (l23 : K.lookup f23 = some ⟨oc23, od23, .func (PySem.W.fnOf "_law_reached" "_law_reached" (defArgs s__law_reached) (defBody s__law_reached) (defScope s__law_reached) .none kV23 dc23 pm23 an23 cd23 ct23), sl23⟩) (c23 : PySem.W.codeIn K cd23 "_law_reached" = true) (k23 : PySem.W.keepIn K (.ref f23) = true)
    (a24 : PySem.W.nsIn K mainGlobals "_law_orbits" = some (some (.ref f24))) (l24 : K.lookup f24 = some ⟨oc24, od24, .func (PySem.W.fnOf "_law_orbits" "_law_orbits" (defArgs s__law_orbits) (defBody s__law_orbits) (defScope s__law_orbits) .none kV24 dc24 pm24 an24 cd24 ct24), sl24⟩) (c24 : PySem.W.codeIn K cd24 "_law_orbits" = true) (k24 : PySem.W.keepIn K (.ref f24) = true)
    (a25 : PySem.W.nsIn K mainGlobals "_law_orbit" = some (some (.ref f25))) (l25 : K.lookup f25 = some ⟨oc25, od25, .func (PySem.W.fnOf "_law_orbit" "_law_orbit" (defArgs s__law_orbit) (defBody s__law_orbit) (defScope s__law_orbit) .none kV25 dc25 pm25 an25 cd25 ct25), sl25⟩) (c25 : PySem.W.codeIn K cd25 "_law_orbit" = true) (k25 : PySem.W.keepIn K (.ref f25) = true)
    (a26 : PySem.W.nsIn K mainGlobals "_law_round" = some (some (.ref f26))) (l26 : K.lookup f26 = some ⟨oc26, od26, .func (PySem.W.fnOf "_law_round" "_law_round" (defArgs s__law_round) (defBody s__law_round) (defScope s__law_round) .none kV26 dc26 pm26 an26 cd26 ct26), sl26⟩) (c26 : PySem.W.codeIn K cd26 "_law_round" = true) (k26 : PySem.W.keepIn K (.ref f26) = true)
    (a27 : PySem.W.nsIn K mainGlobals "law" = some (some (.ref f27))) (l27 : K.lookup f27 = some ⟨oc27, od27, .func (PySem.W.fnOf "law" "law" (defArgs s_law) (defBody s_law) (defScope s_law) .none kV27 dc27 pm27 an27 cd27 ct27), sl27⟩) (c27 : PySem.W.codeIn K cd27 "law" = true) (k27 : PySem.W.keepIn K (.ref f27) = true)
    (z_ValueError : PySem.W.nsIn K mainGlobals "ValueError" = some none) (z_abs : PySem.W.nsIn K mainGlobals "abs" = some none) (z_all : PySem.W.nsIn K mainGlobals "all" = some none) (z_any : PySem.W.nsIn K mainGlobals "any" = some none) (z_bool : PySem.W.nsIn K mainGlobals "bool" = some none) (z_int : PySem.W.nsIn K mainGlobals "int" = some none) (z_isinstance : PySem.W.nsIn K mainGlobals "isinstance" = some none) (z_len : PySem.W.nsIn K mainGlobals "len" = some none) (z_list : PySem.W.nsIn K mainGlobals "list" = some none) (z_range : PySem.W.nsIn K mainGlobals "range" = some none) (z_sorted : PySem.W.nsIn K mainGlobals "sorted" = some none) (z_str : PySem.W.nsIn K mainGlobals "str" = some none) (z_super : PySem.W.nsIn K mainGlobals "super" = some none) (z_tuple : PySem.W.nsIn K mainGlobals "tuple" = some none)
    {tL tM tV : Tok}
    (gL : PySem.W.nsIn K mainGlobals "LETTERS" = some (some (.str "abcd" tL))) (gM : PySem.W.nsIn K mainGlobals "MOST_STATES" = some (some (.int 40 tM))) (gV : PySem.W.nsIn K mainGlobals "MOST_STATES_OF_A_VALUE" = some (some (.int 300 tV))) :
    ∃ fd : FuncData, (∀ (s : Shared) (v : Value), BindsTo s fd ⟨[v], []⟩ [("script", v)]) ∧ ∀ base : Heap, K.In base → base.Ns mainGlobals mg → FnOk l.prog w K mg base CX0 9 fa fd ["script"] (spLaw K) := by
  have F1 := fun_mk (st := s_is_number) l1 c1 k1
  have b1 := F1.binds (ps := ["value", "least", "most"]) fun _ _ _ _ _ _ us hl => match us, hl with | [_, _, _], _ => rfl
  have D_is_number : Df K mg "is_number" s_is_number ["value", "least", "most"] f1 _ := ⟨F1, b1, PySem.W.mg_of X G a1⟩
  have F2 := fun_mk (st := s_is_letter) l2 c2 k2
  have b2 := F2.binds (ps := ["value"]) fun _ _ _ _ _ _ us hl => match us, hl with | [_], _ => rfl
  have D_is_letter : Df K mg "is_letter" s_is_letter ["value"] f2 _ := ⟨F2, b2, PySem.W.mg_of X G a2⟩
  have F3 := fun_mk (st := s_are_moves) l3 c3 k3
  have b3 := F3.binds (ps := ["value", "states"]) fun _ _ _ _ _ _ us hl => match us, hl with | [_, _], _ => rfl
  have D_are_moves : Df K mg "are_moves" s_are_moves ["value", "states"] f3 _ := ⟨F3, b3, PySem.W.mg_of X G a3⟩
  have F4 := fun_mk (st := s__is_move) l4 c4 k4
  have b4 := F4.binds (ps := ["value", "inside"]) fun _ _ _ _ _ _ us hl => match us, hl with | [_, _], _ => rfl
  have D__is_move : Df K mg "_is_move" s__is_move ["value", "inside"] f4 _ := ⟨F4, b4, PySem.W.mg_of X G a4⟩
  have F5 := fun_mk (st := s_is_system) l5 c5 k5
  have b5 := F5.binds (ps := ["value"]) fun _ _ _ _ _ _ us hl => match us, hl with | [_], _ => rfl
  have D_is_system : Df K mg "is_system" s_is_system ["value"] f5 _ := ⟨F5, b5, PySem.W.mg_of X G a5⟩
  have F6 := fun_mk (st := s__are_states) l6 c6 k6
  have b6 := F6.binds (ps := ["value"]) fun _ _ _ _ _ _ us hl => match us, hl with | [_], _ => rfl
  have D__are_states : Df K mg "_are_states" s__are_states ["value"] f6 _ := ⟨F6, b6, PySem.W.mg_of X G a6⟩
  have F7 := fun_mk (st := s_check_system) l7 c7 k7
  have b7 := F7.binds (ps := ["value"]) fun _ _ _ _ _ _ us hl => match us, hl with | [_], _ => rfl
  have D_check_system : Df K mg "check_system" s_check_system ["value"] f7 _ := ⟨F7, b7, PySem.W.mg_of X G a7⟩
  have F8 := fun_mk (st := s_check_state) l8 c8 k8
  have b8 := F8.binds (ps := ["system", "value"]) fun _ _ _ _ _ _ us hl => match us, hl with | [_, _], _ => rfl
  have D_check_state : Df K mg "check_state" s_check_state ["system", "value"] f8 _ := ⟨F8, b8, PySem.W.mg_of X G a8⟩
  have F9 := fun_mk (st := s_is_state) l9 c9 k9
  have b9 := F9.binds (ps := ["system", "value"]) fun _ _ _ _ _ _ us hl => match us, hl with | [_, _], _ => rfl
  have D_is_state : Df K mg "is_state" s_is_state ["system", "value"] f9 _ := ⟨F9, b9, PySem.W.mg_of X G a9⟩
  have F10 := fun_mk (st := s_reached) l10 c10 k10
  have b10 := F10.binds (ps := ["system", "state"]) fun _ _ _ _ _ _ us hl => match us, hl with | [_, _], _ => rfl
  have D_reached : Df K mg "reached" s_reached ["system", "state"] f10 _ := ⟨F10, b10, PySem.W.mg_of X G a10⟩
  have F11 := fun_mk (st := s__ends_by_state) l11 c11 k11
  have b11 := F11.binds (ps := ["system"]) fun _ _ _ _ _ _ us hl => match us, hl with | [_], _ => rfl
  have D__ends_by_state : Df K mg "_ends_by_state" s__ends_by_state ["system"] f11 _ := ⟨F11, b11, PySem.W.mg_of X G a11⟩
  have F12 := fun_mk (st := s__reached_from) l12 c12 k12
  have b12 := F12.binds (ps := ["ends", "state"]) fun _ _ _ _ _ _ us hl => match us, hl with | [_, _], _ => rfl
  have D__reached_from : Df K mg "_reached_from" s__reached_from ["ends", "state"] f12 _ := ⟨F12, b12, PySem.W.mg_of X G a12⟩
  have F13 := fun_mk (st := s_orbits) l13 c13 k13
  have b13 := F13.binds (ps := ["system"]) fun _ _ _ _ _ _ us hl => match us, hl with | [_], _ => rfl
  have D_orbits : Df K mg "orbits" s_orbits ["system"] f13 _ := ⟨F13, b13, PySem.W.mg_of X G a13⟩
  have F14 := fun_mk (st := s_orbits_of) l14 c14 k14
  have b14 := F14.binds (ps := ["system"]) fun _ _ _ _ _ _ us hl => match us, hl with | [_], _ => rfl
  have D_orbits_of : Df K mg "orbits_of" s_orbits_of ["system"] f14 _ := ⟨F14, b14, PySem.W.mg_of X G a14⟩
  have F15 := fun_mk (st := s_orbit_at) l15 c15 k15
  have b15 := F15.binds (ps := ["system", "state"]) fun _ _ _ _ _ _ us hl => match us, hl with | [_, _], _ => rfl
  have D_orbit_at : Df K mg "orbit_at" s_orbit_at ["system", "state"] f15 _ := ⟨F15, b15, PySem.W.mg_of X G a15⟩
  have F16 := fun_mk (st := s_goes_round) l16 c16 k16
  have b16 := F16.binds (ps := ["system", "state"]) fun _ _ _ _ _ _ us hl => match us, hl with | [_, _], _ => rfl
  have D_goes_round : Df K mg "goes_round" s_goes_round ["system", "state"] f16 _ := ⟨F16, b16, PySem.W.mg_of X G a16⟩
  have F17 := fun_mk (st := s_is_round) l17 c17 k17
  have b17 := F17.binds (ps := ["system", "orbit"]) fun _ _ _ _ _ _ us hl => match us, hl with | [_, _], _ => rfl
  have D_is_round : Df K mg "is_round" s_is_round ["system", "orbit"] f17 _ := ⟨F17, b17, PySem.W.mg_of X G a17⟩
  have F18 := fun_mk (st := s__law_stream) l18 c18 k18
  have b18 := F18.binds (ps := ["script"]) fun _ _ _ _ _ _ us hl => match us, hl with | [_], _ => rfl
  have D__law_stream : Df K mg "_law_stream" s__law_stream ["script"] f18 _ := ⟨F18, b18, PySem.W.mg_of X G a18⟩
  have F19 := fun_mk (st := s__law_next) l19 c19 k19
  have b19 := F19.binds (ps := ["stream", "many"]) fun _ _ _ _ _ _ us hl => match us, hl with | [_, _], _ => rfl
  have D__law_next : Df K mg "_law_next" s__law_next ["stream", "many"] f19 _ := ⟨F19, b19, PySem.W.mg_of X G a19⟩
  have F20 := fun_mk (st := s__law_is_integer) l20 c20 k20
  have b20 := F20.binds (ps := ["actual"]) fun _ _ _ _ _ _ us hl => match us, hl with | [_], _ => rfl
  have D__law_is_integer : Df K mg "_law_is_integer" s__law_is_integer ["actual"] f20 _ := ⟨F20, b20, PySem.W.mg_of X G a20⟩
  have F21 := fun_mk (st := s__law_equal) l21 c21 k21
  have b21 := F21.binds (ps := ["actual", "due"]) fun _ _ _ _ _ _ us hl => match us, hl with | [_, _], _ => rfl
  have D__law_equal : Df K mg "_law_equal" s__law_equal ["actual", "due"] f21 _ := ⟨F21, b21, PySem.W.mg_of X G a21⟩
  have F22 := fun_mk (st := s__law_system) l22 c22 k22
  have b22 := F22.binds (ps := ["stream", "most"]) fun _ _ _ _ _ _ us hl => match us, hl with | [_, _], _ => rfl
  have D__law_system : Df K mg "_law_system" s__law_system ["stream", "most"] f22 _ := ⟨F22, b22, PySem.W.mg_of X G a22⟩
  have F23 := fun_mk (st := s__law_reached) l23 c23 k23
  have b23 := F23.binds (ps := ["system", "state"]) fun _ _ _ _ _ _ us hl => match us, hl with | [_, _], _ => rfl
  have D__law_reached : Df K mg "_law_reached" s__law_reached ["system", "state"] f23 _ := ⟨F23, b23, PySem.W.mg_of X G a23⟩
  have F24 := fun_mk (st := s__law_orbits) l24 c24 k24
  have b24 := F24.binds (ps := ["system"]) fun _ _ _ _ _ _ us hl => match us, hl with | [_], _ => rfl
  have D__law_orbits : Df K mg "_law_orbits" s__law_orbits ["system"] f24 _ := ⟨F24, b24, PySem.W.mg_of X G a24⟩
  have F25 := fun_mk (st := s__law_orbit) l25 c25 k25
  have b25 := F25.binds (ps := ["system", "state"]) fun _ _ _ _ _ _ us hl => match us, hl with | [_, _], _ => rfl
  have D__law_orbit : Df K mg "_law_orbit" s__law_orbit ["system", "state"] f25 _ := ⟨F25, b25, PySem.W.mg_of X G a25⟩
  have F26 := fun_mk (st := s__law_round) l26 c26 k26
  have b26 := F26.binds (ps := ["system", "orbit"]) fun _ _ _ _ _ _ us hl => match us, hl with | [_, _], _ => rfl
  have D__law_round : Df K mg "_law_round" s__law_round ["system", "orbit"] f26 _ := ⟨F26, b26, PySem.W.mg_of X G a26⟩
  have F27 := fun_mk (st := s_law) l27 c27 k27
  have b27 := F27.binds (ps := ["script"]) fun _ _ _ _ _ _ us hl => match us, hl with | [_], _ => rfl
  have D_law : Df K mg "law" s_law ["script"] f27 _ := ⟨F27, b27, PySem.W.mg_of X G a27⟩
  have B : Bt K mg tL tM tV := ⟨PySem.W.mg_none_of X G z_ValueError, PySem.W.mg_none_of X G z_abs, PySem.W.mg_none_of X G z_all, PySem.W.mg_none_of X G z_any, PySem.W.mg_none_of X G z_bool, PySem.W.mg_none_of X G z_int, PySem.W.mg_none_of X G z_isinstance, PySem.W.mg_none_of X G z_len, PySem.W.mg_none_of X G z_list, PySem.W.mg_none_of X G z_range, PySem.W.mg_none_of X G z_sorted, PySem.W.mg_none_of X G z_str, PySem.W.mg_none_of X G z_super, PySem.W.mg_none_of X G z_tuple, PySem.W.mg_of X G gL, PySem.W.mg_of X G gM, PySem.W.mg_of X G gV⟩
  have e := hfa.symm.trans D_law.g
  cases e
  refine ⟨(PySem.W.fnOf "law" "law" (defArgs s_law) (defBody s_law) (defScope s_law) .none kV27 dc27 pm27 an27 cd27 ct27), fun s v => .of_eq rfl, fun base _ _ => ?_⟩
  have C_is_letter := D_is_letter.cl (ok_letter (P := l.prog) (w := w) (base := base) B D_is_letter)
  have C_is_number := D_is_number.cl (ok_isnumber (P := l.prog) (w := w) (base := base) B D_is_number)
  have C_is_move := D__is_move.cl (ok_ismove (P := l.prog) (w := w) (base := base) B D__is_move C_is_letter C_is_number)
  have C_are_moves := D_are_moves.cl (ok_aremoves (P := l.prog) (w := w) (base := base) B D_are_moves C_is_move)
  have C_are_states := D__are_states.cl (ok_arestates (P := l.prog) (w := w) (base := base) B D__are_states C_is_number)
  have C_is_system := D_is_system.cl (ok_issystem (P := l.prog) (w := w) (base := base) B D_is_system C_are_states C_are_moves)
  have C_check_system := D_check_system.cl (ok_checksystem (P := l.prog) (w := w) (base := base) B D_check_system C_is_system)
  have C_is_state := D_is_state.cl (ok_isstate (P := l.prog) (w := w) (base := base) B D_is_state C_is_number)
  have C_check_state := D_check_state.cl (ok_checkstate (P := l.prog) (w := w) (base := base) B D_check_state C_is_state)
  have C_ends := D__ends_by_state.cl (ok_endsby (P := l.prog) (w := w) (base := base) B D__ends_by_state)
  have C_reached := D__reached_from.cl (ok_reached (P := l.prog) (w := w) (base := base) B D__reached_from)
  have C_orbits_of := D_orbits_of.cl (ok_orbitsof (P := l.prog) (w := w) (base := base) B D_orbits_of C_ends C_reached)
  have C_orbits := D_orbits.cl (ok_orbits (P := l.prog) (w := w) (base := base) B D_orbits C_check_system C_orbits_of)
  have C_orbit_at := D_orbit_at.cl (ok_orbitat (P := l.prog) (w := w) (base := base) B D_orbit_at C_ends C_reached)
  have C__law_stream := D__law_stream.cl (ok_stream (P := l.prog) (w := w) (base := base) B D__law_stream)
  have C__law_next := D__law_next.cl (ok_next (P := l.prog) (w := w) (base := base) B D__law_next)
  have C__law_system := D__law_system.cl (ok_system (P := l.prog) (w := w) (base := base) B D__law_system C__law_next)
  have C_isint := D__law_is_integer.cl (ok_isint (P := l.prog) (w := w) (base := base) B D__law_is_integer)
  have C_equal := D__law_equal.cl (all_equal (P := l.prog) (w := w) (base := base) B D__law_equal C_isint 4)
  have C_lreached := D__law_reached.cl (ok_lreached (P := l.prog) (w := w) (base := base) B D__law_reached)
  have C_lorbits := D__law_orbits.cl (ok_lorbits (P := l.prog) (w := w) (base := base) B D__law_orbits C_lreached)
  have C_lorbit := D__law_orbit.cl (ok_lorbit (P := l.prog) (w := w) (base := base) B D__law_orbit C_lorbits)
  have C_reachedp := D_reached.cl (ok_reachedp (P := l.prog) (w := w) (base := base) B D_reached C_check_system C_check_state C_ends C_reached)
  have C_isround := D_is_round.cl (ok_round (P := l.prog) (w := w) (base := base) B D_is_round)
  have C_goes := D_goes_round.cl (ok_goes (P := l.prog) (w := w) (base := base) B D_goes_round C_check_system C_check_state C_orbit_at C_isround)
  have C_lround := D__law_round.cl (ok_lround (P := l.prog) (w := w) (base := base) B D__law_round)
  exact ok_law B D_law C__law_stream C__law_system C_equal C_lorbits C_orbits C_reachedp C_lreached C_goes C_lround C_lorbit
theorem walk {l : PySem.W.OpenLaw} {q : Program} {loose : List Str} {XP : (Str → Option Value) → Heap → Prop} {YP : World → Heap → Prop} {d : DefRec} {K : Params → PySem.W.Frag} (hn : l.most = some 63) (hdf : d.params.defaults = [])
    (hY : ∀ (w : World) (h : Heap), YP w h → (K w.params).In h)
    (F : ∀ (w : World) (mg : Str → Option Value) (fa : Addr) (h : Heap), (K w.params).In h → h.Ns mainGlobals mg → mg d.name = some (.ref fa) →
      ∃ fd : FuncData, (∀ (s : Shared) (u : Value), BindsTo s fd ⟨[u], []⟩ [("script", u)]) ∧ ∀ base : Heap, (K w.params).In base → base.Ns mainGlobals mg → FnOk l.prog w (K w.params) mg base CX0 9 fa fd ["script"] (spLaw (K w.params))) :
    PySem.W.WalkO q loose XP YP l.row.toRowW d [] (fun f vs => PySem.call f vs) :=
  L2.walk_of (n := 63) (k := 9) (x := "script") (CX := fun _ => CX0) (sp := fun w => spLaw (K w.params)) hn (by decide) hdf ⟨rfl, by decide, by decide⟩ hY F (fun _ _ a ns hl _ hS => ⟨a, ns, rfl, hS, hl, fun _ => rfl⟩) fun _ _ _ _ _ z => z

end My
open PySem PySem.W PyProof.Rows
set_option maxRecDepth 100000 in
set_option maxHeartbeats 0 in
theorem PySem.Challenge.cw_nodoubt_k46_reached_states_and_orbits_holds : PySem.Challenge.rw_nodoubt_k46_reached_states_and_orbits.Holds := by
  w_on; o_law; k_head; (case hw => w_witness2)
  k_fill
  refine My.walk (l := PySem.Challenge.rw_nodoubt_k46_reached_states_and_orbits) rfl rfl (fun w h Y => PySem.W.kIn_of Y) ?F
  case F =>
    intro w mg fa h KX G hmg
    refine' My.all_mk KX G hmg ?a1 ?l1 ?c1 ?k1 ?a2 ?l2 ?c2 ?k2 ?a3 ?l3 ?c3 ?k3 ?a4 ?l4 ?c4 ?k4 ?a5 ?l5 ?c5 ?k5 ?a6 ?l6 ?c6 ?k6 ?a7 ?l7 ?c7 ?k7 ?a8 ?l8 ?c8 ?k8 ?a9 ?l9 ?c9 ?k9 ?a10 ?l10 ?c10 ?k10 ?a11 ?l11 ?c11 ?k11 ?a12 ?l12 ?c12 ?k12 ?a13 ?l13 ?c13 ?k13 ?a14 ?l14 ?c14 ?k14 ?a15 ?l15 ?c15 ?k15 ?a16 ?l16 ?c16 ?k16 ?a17 ?l17 ?c17 ?k17 ?a18 ?l18 ?c18 ?k18 ?a19 ?l19 ?c19 ?k19 ?a20 ?l20 ?c20 ?k20 ?a21 ?l21 ?c21 ?k21 ?a22 ?l22 ?c22 ?k22 ?a23 ?l23 ?c23 ?k23 ?a24 ?l24 ?c24 ?k24 ?a25 ?l25 ?c25 ?k25 ?a26 ?l26 ?c26 ?k26 ?a27 ?l27 ?c27 ?k27 ?z_ValueError ?z_abs ?z_all ?z_any ?z_bool ?z_int ?z_isinstance ?z_len ?z_list ?z_range ?z_sorted ?z_str ?z_super ?z_tuple ?gL ?gM ?gV
    (case a1 => k_is); (case l1 => k_is); (case c1 => k_is); (case k1 => k_is); (case a2 => k_is); (case l2 => k_is); (case c2 => k_is); (case k2 => k_is); (case a3 => k_is); (case l3 => k_is); (case c3 => k_is); (case k3 => k_is); (case a4 => k_is); (case l4 => k_is); (case c4 => k_is); (case k4 => k_is); (case a5 => k_is); (case l5 => k_is); (case c5 => k_is); (case k5 => k_is); (case a6 => k_is); (case l6 => k_is); (case c6 => k_is); (case k6 => k_is); (case a7 => k_is); (case l7 => k_is); (case c7 => k_is); (case k7 => k_is); (case a8 => k_is); (case l8 => k_is); (case c8 => k_is); (case k8 => k_is); (case a9 => k_is); (case l9 => k_is); (case c9 => k_is); (case k9 => k_is); (case a10 => k_is); (case l10 => k_is); (case c10 => k_is); (case k10 => k_is); (case a11 => k_is); (case l11 => k_is); (case c11 => k_is); (case k11 => k_is); (case a12 => k_is); (case l12 => k_is); (case c12 => k_is); (case k12 => k_is); (case a13 => k_is); (case l13 => k_is); (case c13 => k_is); (case k13 => k_is); (case a14 => k_is); (case l14 => k_is); (case c14 => k_is); (case k14 => k_is); (case a15 => k_is); (case l15 => k_is); (case c15 => k_is); (case k15 => k_is); (case a16 => k_is); (case l16 => k_is); (case c16 => k_is); (case k16 => k_is); (case a17 => k_is); (case l17 => k_is); (case c17 => k_is); (case k17 => k_is); (case a18 => k_is); (case l18 => k_is); (case c18 => k_is); (case k18 => k_is); (case a19 => k_is); (case l19 => k_is); (case c19 => k_is); (case k19 => k_is); (case a20 => k_is); (case l20 => k_is); (case c20 => k_is); (case k20 => k_is); (case a21 => k_is); (case l21 => k_is); (case c21 => k_is); (case k21 => k_is); (case a22 => k_is); (case l22 => k_is); (case c22 => k_is); (case k22 => k_is); (case a23 => k_is); (case l23 => k_is); (case c23 => k_is); (case k23 => k_is); (case a24 => k_is); (case l24 => k_is); (case c24 => k_is); (case k24 => k_is); (case a25 => k_is); (case l25 => k_is); (case c25 => k_is); (case k25 => k_is); (case a26 => k_is); (case l26 => k_is); (case c26 => k_is); (case k26 => k_is); (case a27 => k_is); (case l27 => k_is); (case c27 => k_is); (case k27 => k_is); (case z_ValueError => k_is); (case z_abs => k_is); (case z_all => k_is); (case z_any => k_is); (case z_bool => k_is); (case z_int => k_is); (case z_isinstance => k_is); (case z_len => k_is); (case z_list => k_is); (case z_range => k_is); (case z_sorted => k_is); (case z_str => k_is); (case z_super => k_is); (case z_tuple => k_is)
    (case gL => k_is); (case gM => k_is); (case gV => k_is)
