import PyProof.Rows.All
import Wide.All
import OpenK.AllK
import Wide.FinOn
import HandS.ForMost
import HandS.IsInst
import HandS.TupAny
import HandS.TupMul
import HandS.Codes
import HandS.Style
import HandS.Wide
import PyProof.StrBlock2
import HandS.Text
import PyProof.Rows.StrRev
import KE.KRevSl
import HandS.List
import PyProof.AutoSeq1
import HandS.SortRule
import HandS.NamedTupSort
import KE.SortData
import HandS.ExcOwn
import HandS.WordsExc
import HandS.More
import HandS.Strs
import HandS.Conv
import HandS.Replace
import HandS.Deep
import PySem.Challenge.RW_nodoubt_k04_whole_simple_forms
set_option Elab.async false
set_option maxRecDepth 100000
set_option linter.all false
namespace My
open PySem PySem.Spec PyProof.Rows L2
/-! ### a def of the text, and what a caller needs of it -/
structure Df (K : PySem.W.Frag) (mg : Str → Option Value) (x : Str) (st : Stmt) (ps : List Str) (f : Addr) (fd : FuncData) : Prop where
  F : Fun K x x st f fd
  b : Binds K fd ps []
  g : mg x = some (.ref f)
structure Cl (P : Program) (w : World) (K : PySem.W.Frag) (mg : Str → Option Value) (base : Heap) (k : Nat) (x : Str) (ps : List Str) (sp : Sp) : Prop where
  ex : ∃ (f : Addr) (fd : FuncData), FnOk P w K mg base CX0 k f fd ps sp ∧ Binds K fd ps [] ∧ mg x = some (.ref f) ∧ PySem.W.keepIn K (.ref f) = true
theorem Df.cl {P : Program} {w : World} {K : PySem.W.Frag} {mg : Str → Option Value} {base : Heap} {x : Str} {st : Stmt} {ps : List Str} {f : Addr} {fd : FuncData} {k : Nat} {sp : Sp} (D : Df K mg x st ps f fd) (h : FnOk P w K mg base CX0 k f fd ps sp) : Cl P w K mg base k x ps sp :=
  ⟨f, fd, h, D.b, D.g, D.F.kp⟩
theorem pe_cl {X : Cx} {k : Nat} {x : Str} {ps : List Str} {sp : Sp} {p pos : Pos} {e : Expr} {es : List Expr} {t : TA} (C : Cl X.prog X.w X.K X.mg X.base k x ps sp) (hr : Room k X.A) (hg : Gl X x) (ha : PA X (e :: es) t)
    (hdb : (x == ("__debug__" : Str)) = false := by decide) (he : starEach (e :: es) X.env = (false, eval e X.env) :: starEach es X.env := by rfl) (hpl : (backTo pos (starEach es X.env)).any (·.1) = false := by rfl) :
    PE X (.Call (.Name x p) (e :: es) [] pos) (tCall sp [] E0 t) := by
  obtain ⟨f, fd, F, b, m, kp⟩ := C.ex
  exact pe_call F hr hg m kp b .nil pass0 ha hdb he hpl
/-! ### lists of values -/
theorem vals_of : ∀ (vs : List V) (us : List Value), vs.length = us.length → (∀ (j : Nat) (v : V) (u : Value), vs[j]? = some v → us[j]? = some u → RelV v u) → Vals vs us
  | [], [], _, _ => .nil
  | [], _ :: _, h, _ => by cases h
  | _ :: _, [], h, _ => by cases h
  | v :: vs, u :: us, h, k => .cons (k 0 v u rfl rfl) (vals_of vs us (Nat.succ.inj h) fun j v' u' h1 h2 => k (j + 1) v' u' h1 h2)
/-! ### list(text) -/
def signsV (z : Str) : List V := z.cps.toList.map fun c => V.str ⟨#[c]⟩
theorem call_list_text {X : Cx} (hc : X.calm = true) : CallR X (.type "list") (fun xs H Q => ∃ z : Str, xs = [.str z] ∧ z.length ≤ sizeLine ∧ ∀ l, H l = none → Q (.ref l) (upd H l (.lst (signsV z)))) := by
  intro pins s σ H xs us Q I r h
  obtain ⟨z, rfl, hz, q⟩ := h
  obtain ⟨u, rfl, t, rfl⟩ := vals1 r
  have hz' : z.cps.size ≤ sizeLine := hz
  refine call_list_str (I.ok.hd hc) z t (hn := hz) fun h' tk acc' c' hk hS hacc => ?_
  have vals : Vals (signsV z) acc'.toList := by
    refine vals_of _ _ (by unfold signsV; simp [hacc.1]) fun j v u h1 h2 => ?_
    obtain ⟨c, t', hc', rfl⟩ := hacc.2 j u (by simpa using h2)
    unfold signsV at h1
    rw [List.getElem?_map] at h1
    rw [show z.cps.toList[j]? = some c by simpa using hc'] at h1
    cases h1
    exact ⟨_, rfl⟩
  exact ⟨.ref s.heap.objs.size, _, I.laid (t' := tk) hk (Nat.le_refl _) (show ObjOk X.prog X.w _ h' _ (.lst (signsV z)) from ⟨by unfold signsV; simpa using hz', acc'.toList, c', vals, by simpa using hS⟩), rfl, q _ (I.hok.fresh (Nat.le_refl _))⟩

/-- text * number -/
theorem op_mul_str {X : Cx} : OpR X (binaryOp .Mult) (fun x y H Q => ∃ z n, x = .str z ∧ y = .int n ∧ MulOk z n ∧ Q (.str (Txt.mul z n)) H) := by
  intro pins s σ H x y v u Q I rx ry h
  obtain ⟨z, n, rfl, rfl, hok, q⟩ := h
  obtain ⟨t, rfl⟩ := rx
  obtain ⟨t', rfl⟩ := ry
  exact SB.mul hok fun t' k => ⟨.str _, H, I.tok k, ⟨_, rfl⟩, q⟩
/-! ### heaps -/
theorem same_upd {H : Hp} {p : Addr} {o : HO} (h : H p = none) : Same H (upd H p o) := fun b u q => by rw [upd_ne (ne_of_none q h)]; exact q
/-- all but what stands at a is as it was -/
def Keep (a : Addr) (H H' : Hp) : Prop := ∀ b o, H b = some o → b ≠ a → H' b = some o
theorem Keep.refl (a : Addr) (H : Hp) : Keep a H H := fun _ _ h _ => h
theorem Keep.trans {a : Addr} {H H1 H2 : Hp} (x : Keep a H H1) (y : Keep a H1 H2) : Keep a H H2 := fun b o h n => y b o (x b o h n) n
theorem Keep.same {a : Addr} {H H' : Hp} (x : Same H H') : Keep a H H' := fun b o h _ => x b o h
theorem Keep.new {a p : Addr} {H : Hp} {o : HO} (h : H p = none) : Keep a H (upd H p o) := Keep.same (same_upd h)
theorem Keep.store {a : Addr} {H : Hp} {o : HO} : Keep a H (upd H a o) := fun b u q n => by rw [upd_ne n]; exact q
/-- tuples stay, lists stay lists -/
structure Pers (H H' : Hp) : Prop where
  tup : ∀ b xs, H b = some (.tup xs) → H' b = some (.tup xs)
  lst : ∀ b xs, H b = some (.lst xs) → ∃ ys, H' b = some (.lst ys)
theorem Pers.refl (H : Hp) : Pers H H := ⟨fun _ _ h => h, fun _ xs h => ⟨xs, h⟩⟩
theorem Pers.trans {H H1 H2 : Hp} (x : Pers H H1) (y : Pers H1 H2) : Pers H H2 := ⟨fun b xs h => y.tup b xs (x.tup b xs h), fun b xs h => by
  obtain ⟨ys, h1⟩ := x.lst b xs h
  exact y.lst b ys h1⟩
theorem Pers.same {H H' : Hp} (x : Same H H') : Pers H H' := ⟨fun b xs h => x b _ h, fun b xs h => ⟨xs, x b _ h⟩⟩
theorem Pers.new {p : Addr} {H : Hp} {o : HO} (h : H p = none) : Pers H (upd H p o) := Pers.same (same_upd h)
theorem Pers.store {a : Addr} {H : Hp} {xs ys : List V} (h : H a = some (.lst xs)) : Pers H (upd H a (.lst ys)) := ⟨fun b zs q => by
  have n : b ≠ a := fun e => by
    rw [e, h] at q
    cases q
  rw [upd_ne n]
  exact q, fun b zs q => by
  by_cases n : b = a
  · subst n
    exact ⟨ys, upd_same⟩
  · rw [upd_ne n]
    exact ⟨zs, q⟩⟩
/-! ### the stream of draws -/
def StrmW (H : Hp) (a l : Addr) (c k : Int) (ns : List Int) : Prop := H a = some (.lst [.ref l, .int c, .int k]) ∧ H l = some (.lst (ns.map V.int)) ∧ l ≠ a ∧ 0 ≤ k
def Strm (H : Hp) (a : Addr) : Prop := ∃ l c k ns, StrmW H a l c k ns
/-- what a call that draws leaves: all but the stream as it was -/
structure Go (a : Addr) (H H' : Hp) : Prop where
  keep : Keep a H H'
  st0 : Strm H a
  mv : ∀ l c k ns, StrmW H a l c k ns → ∃ c' k' ns', StrmW H' a l c' k' ns'
theorem Go.st {a : Addr} {H H' : Hp} (g : Go a H H') : Strm H' a := by
  obtain ⟨l, c, k, ns, h⟩ := g.st0
  obtain ⟨c', k', ns', h'⟩ := g.mv l c k ns h
  exact ⟨l, c', k', ns', h'⟩
theorem Go.refl {a : Addr} {H : Hp} (h : Strm H a) : Go a H H := ⟨Keep.refl a H, h, fun l c k ns h => ⟨c, k, ns, h⟩⟩
theorem Go.trans {a : Addr} {H H1 H2 : Hp} (x : Go a H H1) (y : Go a H1 H2) : Go a H H2 := ⟨x.keep.trans y.keep, x.st0, fun l c k ns h => by
  obtain ⟨c', k', ns', h'⟩ := x.mv l c k ns h
  exact y.mv l c' k' ns' h'⟩
theorem StrmW.same {a l : Addr} {c k : Int} {ns : List Int} {H H' : Hp} (h : StrmW H a l c k ns) (s : Same H H') : StrmW H' a l c k ns := ⟨s _ _ h.1, s _ _ h.2.1, h.2.2.1, h.2.2.2⟩
theorem Strm.same {a : Addr} {H H' : Hp} (h : Strm H a) (s : Same H H') : Strm H' a := by
  obtain ⟨l, c, k, ns, h⟩ := h
  exact ⟨l, c, k, ns, h.same s⟩
theorem Go.same {a : Addr} {H H' : Hp} (h : Strm H a) (s : Same H H') : Go a H H' := ⟨Keep.same s, h, fun l c k ns w => ⟨c, k, ns, w.same s⟩⟩
theorem Go.new {a p : Addr} {H : Hp} {o : HO} (h : Strm H a) (n : H p = none) : Go a H (upd H p o) := Go.same h (same_upd n)
/-- a store to what is new since H -/
theorem Go.loc {a p : Addr} {H H' : Hp} {o : HO} (g : Go a H H') (n : H p = none) : Go a H (upd H' p o) := ⟨fun b u hb hn => by
  rw [upd_ne (ne_of_none hb n)]
  exact g.keep b u hb hn, g.st0, fun l c k ns h => by
  obtain ⟨c', k', ns', h1, h2, h3, h4⟩ := g.mv l c k ns h
  exact ⟨c', k', ns', by rw [upd_ne (ne_of_none h.1 n)]; exact h1, by rw [upd_ne (ne_of_none h.2.1 n)]; exact h2, h3, h4⟩⟩
theorem Strm.isl {a : Addr} {H : Hp} (h : Strm H a) : ∃ xs, H a = some (.lst xs) := by
  obtain ⟨l, c, k, ns, h1, h2⟩ := h
  exact ⟨_, h1⟩
theorem Go.pers {a : Addr} {H H' : Hp} (g : Go a H H') : Pers H H' := by
  obtain ⟨xs, h1⟩ := g.st0.isl
  obtain ⟨ys, h2⟩ := g.st.isl
  refine ⟨fun b zs q => g.keep b _ q fun e => ?_, fun b zs q => ?_⟩
  · rw [e, h1] at q
    cases q
  · by_cases n : b = a
    · subst n
      exact ⟨ys, h2⟩
    · exact ⟨zs, g.keep b _ q n⟩
theorem Strm.ne {a p : Addr} {H : Hp} (h : Strm H a) (n : H p = none) : a ≠ p := by
  obtain ⟨xs, h1⟩ := h.isl
  exact ne_of_none h1 n
theorem Strm.neT {a p : Addr} {H : Hp} {xs : List V} (h : Strm H a) (n : H p = some (.tup xs)) : p ≠ a := fun e => by
  obtain ⟨ys, h1⟩ := h.isl
  rw [e, h1] at n
  cases n
/-! ### two lists, item by item -/
inductive Two {α β : Type} (R : α → β → Prop) : List α → List β → Prop where
  | nil : Two R [] []
  | cons {a : α} {b : β} {as : List α} {bs : List β} (h : R a b) (t : Two R as bs) : Two R (a :: as) (b :: bs)
theorem Two.len {α β : Type} {R : α → β → Prop} {as : List α} {bs : List β} (h : Two R as bs) : as.length = bs.length := by
  induction h with
  | nil => rfl
  | cons _ _ ih => rw [List.length_cons, List.length_cons, ih]
theorem Two.mono {α β : Type} {R S : α → β → Prop} (k : ∀ a b, R a b → S a b) {as : List α} {bs : List β} (h : Two R as bs) : Two S as bs := by
  induction h with
  | nil => exact .nil
  | cons h _ ih => exact .cons (k _ _ h) ih
theorem Two.monoM {α β : Type} {R S : α → β → Prop} {as : List α} {bs : List β} (h : Two R as bs) (k : ∀ a b, a ∈ as → b ∈ bs → R a b → S a b) : Two S as bs := by
  induction h with
  | nil => exact .nil
  | cons h _ ih => exact .cons (k _ _ (List.mem_cons_self ..) (List.mem_cons_self ..) h) (ih fun a b ha hb => k a b (List.mem_cons_of_mem _ ha) (List.mem_cons_of_mem _ hb))
theorem Two.app {α β : Type} {R : α → β → Prop} {as as' : List α} {bs bs' : List β} (h : Two R as bs) (h' : Two R as' bs') : Two R (as ++ as') (bs ++ bs') := by
  induction h with
  | nil => exact h'
  | cons h _ ih => exact .cons h ih
theorem Two.get {α β : Type} {R : α → β → Prop} {as : List α} {bs : List β} (h : Two R as bs) : ∀ {i : Nat} {a : α}, as[i]? = some a → ∃ b, bs[i]? = some b ∧ R a b := by
  induction h with
  | nil => intro i a h; simp at h
  | cons h _ ih =>
    intro i a e
    cases i with
    | zero => cases e; exact ⟨_, rfl, h⟩
    | succ i => exact ih e
theorem Two.get2 {α β : Type} {R : α → β → Prop} {as : List α} {bs : List β} (h : Two R as bs) {i : Nat} {a : α} {b : β} (ha : as[i]? = some a) (hb : bs[i]? = some b) : R a b := by
  obtain ⟨b', h1, h2⟩ := h.get ha
  rw [h1] at hb
  cases hb
  exact h2
theorem Two.of_get {α β : Type} {R : α → β → Prop} : ∀ {as : List α} {bs : List β}, as.length = bs.length → (∀ (i : Nat) (a : α) (b : β), as[i]? = some a → bs[i]? = some b → R a b) → Two R as bs
  | [], [], _, _ => .nil
  | [], _ :: _, h, _ => by cases h
  | _ :: _, [], h, _ => by cases h
  | a :: as, b :: bs, h, k => .cons (k 0 a b rfl rfl) (Two.of_get (Nat.succ.inj h) fun i a' b' h1 h2 => k (i + 1) a' b' h1 h2)
theorem Two.unsnoc {α β : Type} {R : α → β → Prop} {as : List α} {bs : List β} {b : β} (h : Two R as (bs ++ [b])) : ∃ as' a, as = as' ++ [a] ∧ Two R as' bs ∧ R a b := by
  induction bs generalizing as with
  | nil =>
    cases h with
    | cons h t =>
      cases t
      exact ⟨[], _, rfl, .nil, h⟩
  | cons c bs ih =>
    cases h with
    | cons h t =>
      obtain ⟨as', a, rfl, h1, h2⟩ := ih t
      exact ⟨_ :: as', a, rfl, .cons h h1, h2⟩
theorem Two.map_right {α β γ : Type} {R : α → γ → Prop} {f : β → γ} {as : List α} {bs : List β} (h : Two (fun a b => R a (f b)) as bs) : Two R as (bs.map f) := by
  induction h with
  | nil => exact .nil
  | cons h _ ih => exact .cons h ih
/-! ### data: what stands at a value -/
inductive D where
  | str (z : Str)
  | tup (ds : List D)
  | lst
  | flat
inductive Rep (H : Hp) : V → D → Prop where
  | str {z : Str} (h : z.length ≤ 1000) : Rep H (.str z) (.str z)
  | tup {p : Addr} {xs : List V} {ds : List D} (h : H p = some (.tup xs)) (z : xs.length ≤ 100000) (l : xs.length = ds.length) (k : ∀ (i : Nat) (x : V) (d : D), xs[i]? = some x → ds[i]? = some d → Rep H x d) : Rep H (.ref p) (.tup ds)
  | lst {p : Addr} {xs : List V} (h : H p = some (.lst xs)) : Rep H (.ref p) .lst
  | non : Rep H .non .flat
  | bl (b : Bool) : Rep H (.bl b) .flat
  | int (i : Int) : Rep H (.int i) .flat
theorem Rep.tup2 {H : Hp} {p : Addr} {xs : List V} {ds : List D} (h : H p = some (.tup xs)) (z : xs.length ≤ 100000) (k : Two (Rep H) xs ds) : Rep H (.ref p) (.tup ds) := .tup h z k.len fun _ _ _ h1 h2 => k.get2 h1 h2
theorem Rep.pers {H H' : Hp} (k : Pers H H') {v : V} {d : D} (h : Rep H v d) : Rep H' v d := by
  induction h with
  | str h => exact .str h
  | tup h z l _ ih => exact .tup (k.tup _ _ h) z l ih
  | lst h =>
    obtain ⟨ys, h1⟩ := k.lst _ _ h
    exact .lst h1
  | non => exact .non
  | bl b => exact .bl b
  | int i => exact .int i
theorem Rep.pers2 {H H' : Hp} (k : Pers H H') {vs : List V} {ds : List D} (h : Two (Rep H) vs ds) : Two (Rep H') vs ds := h.mono fun _ _ => Rep.pers k
theorem Rep.untup {H : Hp} {v : V} {ds : List D} (h : Rep H v (.tup ds)) : ∃ p xs, v = .ref p ∧ H p = some (.tup xs) ∧ xs.length ≤ 100000 ∧ Two (Rep H) xs ds := by
  cases h with
  | tup h z l k => exact ⟨_, _, rfl, h, z, Two.of_get l k⟩
def isStr : D → Bool | .str _ => true | _ => false
def isTup : D → Bool | .tup _ => true | _ => false
/-- its type, for isinstance -/
theorem Rep.ty {K : PySem.W.Frag} {H : Hp} {v : V} {d : D} (h : Rep H v d) : ∃ t : String, TyX K H v (.type t) ∧ PySem.W.kitOne K (.type t) (.type "str") = some (isStr d) ∧ PySem.W.kitOne K (.type t) (.type "tuple") = some (isTup d) := by
  cases h with
  | str h => exact ⟨"str", .base (.str _), kit_ty (r := true) (by decide +kernel), kit_ty (r := false) (by decide +kernel)⟩
  | tup h _ _ _ => exact ⟨"tuple", .base (.tup h), kit_ty (r := false) (by decide +kernel), kit_ty (r := true) (by decide +kernel)⟩
  | lst h => exact ⟨"list", .base (.lst h), kit_ty (r := false) (by decide +kernel), kit_ty (r := false) (by decide +kernel)⟩
  | non => exact ⟨"NoneType", .base .non, kit_ty (r := false) (by decide +kernel), kit_ty (r := false) (by decide +kernel)⟩
  | bl b => exact ⟨"bool", .base (.bl _), kit_ty (r := false) (by decide +kernel), kit_ty (r := false) (by decide +kernel)⟩
  | int i => exact ⟨"int", .base (.int _), kit_ty (r := false) (by decide +kernel), kit_ty (r := false) (by decide +kernel)⟩
/-! ### short words for readings -/
theorem vstr {a b : Str} (h : decide (V.str a = V.str b) = true) : a = b := by
  have e := of_decide_eq_true h
  cases e
  rfl
theorem vstrN {a b : Str} (h : ¬ decide (V.str a = V.str b) = true) : ¬ a = b := fun e => h (decide_eq_true (congrArg V.str e))
theorem tyes {σ : L2.St} {H : Hp} {A B : Hp → Prop} (h : A H) : tYes σ H (fun b H3 => if b = true then A H3 else B H3) := by
  show (if true = true then A H else B H)
  rw [if_pos rfl]
  exact h
theorem at_zero {x : V} {xs : List V} : atI (x :: xs) 0 = some x := at_of (j := 0) rfl rfl
theorem at_one {x y : V} {xs : List V} : atI (x :: y :: xs) 1 = some y := at_of (j := 1) rfl rfl
theorem or2 {a b : Prop} {A B : Prop} [Decidable a] [Decidable b] (h1 : a ∨ b → A) (h2 : ¬ (a ∨ b) → B) : if a then A else if b then A else B := by
  by_cases c : a
  · rw [if_pos c]
    exact h1 (.inl c)
  · rw [if_neg c]
    by_cases d : b
    · rw [if_pos d]
      exact h1 (.inr d)
    · rw [if_neg d]
      exact h2 fun z => z.elim c d
theorem lc_str {z : Str} {g : TG} {tt : TT} {te : TE} {vs : List Nat} {σ : L2.St} {H1 : Hp} {D : Addr} {Qd : Hp → Prop} (Pv : Nat → Hp → Prop) (h0 : Pv 0 (upd H1 D (.lst [])))
    (hs : ∀ i c H, z.cps[i]? = some c → Pv i H → g (.str ⟨#[c]⟩) (wipe σ vs) H fun σ2 H2 => wipe σ2 vs = wipe σ vs ∧ tt σ2 H2 fun b H3 =>
      if b = true then te σ2 H3 fun y H4 => ∃ acc, H4 D = some (.lst acc) ∧ acc.length < sizeLine ∧ Pv (i + 1) (upd H4 D (.lst (acc ++ [y]))) else Pv (i + 1) H3) (hd : ∀ H, Pv z.cps.size H → Qd H) :
    ∃ W : Nat → Nat → Hp → Prop, (∃ m, W 0 m (upd H1 D (.lst []))) ∧ ∀ i m H, W i m H →
      ((Its z).stop i H ∧ Qd H) ∨ ((Its z).go i H ∧ ∃ Nx : Hp → Prop, (∀ H', Nx H' → ∃ m', m' < m ∧ W (i + 1) m' H') ∧ ∀ x H', (Its z).yld i H x H' → g x (wipe σ vs) H' fun σ2 H2 => wipe σ2 vs = wipe σ vs ∧ tt σ2 H2 fun b H3 =>
        if b = true then te σ2 H3 fun y H4 => ∃ acc, H4 D = some (.lst acc) ∧ acc.length < sizeLine ∧ Nx (upd H4 D (.lst (acc ++ [y]))) else Nx H3) := by
  refine ⟨fun i m H => m = z.cps.size - i ∧ i ≤ z.cps.size ∧ Pv i H, ⟨z.cps.size, by simp, Nat.zero_le _, h0⟩, ?_⟩
  rintro i m H ⟨rfl, hi, p⟩
  by_cases hlt : i < z.cps.size
  · refine .inr ⟨hlt, Pv (i + 1), fun H' p' => ⟨z.cps.size - (i + 1), by omega, rfl, hlt, p'⟩, fun x H' y => ?_⟩
    obtain ⟨rfl, c, hc, rfl⟩ := y
    exact hs i c _ hc p
  · have e : i = z.cps.size := by omega
    subst e
    exact .inl ⟨Nat.le_refl _, hd H p⟩
/-! ### plain data, for the law's own comparison -/
inductive J where
  | non
  | bl (b : Bool)
  | int (i : Int)
  | str (z : Str)
  | tup (js : List J)
  | lst (js : List J)
inductive RepJ (H : Hp) : V → J → Nat → Prop where
  | non {n : Nat} : RepJ H .non .non n
  | bl {n : Nat} (b : Bool) : RepJ H (.bl b) (.bl b) n
  | int {n : Nat} (i : Int) : RepJ H (.int i) (.int i) n
  | str {n : Nat} (z : Str) : RepJ H (.str z) (.str z) n
  | tup {n : Nat} {p : Addr} {xs : List V} {js : List J} (h : H p = some (.tup xs)) (z : xs.length ≤ 100000) (l : xs.length = js.length) (k : ∀ (i : Nat) (x : V) (j : J), xs[i]? = some x → js[i]? = some j → RepJ H x j n) : RepJ H (.ref p) (.tup js) (n + 1)
  | lst {n : Nat} {p : Addr} {xs : List V} {js : List J} (h : H p = some (.lst xs)) (z : xs.length ≤ 100000) (l : xs.length = js.length) (k : ∀ (i : Nat) (x : V) (j : J), xs[i]? = some x → js[i]? = some j → RepJ H x j n) : RepJ H (.ref p) (.lst js) (n + 1)
theorem RepJ.same {H H' : Hp} (s : Same H H') {v : V} {j : J} {n : Nat} (h : RepJ H v j n) : RepJ H' v j n := by
  induction h with
  | non => exact .non
  | bl b => exact .bl b
  | int i => exact .int i
  | str z => exact .str z
  | tup h z l _ ih => exact .tup (s _ _ h) z l ih
  | lst h z l _ ih => exact .lst (s _ _ h) z l ih
/-! ### the promises of the draws -/
def spStream (K : PySem.W.Frag) : Sp := fun vs H Q _ => ∃ (s : Addr) (ns : List Int), vs = [.ref s] ∧ SqL K H s (ns.map V.int) ∧ ns.length ≤ 63 ∧ ∀ a H', Same H H' → H a = none → Strm H' a → Q (.ref a) H'
def spNext : Sp := fun vs H Q _ => ∃ (a : Addr) (m : Int), vs = [.ref a, .int m] ∧ Strm H a ∧ 0 < m ∧ m < 1000000 ∧ ∀ d H', 0 ≤ d → d < m → Go a H H' → Q (.int d) H'
def spPick (K : PySem.W.Frag) : Sp := fun vs H Q _ => ∃ (a r : Addr) (xs : List V), vs = [.ref a, .ref r] ∧ Strm H a ∧ SqL K H r xs ∧ r ≠ a ∧ 0 < xs.length ∧ xs.length < 1000 ∧ ∀ v H', v ∈ xs → Go a H H' → Q v H'
theorem Go.seq {K : PySem.W.Frag} {a r : Addr} {H H' : Hp} {xs : List V} (g : Go a H H') (n : r ≠ a) (h : SqL K H r xs) : SqL K H' r xs := by
  rcases h with (h | ⟨o, h⟩) | h
  · exact .inl (.inl (g.keep _ _ h n))
  · exact .inl (.inr ⟨o, g.keep _ _ h n⟩)
  · exact .inr h
end My
namespace My
open PySem PySem.Spec PyProof.Rows L2
/-! ### letters and words -/
def isLet (z : Str) : Bool := match z.cps.toList with | [c] => decide (97 ≤ c) && decide (c ≤ 100) | _ => false
abbrev sJoin : Str := "join"
abbrev sOr : Str := "or"
abbrev sMaybe : Str := "maybe"
abbrev sMany : Str := "many"
abbrev sNo : Str := ""
theorem jo : ¬ sJoin = sOr := by decide +kernel
theorem jm : ¬ sJoin = sMaybe := by decide +kernel
theorem jn : ¬ sJoin = sMany := by decide +kernel
theorem je : ¬ sJoin = sNo := by decide +kernel
theorem om : ¬ sOr = sMaybe := by decide +kernel
theorem on : ¬ sOr = sMany := by decide +kernel
theorem oe : ¬ sOr = sNo := by decide +kernel
theorem mn : ¬ sMaybe = sMany := by decide +kernel
theorem lJ : sJoin.length = 4 := by decide +kernel
theorem lO : sOr.length = 2 := by decide +kernel
theorem lM : sMaybe.length = 5 := by decide +kernel
theorem lN : sMany.length = 4 := by decide +kernel
theorem lE : sNo.length = 0 := by decide +kernel
/-! ### the parts directly in a datum -/
def begins (w : Str) : D → Bool
  | .tup (.str x :: _) => decide (x = w)
  | _ => false
def rowOk (w : Str) : D → Bool
  | .tup ys => decide (2 ≤ ys.length) && !(ys.any (begins w))
  | _ => false
def rowItems : D → Option (List D)
  | .tup ys => some ys
  | _ => none
def innerPair (w : Str) (y : D) : Option (List D) := if w = sMaybe ∨ w = sMany then some [y] else if (w = sJoin ∨ w = sOr) ∧ rowOk w y = true then rowItems y else none
def inner : D → Option (List D)
  | .str z => if z = sNo ∨ isLet z = true then some [] else none
  | .tup [.str w, y] => innerPair w y
  | _ => none
theorem inner_pair (w : Str) (y : D) : inner (.tup [.str w, y]) = innerPair w y := rfl
/-- a part of a row does not begin with an object -/
def notObj : D → Bool
  | .tup _ => false
  | .lst => false
  | _ => true
def headFlat : D → Bool
  | .tup (x :: _) => notObj x
  | _ => true
def rowFlat : D → Bool
  | .tup ys => ys.all headFlat
  | _ => true
/-- what the looks at a datum ask: items of a row of parts begin flat -/
inductive Fl : D → Prop where
  | str (z : Str) : Fl (.str z)
  | tup {ds : List D} (h : ∀ w y, ds = [.str w, y] → w = sJoin ∨ w = sOr → rowFlat y = true) (k : ∀ d ∈ ds, Fl d) : Fl (.tup ds)
  | lst : Fl .lst
  | flat : Fl .flat
/-! ### sizes, for the loop's measure -/
def D.size : D → Nat
  | .str _ => 1
  | .tup ds => 1 + sizes ds
  | .lst => 1
  | .flat => 1
where sizes : List D → Nat
  | [] => 0
  | d :: ds => d.size + sizes ds
def places1 : D → Nat
  | .str z => z.length
  | _ => 0
abbrev Bnd := Nat × Nat × Nat
def within (b a : Bnd) : Bool := decide (a.1 ≤ b.1) && decide (a.2.1 ≤ b.2.1) && decide (a.2.2 ≤ b.2.2)
/-- the loop: n turns at most; the stack's last is looked at first -/
def look (b : Bnd) : Nat → List (D × Nat) → Bnd → Option Bnd
  | 0, _, _ => none
  | _ + 1, [], a => some a
  | n + 1, (d, k) :: st, a => match inner d with
    | none => none
    | some ys =>
      if within b (a.1 + places1 d, max a.2.1 k, a.2.2 + ys.length) = true then look b n ((ys.map fun y => (y, k + 1)).reverse ++ st) (a.1 + places1 d, max a.2.1 k, a.2.2 + ys.length) else none
def msr (st : List (D × Nat)) : Nat := (st.map fun p => p.1.size).sum
theorem sizes_eq (ds : List D) : D.size.sizes ds = (ds.map D.size).sum := by
  induction ds with
  | nil => rfl
  | cons d ds ih => rw [D.size.sizes, ih, List.map_cons, List.sum_cons]
theorem size_pos (d : D) : 0 < d.size := by
  cases d <;> (unfold D.size; omega)
theorem inner_size {d : D} {ys : List D} (h : inner d = some ys) : (ys.map D.size).sum < d.size := by
  unfold inner at h
  split at h
  · split at h
    · cases h
      exact size_pos _
    · cases h
  · rename_i w y
    unfold innerPair at h
    split at h
    · cases h
      simp only [D.size, D.size.sizes, List.map_cons, List.map_nil, List.sum_cons, List.sum_nil]
      omega
    · split at h
      · cases y with
        | tup zs =>
          cases h
          simp only [D.size, D.size.sizes, sizes_eq]
          omega
        | str z => cases h
        | lst => cases h
        | flat => cases h
      · cases h
  · cases h
theorem msr_step {d : D} {k : Nat} {st : List (D × Nat)} {ys : List D} (h : inner d = some ys) : msr ((ys.map fun y => (y, k + 1)).reverse ++ st) < msr ((d, k) :: st) := by
  unfold msr
  rw [List.map_append, List.sum_append, List.map_reverse, List.sum_reverse, List.map_map, List.map_cons, List.sum_cons]
  have e : ((fun p : D × Nat => p.1.size) ∘ fun y => (y, k + 1)) = D.size := rfl
  rw [e]
  have := inner_size h
  show _ < d.size + _
  omega

/-! ### expressions -/
inductive E where
  | eps
  | sym (c : Nat)
  | maybe (e : E)
  | many (e : E)
  | join (es : List E)
  | alt (es : List E)
def E.toD : E → D
  | .eps => .str sNo
  | .sym c => .str ⟨#[c]⟩
  | .maybe e => .tup [.str sMaybe, e.toD]
  | .many e => .tup [.str sMany, e.toD]
  | .join es => .tup [.str sJoin, .tup (toDs es)]
  | .alt es => .tup [.str sOr, .tup (toDs es)]
where toDs : List E → List D
  | [] => []
  | e :: es => e.toD :: toDs es
theorem toDs_eq (es : List E) : E.toD.toDs es = es.map E.toD := by
  induction es with
  | nil => rfl
  | cons e es ih => rw [E.toD.toDs, ih, List.map_cons]
def isJoin : E → Bool | .join _ => true | _ => false
def isAlt : E → Bool | .alt _ => true | _ => false
def E.ok : E → Bool
  | .eps => true
  | .sym c => decide (97 ≤ c) && decide (c ≤ 100)
  | .maybe e => e.ok
  | .many e => e.ok
  | .join es => decide (2 ≤ es.length) && oks es && !(es.any isJoin)
  | .alt es => decide (2 ≤ es.length) && oks es && !(es.any isAlt)
where oks : List E → Bool
  | [] => true
  | e :: es => e.ok && oks es
theorem oks_eq (es : List E) : E.ok.oks es = es.all E.ok := by
  induction es with
  | nil => rfl
  | cons e es ih => rw [E.ok.oks, ih, List.all_cons]
def E.places : E → Nat
  | .eps => 0
  | .sym _ => 1
  | .maybe e => e.places
  | .many e => e.places
  | .join es => placess es
  | .alt es => placess es
where placess : List E → Nat
  | [] => 0
  | e :: es => e.places + placess es
def E.depth : E → Nat
  | .eps => 0
  | .sym _ => 0
  | .maybe e => e.depth + 1
  | .many e => e.depth + 1
  | .join es => depths es + 1
  | .alt es => depths es + 1
where depths : List E → Nat
  | [] => 0
  | e :: es => max e.depth (depths es)
def E.parts : E → Nat
  | .eps => 1
  | .sym _ => 1
  | .maybe e => e.parts + 1
  | .many e => e.parts + 1
  | .join es => partss es + 1
  | .alt es => partss es + 1
where partss : List E → Nat
  | [] => 0
  | e :: es => e.parts + partss es
theorem placess_eq (es : List E) : E.places.placess es = (es.map E.places).sum := by
  induction es with
  | nil => rfl
  | cons e es ih => rw [E.places.placess, ih, List.map_cons, List.sum_cons]
theorem partss_eq (es : List E) : E.parts.partss es = (es.map E.parts).sum := by
  induction es with
  | nil => rfl
  | cons e es ih => rw [E.parts.partss, ih, List.map_cons, List.sum_cons]
theorem depths_le {es : List E} {n : Nat} (h : ∀ e ∈ es, e.depth ≤ n) : E.depth.depths es ≤ n := by
  induction es with
  | nil => exact Nat.zero_le _
  | cons e es ih =>
    rw [E.depth.depths]
    exact Nat.max_le.mpr ⟨h e (List.mem_cons_self ..), ih fun x hx => h x (List.mem_cons_of_mem _ hx)⟩
/-- the expressions directly in one -/
def E.kids : E → List E
  | .eps => []
  | .sym _ => []
  | .maybe e => [e]
  | .many e => [e]
  | .join es => es
  | .alt es => es
def E.own : E → Nat
  | .sym _ => 1
  | _ => 0
theorem parts_kids (e : E) : e.parts = (e.kids.map E.parts).sum + 1 := by
  cases e <;> simp [E.parts, E.kids, partss_eq]
theorem places_kids (e : E) : e.places = e.own + (e.kids.map E.places).sum := by
  cases e <;> simp [E.places, E.kids, E.own, placess_eq]
theorem ok_kids {e : E} (h : e.ok = true) : ∀ k ∈ e.kids, k.ok = true := by
  intro k hk
  cases e with
  | eps => cases hk
  | sym c => cases hk
  | maybe e => rw [E.kids, List.mem_singleton] at hk; subst hk; rw [E.ok] at h; exact h
  | many e => rw [E.kids, List.mem_singleton] at hk; subst hk; rw [E.ok] at h; exact h
  | join es =>
    rw [E.ok, oks_eq] at h
    simp only [Bool.and_eq_true, List.all_eq_true] at h
    exact h.1.2 k hk
  | alt es =>
    rw [E.ok, oks_eq] at h
    simp only [Bool.and_eq_true, List.all_eq_true] at h
    exact h.1.2 k hk
theorem begins_tup (w x : Str) (ys : List D) : begins w (.tup (.str x :: ys)) = decide (x = w) := rfl
theorem begins_join (e : E) : begins sJoin e.toD = isJoin e := by
  cases e with
  | eps => rfl
  | sym c => rfl
  | maybe e => rw [E.toD, begins_tup]; exact decide_eq_false (fun h => jm h.symm)
  | many e => rw [E.toD, begins_tup]; exact decide_eq_false (fun h => jn h.symm)
  | join es => rw [E.toD, begins_tup]; exact decide_eq_true rfl
  | alt es => rw [E.toD, begins_tup]; exact decide_eq_false (fun h => jo h.symm)
theorem begins_or (e : E) : begins sOr e.toD = isAlt e := by
  cases e with
  | eps => rfl
  | sym c => rfl
  | maybe e => rw [E.toD, begins_tup]; exact decide_eq_false (fun h => om h.symm)
  | many e => rw [E.toD, begins_tup]; exact decide_eq_false (fun h => on h.symm)
  | join es => rw [E.toD, begins_tup]; exact decide_eq_false (fun h => jo h)
  | alt es => rw [E.toD, begins_tup]; exact decide_eq_true rfl
theorem rowOk_tup (w : Str) (ys : List D) : rowOk w (.tup ys) = (decide (2 ≤ ys.length) && !(ys.any (begins w))) := rfl
theorem inner_toD {e : E} (h : e.ok = true) : inner e.toD = some (e.kids.map E.toD) := by
  cases e with
  | eps => rw [E.toD, inner, if_pos (.inl rfl)]; rfl
  | sym c =>
    have q : isLet ⟨#[c]⟩ = true := by
      rw [E.ok] at h
      exact h
    rw [E.toD, inner, if_pos (.inr q)]; rfl
  | maybe e => rw [E.toD, inner_pair, innerPair, if_pos (.inl rfl)]; rfl
  | many e => rw [E.toD, inner_pair, innerPair, if_pos (.inr rfl)]; rfl
  | join es =>
    rw [E.ok, oks_eq] at h
    simp only [Bool.and_eq_true, decide_eq_true_eq] at h
    have r : rowOk sJoin (.tup (E.toD.toDs es)) = true := by
      rw [rowOk_tup, toDs_eq, List.length_map, List.any_map]
      have z : (begins sJoin ∘ E.toD) = isJoin := funext begins_join
      rw [z, h.2, Bool.and_true]
      exact decide_eq_true h.1.1
    rw [E.toD, inner_pair, innerPair, if_neg (fun z => z.elim jm jn), if_pos ⟨.inl rfl, r⟩, toDs_eq]; rfl
  | alt es =>
    rw [E.ok, oks_eq] at h
    simp only [Bool.and_eq_true, decide_eq_true_eq] at h
    have r : rowOk sOr (.tup (E.toD.toDs es)) = true := by
      rw [rowOk_tup, toDs_eq, List.length_map, List.any_map]
      have z : (begins sOr ∘ E.toD) = isAlt := funext begins_or
      rw [z, h.2, Bool.and_true]
      exact decide_eq_true h.1.1
    rw [E.toD, inner_pair, innerPair, if_neg (fun z => z.elim om on), if_pos ⟨.inr rfl, r⟩, toDs_eq]; rfl
theorem places1_toD (e : E) : places1 e.toD = e.own := by
  cases e <;> rw [E.toD] <;> first | rfl | exact lE
theorem depth_kids (e : E) : ∀ k ∈ e.kids, k.depth + 1 ≤ e.depth := by
  have a : ∀ (es : List E), ∀ k ∈ es, k.depth ≤ E.depth.depths es := by
    intro es
    induction es with
    | nil => intro k h; cases h
    | cons e es ih =>
      intro k h
      rw [E.depth.depths]
      rcases List.mem_cons.mp h with rfl | h
      · exact Nat.le_max_left _ _
      · exact Nat.le_trans (ih k h) (Nat.le_max_right _ _)
  intro k hk
  cases e with
  | eps => cases hk
  | sym c => cases hk
  | maybe e => rw [E.kids, List.mem_singleton] at hk; subst hk; rw [E.depth]; omega
  | many e => rw [E.kids, List.mem_singleton] at hk; subst hk; rw [E.depth]; omega
  | join es => have := a es k hk; rw [E.depth]; omega
  | alt es => have := a es k hk; rw [E.depth]; omega
theorem depth_by {e : E} {n : Nat} (h : ∀ k ∈ e.kids, k.depth + 1 ≤ n) : e.depth ≤ n ∨ (e.kids = [] ∧ e.depth = 0) ∨ e.depth = 1 := by
  cases e with
  | eps => exact .inr (.inl ⟨rfl, rfl⟩)
  | sym c => exact .inr (.inl ⟨rfl, rfl⟩)
  | maybe e => exact .inl (h e (List.mem_singleton.mpr rfl))
  | many e => exact .inl (h e (List.mem_singleton.mpr rfl))
  | join es =>
    cases es with
    | nil => exact .inr (.inr rfl)
    | cons x r =>
      refine .inl ?_
      rw [E.depth]
      cases n with
      | zero => have := h x (List.mem_cons_self ..); omega
      | succ n => exact Nat.succ_le_succ (depths_le fun k hk => Nat.le_of_succ_le_succ (h k hk))
  | alt es =>
    cases es with
    | nil => exact .inr (.inr rfl)
    | cons x r =>
      refine .inl ?_
      rw [E.depth]
      cases n with
      | zero => have := h x (List.mem_cons_self ..); omega
      | succ n => exact Nat.succ_le_succ (depths_le fun k hk => Nat.le_of_succ_le_succ (h k hk))
/-! ### what the look gives -/
abbrev Stk := List (E × Nat)
def sD (st : Stk) : List (D × Nat) := st.map fun p => (p.1.toD, p.2)
/-- the greatest depth on the stack, from m on -/
def deepE (st : Stk) (m : Nat) : Nat := st.foldr (fun p m => max (p.2 + p.1.depth) m) m
def totE (st : Stk) (a : Bnd) : Bnd := (a.1 + (st.map fun p => p.1.places).sum, deepE st a.2.1, a.2.2 + (st.map fun p => p.1.parts - 1).sum)
theorem deepE_app (s t : Stk) (m : Nat) : deepE (s ++ t) m = deepE s (deepE t m) := by
  unfold deepE
  rw [List.foldr_append]
theorem deepE_max (s : Stk) (m : Nat) : m ≤ deepE s m := by
  induction s with
  | nil => exact Nat.le_refl _
  | cons p s ih => exact Nat.le_trans ih (Nat.le_max_right _ _)
theorem deepE_le {s : Stk} {m n : Nat} : deepE s m ≤ n ↔ m ≤ n ∧ ∀ p ∈ s, p.2 + p.1.depth ≤ n := by
  induction s with
  | nil => exact ⟨fun h => ⟨h, fun p hp => by cases hp⟩, fun h => h.1⟩
  | cons p s ih =>
    show max (p.2 + p.1.depth) (deepE s m) ≤ n ↔ _
    rw [Nat.max_le, ih]
    constructor
    · rintro ⟨h1, h2, h3⟩
      refine ⟨h2, fun q hq => ?_⟩
      rcases List.mem_cons.mp hq with rfl | hq
      · exact h1
      · exact h3 q hq
    · rintro ⟨h1, h2⟩
      exact ⟨h2 p (List.mem_cons_self ..), h1, fun q hq => h2 q (List.mem_cons_of_mem _ hq)⟩
theorem within_iff {b a : Bnd} : within b a = true ↔ a.1 ≤ b.1 ∧ a.2.1 ≤ b.2.1 ∧ a.2.2 ≤ b.2.2 := by
  unfold within
  simp only [Bool.and_eq_true, decide_eq_true_eq, and_assoc]
theorem depth_parts (e : E) (k : Nat) (n : Nat) (h0 : k ≤ n) (h : ∀ q ∈ e.kids, k + 1 + q.depth ≤ n) (hk : e.kids = [] → e.depth = 0) : k + e.depth ≤ n := by
  rcases depth_by (e := e) (n := n - k) (fun q hq => by have := h q hq; omega) with a | ⟨_, a⟩ | a
  · omega
  · omega
  · cases e with
    | eps => have : E.depth E.eps = 0 := rfl; omega
    | sym c => have : E.depth (E.sym c) = 0 := rfl; omega
    | maybe e => have := h e (List.mem_singleton.mpr rfl); omega
    | many e => have := h e (List.mem_singleton.mpr rfl); omega
    | join es =>
      cases es with
      | nil => have := hk rfl; omega
      | cons x r => have := h x (List.mem_cons_self ..); omega
    | alt es =>
      cases es with
      | nil => have := hk rfl; omega
      | cons x r => have := h x (List.mem_cons_self ..); omega
theorem kids_nil {e : E} (h : e.ok = true) (k : e.kids = []) : e.depth = 0 := by
  cases e with
  | eps => rfl
  | sym c => rfl
  | maybe e => cases k
  | many e => cases k
  | join es =>
    rw [E.kids] at k
    subst k
    cases h
  | alt es =>
    rw [E.kids] at k
    subst k
    cases h
theorem parts_pos (e : E) : 1 ≤ e.parts := by
  rw [parts_kids]
  omega
theorem sum_pred (es : List E) : (es.map fun e => e.parts - 1).sum + es.length = (es.map E.parts).sum := by
  induction es with
  | nil => rfl
  | cons e es ih =>
    have := parts_pos e
    simp only [List.map_cons, List.sum_cons, List.length_cons]
    omega
/-- one look at an expression -/
theorem tot_step {b : Bnd} {e : E} {k : Nat} {st : Stk} {a : Bnd} (h : e.ok = true) :
    totE ((e.kids.map fun y => (y, k + 1)).reverse ++ st) (a.1 + e.own, max a.2.1 k, a.2.2 + e.kids.length) = totE ((e, k) :: st) a := by
  have hp := places_kids e
  have hq := parts_kids e
  have hs := sum_pred e.kids
  unfold totE
  refine Prod.ext ?_ (Prod.ext ?_ ?_)
  · show a.1 + e.own + _ = a.1 + _
    rw [List.map_append, List.sum_append, List.map_reverse, List.sum_reverse, List.map_map, List.map_cons, List.sum_cons]
    show a.1 + e.own + ((e.kids.map E.places).sum + _) = a.1 + (e.places + _)
    omega
  · show deepE _ (max a.2.1 k) = deepE ((e, k) :: st) a.2.1
    refine Nat.le_antisymm (deepE_le.mpr ⟨?_, ?_⟩) (deepE_le.mpr ⟨?_, ?_⟩)
    · refine Nat.max_le.mpr ⟨deepE_max _ _, ?_⟩
      exact Nat.le_trans (Nat.le_add_right _ _) ((deepE_le.mp (Nat.le_refl _)).2 (e, k) (List.mem_cons_self ..))
    · intro p hp
      rcases List.mem_append.mp hp with hp | hp
      · rw [List.mem_reverse, List.mem_map] at hp
        obtain ⟨y, hy, rfl⟩ := hp
        have := depth_kids e y hy
        have q := (deepE_le.mp (Nat.le_refl (deepE ((e, k) :: st) a.2.1))).2 (e, k) (List.mem_cons_self ..)
        show k + 1 + y.depth ≤ _
        have q' : k + e.depth ≤ deepE ((e, k) :: st) a.2.1 := q
        omega
      · exact (deepE_le.mp (Nat.le_refl (deepE ((e, k) :: st) a.2.1))).2 p (List.mem_cons_of_mem _ hp)
    · exact Nat.le_trans (Nat.le_max_left _ _) (deepE_max _ _)
    · intro p hp
      have L := (deepE_le.mp (Nat.le_refl (deepE ((e.kids.map fun y => (y, k + 1)).reverse ++ st) (max a.2.1 k))))
      rcases List.mem_cons.mp hp with rfl | hp
      · refine depth_parts e k _ (Nat.le_trans (Nat.le_max_right _ _) L.1) (fun q hq => ?_) (kids_nil h)
        exact L.2 (q, k + 1) (List.mem_append_left _ (List.mem_reverse.mpr (List.mem_map.mpr ⟨q, hq, rfl⟩)))
      · exact L.2 p (List.mem_append_right _ hp)
  · show a.2.2 + e.kids.length + _ = a.2.2 + _
    rw [List.map_append, List.sum_append, List.map_reverse, List.sum_reverse, List.map_map, List.map_cons, List.sum_cons]
    show a.2.2 + e.kids.length + ((e.kids.map fun e => e.parts - 1).sum + _) = a.2.2 + ((e.parts - 1) + _)
    omega
theorem tot_ge (st : Stk) (a : Bnd) : a.1 ≤ (totE st a).1 ∧ a.2.1 ≤ (totE st a).2.1 ∧ a.2.2 ≤ (totE st a).2.2 := ⟨Nat.le_add_right _ _, deepE_max _ _, Nat.le_add_right _ _⟩
theorem sD_step (e : E) (k : Nat) (st : Stk) : ((e.kids.map E.toD).map fun y => (y, k + 1)).reverse ++ sD st = sD ((e.kids.map fun y => (y, k + 1)).reverse ++ st) := by
  unfold sD
  rw [List.map_append, List.map_reverse, List.map_map, List.map_map]
  rfl
theorem look_ok {b : Bnd} : ∀ (n : Nat) (st : Stk) (a : Bnd), msr (sD st) < n → (∀ p ∈ st, p.1.ok = true) → within b a = true → look b n (sD st) a = if within b (totE st a) = true then some (totE st a) else none
  | 0, st, a, h, _, _ => absurd h (Nat.not_lt_zero _)
  | n + 1, [], a, _, _, hw => by
    have e : totE [] a = a := rfl
    rw [e, if_pos hw]
    rfl
  | n + 1, (e, k) :: st, a, hm, ho, hw => by
    have h := ho (e, k) (List.mem_cons_self ..)
    have hi := inner_toD h
    show (match inner e.toD with | none => none | some ys => if within b (a.1 + places1 e.toD, max a.2.1 k, a.2.2 + ys.length) = true then look b n ((ys.map fun y => (y, k + 1)).reverse ++ sD st) (a.1 + places1 e.toD, max a.2.1 k, a.2.2 + ys.length) else none) = _
    rw [hi]
    show (if within b (a.1 + places1 e.toD, max a.2.1 k, a.2.2 + (e.kids.map E.toD).length) = true then look b n (((e.kids.map E.toD).map fun y => (y, k + 1)).reverse ++ sD st) (a.1 + places1 e.toD, max a.2.1 k, a.2.2 + (e.kids.map E.toD).length) else none) = _
    rw [places1_toD, List.length_map, sD_step]
    have ts := tot_step (b := b) (k := k) (st := st) (a := a) h
    by_cases c : within b (a.1 + e.own, max a.2.1 k, a.2.2 + e.kids.length) = true
    · have m1 : msr (sD ((e.kids.map fun y => (y, k + 1)).reverse ++ st)) < n := by
        have := msr_step (k := k) (st := sD st) hi
        rw [sD_step] at this
        have hm' : msr ((e.toD, k) :: sD st) < n + 1 := hm
        exact Nat.lt_of_lt_of_le this (Nat.le_of_lt_succ hm')
      rw [if_pos c, look_ok n _ _ m1 (fun p hp => ?_) c, ts]
      rcases List.mem_append.mp hp with hp | hp
      · rw [List.mem_reverse, List.mem_map] at hp
        obtain ⟨y, hy, rfl⟩ := hp
        exact ok_kids h y hy
      · exact ho p (List.mem_cons_of_mem _ hp)
    · rw [if_neg c, if_neg]
      intro z
      rw [← ts] at z
      apply c
      have g := tot_ge ((e.kids.map fun y => (y, k + 1)).reverse ++ st) (a.1 + e.own, max a.2.1 k, a.2.2 + e.kids.length)
      rw [within_iff] at z ⊢
      exact ⟨Nat.le_trans g.1 z.1, Nat.le_trans g.2.1 z.2.1, Nat.le_trans g.2.2 z.2.2⟩
/-- something wrong within -/
inductive Bad : D → Prop where
  | here {d : D} (h : inner d = none) : Bad d
  | inn {d y : D} {ys : List D} (h : inner d = some ys) (m : y ∈ ys) (b : Bad y) : Bad d
theorem look_bad {b : Bnd} : ∀ (n : Nat) (st : List (D × Nat)) (a : Bnd), (∃ p ∈ st, Bad p.1) → look b n st a = none
  | 0, _, _, _ => rfl
  | n + 1, [], _, h => by
    obtain ⟨p, hp, _⟩ := h
    cases hp
  | n + 1, (d, k) :: st, a, h => by
    show (match inner d with | none => none | some ys => if within b (a.1 + places1 d, max a.2.1 k, a.2.2 + ys.length) = true then look b n ((ys.map fun y => (y, k + 1)).reverse ++ st) (a.1 + places1 d, max a.2.1 k, a.2.2 + ys.length) else none) = none
    cases hi : inner d with
    | none => rfl
    | some ys =>
      show (if within b (a.1 + places1 d, max a.2.1 k, a.2.2 + ys.length) = true then look b n ((ys.map fun y => (y, k + 1)).reverse ++ st) (a.1 + places1 d, max a.2.1 k, a.2.2 + ys.length) else none) = none
      split
      · refine look_bad n _ _ ?_
        obtain ⟨p, hp, hb⟩ := h
        rcases List.mem_cons.mp hp with rfl | hp
        · cases hb with
          | here z => rw [z] at hi; cases hi
          | inn z m hb =>
            rw [z] at hi
            cases hi
            exact ⟨(_, k + 1), List.mem_append_left _ (List.mem_reverse.mpr (List.mem_map.mpr ⟨_, m, rfl⟩)), hb⟩
        · exact ⟨p, List.mem_append_right _ hp, hb⟩
      · rfl
/-- what sizes_within gives of a datum -/
def sizesOf (b : Bnd) (d : D) : Option Bnd := look b (d.size + 1) [(d, 0)] (0, 0, 1)
theorem sizes_ok {b : Bnd} {e : E} (h : e.ok = true) (hb : 1 ≤ b.2.2) : sizesOf b e.toD = if within b (e.places, e.depth, e.parts) = true then some (e.places, e.depth, e.parts) else none := by
  have q := look_ok (b := b) (e.toD.size + 1) [(e, 0)] (0, 0, 1) (by show msr [(e.toD, 0)] < _; unfold msr; simp) (fun p hp => by rw [List.mem_singleton] at hp; subst hp; exact h) (within_iff.mpr ⟨Nat.zero_le _, Nat.zero_le _, hb⟩)
  have t : totE [(e, 0)] (0, 0, 1) = (e.places, e.depth, e.parts) := by
    have := parts_pos e
    refine Prod.ext ?_ (Prod.ext ?_ ?_)
    · show 0 + (e.places + 0) = e.places
      omega
    · show max (0 + e.depth) 0 = e.depth
      omega
    · show 1 + (e.parts - 1 + 0) = e.parts
      omega
  rw [t] at q
  exact q
theorem sizes_bad {b : Bnd} {d : D} (h : Bad d) : sizesOf b d = none := look_bad _ _ _ ⟨(d, 0), List.mem_singleton.mpr rfl, h⟩
theorem headFlat_toD (e : E) : headFlat e.toD = true := by
  cases e <;> rw [E.toD] <;> rfl
theorem rowFlat_toDs (es : List E) : rowFlat (.tup (E.toD.toDs es)) = true := by
  rw [toDs_eq]
  show (es.map E.toD).all headFlat = true
  rw [List.all_eq_true]
  intro d hd
  rw [List.mem_map] at hd
  obtain ⟨e, _, rfl⟩ := hd
  exact headFlat_toD e
theorem fl_pair {w : Str} {y : D} (h : w = sJoin ∨ w = sOr → rowFlat y = true) (k : Fl y) : Fl (.tup [.str w, y]) := by
  refine .tup (fun w' y' e => ?_) fun d hd => ?_
  · cases e
    exact h
  · rcases List.mem_cons.mp hd with rfl | hd
    · exact .str _
    · rw [List.mem_singleton] at hd
      subst hd
      exact k
theorem toD_str {e : E} {w : Str} (h : e.toD = .str w) : ¬ (w = sJoin ∨ w = sOr) := by
  cases e with
  | eps =>
    rw [E.toD] at h
    cases h
    rintro (h | h)
    · exact je h.symm
    · exact oe h.symm
  | sym c =>
    rw [E.toD] at h
    cases h
    rintro (h | h)
    · have := congrArg Str.length h
      rw [lJ] at this
      cases this
    · have := congrArg Str.length h
      rw [lO] at this
      cases this
  | maybe e => rw [E.toD] at h; cases h
  | many e => rw [E.toD] at h; cases h
  | join es => rw [E.toD] at h; cases h
  | alt es => rw [E.toD] at h; cases h
mutual
theorem fl_toD : ∀ e : E, Fl e.toD
  | .eps => .str _
  | .sym c => .str _
  | .maybe e => by
    rw [E.toD]
    exact fl_pair (fun h => (h.elim (fun h => jm h.symm) fun h => om h.symm).elim) (fl_toD e)
  | .many e => by
    rw [E.toD]
    exact fl_pair (fun h => (h.elim (fun h => jn h.symm) fun h => on h.symm).elim) (fl_toD e)
  | .join es => by
    rw [E.toD]
    exact fl_pair (fun _ => rowFlat_toDs es) (fl_toDs es)
  | .alt es => by
    rw [E.toD]
    exact fl_pair (fun _ => rowFlat_toDs es) (fl_toDs es)
theorem fl_toDs : ∀ es : List E, Fl (.tup (E.toD.toDs es))
  | [] => .tup (fun w y h => by cases h) fun d hd => by cases hd
  | e :: es => by
    have h := fl_toDs es
    have h0 := fl_toD e
    refine .tup (fun w y z hw => ?_) fun d hd => ?_
    · rw [E.toD.toDs] at z
      have z1 : e.toD = .str w := (List.cons.inj z).1
      exact absurd hw (toD_str z1)
    · rw [E.toD.toDs] at hd
      rcases List.mem_cons.mp hd with rfl | hd
      · exact h0
      · cases h with
        | tup _ k => exact k d hd
end
end My
namespace My
open PySem PySem.Spec PyProof.Rows L2
/-! ### which places come first, last, behind one another -/
structure Gl where
  nul : Bool
  fst : List Nat
  lst : List Nat
  fol : List (Nat × Nat)
def prodL (xs ys : List Nat) : List (Nat × Nat) := (xs.map fun i => ys.map fun j => (i, j)).flatten
theorem mem_prodL {xs ys : List Nat} {i j : Nat} : (i, j) ∈ prodL xs ys ↔ i ∈ xs ∧ j ∈ ys := by
  unfold prodL
  rw [List.mem_flatten]
  constructor
  · rintro ⟨l, hl, h⟩
    obtain ⟨a, ha, rfl⟩ := List.mem_map.mp hl
    obtain ⟨b, hb, e⟩ := List.mem_map.mp h
    cases e
    exact ⟨ha, hb⟩
  · rintro ⟨h1, h2⟩
    exact ⟨_, List.mem_map.mpr ⟨i, h1, rfl⟩, List.mem_map.mpr ⟨j, h2, rfl⟩⟩
def Gl.one : Gl := ⟨true, [], [], []⟩
def Gl.non : Gl := ⟨false, [], [], []⟩
def Gl.seq (a b : Gl) : Gl := ⟨a.nul && b.nul, a.fst ++ (if a.nul then b.fst else []), (if b.nul then a.lst else []) ++ b.lst, a.fol ++ (prodL a.lst b.fst ++ b.fol)⟩
def Gl.par (a b : Gl) : Gl := ⟨a.nul || b.nul, a.fst ++ b.fst, a.lst ++ b.lst, a.fol ++ b.fol⟩
def gl : E → Nat → Gl
  | .eps, _ => .one
  | .sym _, o => ⟨false, [o], [o], []⟩
  | .maybe e, o => ⟨true, (gl e o).fst, (gl e o).lst, (gl e o).fol⟩
  | .many e, o => ⟨true, (gl e o).fst, (gl e o).lst, (gl e o).fol ++ prodL (gl e o).lst (gl e o).fst⟩
  | .join es, o => glJ es o
  | .alt es, o => glA es o
where
  glJ : List E → Nat → Gl
    | [], _ => .one
    | e :: es, o => (gl e o).seq (glJ es (o + e.places))
  glA : List E → Nat → Gl
    | [], _ => .non
    | e :: es, o => (gl e o).par (glA es (o + e.places))
/-- the same but for the sequence of the pairs -/
structure Eqv (a b : Gl) : Prop where
  nul : a.nul = b.nul
  fst : a.fst = b.fst
  lst : a.lst = b.lst
  fol : ∀ x, x ∈ a.fol ↔ x ∈ b.fol
theorem Eqv.refl (a : Gl) : Eqv a a := ⟨rfl, rfl, rfl, fun _ => Iff.rfl⟩
theorem Eqv.trans {a b c : Gl} (x : Eqv a b) (y : Eqv b c) : Eqv a c := ⟨x.nul.trans y.nul, x.fst.trans y.fst, x.lst.trans y.lst, fun z => (x.fol z).trans (y.fol z)⟩
theorem Eqv.seq {a b c : Gl} (h : Eqv b c) : Eqv (a.seq b) (a.seq c) where
  nul := by unfold Gl.seq; rw [h.nul]
  fst := by unfold Gl.seq; rw [h.fst]
  lst := by unfold Gl.seq; rw [h.lst, h.nul]
  fol x := by
    unfold Gl.seq
    simp only [List.mem_append]
    rw [h.fst, h.fol]
theorem seq_one (a : Gl) : Eqv (a.seq .one) a where
  nul := Bool.and_true _
  fst := by show a.fst ++ (if a.nul = true then [] else []) = _; split <;> simp
  lst := by show (if true = true then a.lst else []) ++ [] = _; simp
  fol x := by
    show x ∈ a.fol ++ (prodL a.lst [] ++ []) ↔ _
    obtain ⟨i, j⟩ := x
    rw [List.mem_append, List.append_nil, mem_prodL]
    simp
theorem one_seq (a : Gl) : Eqv (Gl.one.seq a) a where
  nul := rfl
  fst := rfl
  lst := by show (if a.nul = true then [] else []) ++ a.lst = _; split <;> rfl
  fol x := Iff.rfl
theorem seq_assoc (a b c : Gl) : Eqv ((a.seq b).seq c) (a.seq (b.seq c)) where
  nul := Bool.and_assoc ..
  fst := by
    show (a.fst ++ (if a.nul = true then b.fst else [])) ++ (if (a.nul && b.nul) = true then c.fst else []) = a.fst ++ (if a.nul = true then b.fst ++ (if b.nul = true then c.fst else []) else [])
    cases a.nul <;> cases b.nul <;> simp
  lst := by
    show (if c.nul = true then (if b.nul = true then a.lst else []) ++ b.lst else []) ++ c.lst = (if (b.nul && c.nul) = true then a.lst else []) ++ ((if c.nul = true then b.lst else []) ++ c.lst)
    cases b.nul <;> cases c.nul <;> simp
  fol x := by
    obtain ⟨i, j⟩ := x
    unfold Gl.seq
    simp only [List.mem_append, mem_prodL]
    cases a.nul <;> cases b.nul <;> cases c.nul <;> simp <;> grind
theorem par_assoc (a b c : Gl) : (a.par b).par c = a.par (b.par c) := by
  unfold Gl.par
  simp [Bool.or_assoc, List.append_assoc]
theorem par_non (a : Gl) : a.par .non = a := by
  unfold Gl.par Gl.non
  simp
theorem non_par (a : Gl) : Gl.non.par a = a := by
  unfold Gl.par Gl.non
  simp
theorem sumP_cons (e : E) (es : List E) : ((e :: es).map E.places).sum = e.places + (es.map E.places).sum := by
  rw [List.map_cons, List.sum_cons]
theorem glJ_snoc (es : List E) (e : E) : ∀ o, Eqv (gl.glJ (es ++ [e]) o) ((gl.glJ es o).seq (gl e (o + (es.map E.places).sum))) := by
  induction es with
  | nil =>
    intro o
    show Eqv ((gl e o).seq Gl.one) (Gl.one.seq (gl e (o + 0)))
    rw [Nat.add_zero]
    refine (seq_one _).trans ?_
    have := one_seq (gl e o)
    exact ⟨this.nul.symm, this.fst.symm, this.lst.symm, fun x => (this.fol x).symm⟩
  | cons a es ih =>
    intro o
    show Eqv ((gl a o).seq (gl.glJ (es ++ [e]) (o + a.places))) (((gl a o).seq (gl.glJ es (o + a.places))).seq _)
    refine ((ih (o + a.places)).seq).trans ?_
    have h := seq_assoc (gl a o) (gl.glJ es (o + a.places)) (gl e (o + a.places + (es.map E.places).sum))
    rw [sumP_cons, ← Nat.add_assoc]
    exact ⟨h.nul.symm, h.fst.symm, h.lst.symm, fun x => (h.fol x).symm⟩
theorem glA_snoc (es : List E) (e : E) : ∀ o, gl.glA (es ++ [e]) o = (gl.glA es o).par (gl e (o + (es.map E.places).sum)) := by
  induction es with
  | nil =>
    intro o
    show (gl e o).par Gl.non = Gl.non.par (gl e (o + 0))
    rw [Nat.add_zero, par_non, non_par]
  | cons a es ih =>
    intro o
    show (gl a o).par (gl.glA (es ++ [e]) (o + a.places)) = ((gl a o).par (gl.glA es (o + a.places))).par _
    rw [ih, par_assoc, sumP_cons, ← Nat.add_assoc]
/-- all places that are told lie within the expression's own -/
structure Within (g : Gl) (o n : Nat) : Prop where
  fst : ∀ i ∈ g.fst, o ≤ i ∧ i < o + n
  lst : ∀ i ∈ g.lst, o ≤ i ∧ i < o + n
  fol : ∀ i j, (i, j) ∈ g.fol → (o ≤ i ∧ i < o + n) ∧ o ≤ j ∧ j < o + n
theorem Within.wide {g : Gl} {o n o' n' : Nat} (h : Within g o n) (h1 : o' ≤ o) (h2 : o + n ≤ o' + n') : Within g o' n' where
  fst i hi := by have := h.fst i hi; omega
  lst i hi := by have := h.lst i hi; omega
  fol i j hi := by have := h.fol i j hi; omega
theorem Within.seq {a b : Gl} {o n : Nat} (x : Within a o n) (y : Within b o n) : Within (a.seq b) o n where
  fst i hi := by
    rcases List.mem_append.mp hi with h | h
    · exact x.fst i h
    · split at h
      · exact y.fst i h
      · cases h
  lst i hi := by
    rcases List.mem_append.mp hi with h | h
    · split at h
      · exact x.lst i h
      · cases h
    · exact y.lst i h
  fol i j hi := by
    rcases List.mem_append.mp hi with h | h
    · exact x.fol i j h
    · rcases List.mem_append.mp h with h | h
      · have := mem_prodL.mp h
        exact ⟨x.lst i this.1, y.fst j this.2⟩
      · exact y.fol i j h
theorem Within.par {a b : Gl} {o n : Nat} (x : Within a o n) (y : Within b o n) : Within (a.par b) o n where
  fst i hi := (List.mem_append.mp hi).elim (x.fst i) (y.fst i)
  lst i hi := (List.mem_append.mp hi).elim (x.lst i) (y.lst i)
  fol i j hi := (List.mem_append.mp hi).elim (x.fol i j) (y.fol i j)
mutual
theorem gl_within : ∀ (e : E) (o : Nat), Within (gl e o) o e.places
  | .eps, o => ⟨(fun i h => by cases h), (fun i h => by cases h), (fun i j h => by cases h)⟩
  | .sym c, o => ⟨(fun i h => by rw [gl, List.mem_singleton] at h; rw [E.places]; omega), (fun i h => by rw [gl, List.mem_singleton] at h; rw [E.places]; omega), (fun i j h => by cases h)⟩
  | .maybe e, o => by
    have h := gl_within e o
    rw [gl, E.places]
    exact ⟨h.fst, h.lst, h.fol⟩
  | .many e, o => by
    have h := gl_within e o
    rw [gl, E.places]
    refine ⟨h.fst, h.lst, fun i j hi => ?_⟩
    rcases List.mem_append.mp hi with c | c
    · exact h.fol i j c
    · have := mem_prodL.mp c
      exact ⟨h.lst i this.1, h.fst j this.2⟩
  | .join es, o => by
    rw [gl, E.places]
    exact glJ_within es o
  | .alt es, o => by
    rw [gl, E.places]
    exact glA_within es o
theorem glJ_within : ∀ (es : List E) (o : Nat), Within (gl.glJ es o) o (E.places.placess es)
  | [], o => ⟨(fun i h => by cases h), (fun i h => by cases h), (fun i j h => by cases h)⟩
  | e :: es, o => by
    rw [gl.glJ, E.places.placess]
    exact ((gl_within e o).wide (Nat.le_refl _) (by omega)).seq ((glJ_within es (o + e.places)).wide (by omega) (by omega))
theorem glA_within : ∀ (es : List E) (o : Nat), Within (gl.glA es o) o (E.places.placess es)
  | [], o => ⟨(fun i h => by cases h), (fun i h => by cases h), (fun i j h => by cases h)⟩
  | e :: es, o => by
    rw [gl.glA, E.places.placess]
    exact ((gl_within e o).wide (Nat.le_refl _) (by omega)).par ((glA_within es (o + e.places)).wide (by omega) (by omega))
end
/-! ### the letters of the places -/
def E.letters : E → List Nat
  | .eps => []
  | .sym c => [c]
  | .maybe e => e.letters
  | .many e => e.letters
  | .join es => letterss es
  | .alt es => letterss es
where letterss : List E → List Nat
  | [] => []
  | e :: es => e.letters ++ letterss es
theorem letterss_snoc (es : List E) (e : E) : E.letters.letterss (es ++ [e]) = E.letters.letterss es ++ e.letters := by
  induction es with
  | nil => show e.letters ++ [] = [] ++ e.letters; simp
  | cons a es ih =>
    show a.letters ++ E.letters.letterss (es ++ [e]) = (a.letters ++ E.letters.letterss es) ++ e.letters
    rw [ih, List.append_assoc]
mutual
theorem letters_len : ∀ e : E, e.letters.length = e.places
  | .eps => rfl
  | .sym c => rfl
  | .maybe e => by rw [E.letters, E.places]; exact letters_len e
  | .many e => by rw [E.letters, E.places]; exact letters_len e
  | .join es => by rw [E.letters, E.places]; exact letterss_len es
  | .alt es => by rw [E.letters, E.places]; exact letterss_len es
theorem letterss_len : ∀ es : List E, (E.letters.letterss es).length = E.places.placess es
  | [] => rfl
  | e :: es => by rw [E.letters.letterss, E.places.placess, List.length_append, letters_len e, letterss_len es]
end
structure Short (g : Gl) (n : Nat) : Prop where
  fst : g.fst.length ≤ n
  lst : g.lst.length ≤ n
theorem Short.seq {a b : Gl} {m n : Nat} (x : Short a m) (y : Short b n) : Short (a.seq b) (m + n) where
  fst := by
    show (a.fst ++ (if a.nul = true then b.fst else [])).length ≤ _
    rw [List.length_append]
    have := x.fst
    have := y.fst
    split
    · omega
    · show _ + 0 ≤ _; omega
  lst := by
    show ((if b.nul = true then a.lst else []) ++ b.lst).length ≤ _
    rw [List.length_append]
    have := x.lst
    have := y.lst
    split
    · omega
    · show 0 + _ ≤ _; omega
theorem Short.par {a b : Gl} {m n : Nat} (x : Short a m) (y : Short b n) : Short (a.par b) (m + n) where
  fst := by
    show (a.fst ++ b.fst).length ≤ _
    rw [List.length_append]
    have := x.fst
    have := y.fst
    omega
  lst := by
    show (a.lst ++ b.lst).length ≤ _
    rw [List.length_append]
    have := x.lst
    have := y.lst
    omega
mutual
theorem gl_len : ∀ (e : E) (o : Nat), Short (gl e o) e.places
  | .eps, o => ⟨Nat.zero_le _, Nat.zero_le _⟩
  | .sym c, o => ⟨Nat.le_refl _, Nat.le_refl _⟩
  | .maybe e, o => by
    rw [gl, E.places]
    exact ⟨(gl_len e o).fst, (gl_len e o).lst⟩
  | .many e, o => by
    rw [gl, E.places]
    exact ⟨(gl_len e o).fst, (gl_len e o).lst⟩
  | .join es, o => by
    rw [gl, E.places]
    exact glJ_len es o
  | .alt es, o => by
    rw [gl, E.places]
    exact glA_len es o
theorem glJ_len : ∀ (es : List E) (o : Nat), Short (gl.glJ es o) (E.places.placess es)
  | [], o => ⟨Nat.zero_le _, Nat.zero_le _⟩
  | e :: es, o => by
    rw [gl.glJ, E.places.placess]
    exact (gl_len e o).seq (glJ_len es (o + e.places))
theorem glA_len : ∀ (es : List E) (o : Nat), Short (gl.glA es o) (E.places.placess es)
  | [], o => ⟨Nat.zero_le _, Nat.zero_le _⟩
  | e :: es, o => by
    rw [gl.glA, E.places.placess]
    exact (gl_len e o).par (glA_len es (o + e.places))
end
end My
namespace My
open PySem PySem.Spec PyProof.Rows L2
def keysD (ms : List Int) : List (Key × V) := ms.map fun x => (Sum.inl x, V.bl true)
theorem putK_keys (ms : List Int) (x : Int) : putK (keysD ms) (Sum.inl x : Key) (V.bl true) = keysD (if x ∈ ms then ms else ms ++ [x]) := by
  unfold putK keysD
  have e1 : ((ms.map fun x => ((Sum.inl x : Key), V.bl true)).any fun kv => decide (kv.1 = Sum.inl x)) = decide (x ∈ ms) := by
    induction ms with
    | nil => simp
    | cons m ms ih =>
      rw [List.map_cons, List.any_cons, ih]
      by_cases c : m = x
      · subst c
        simp
      · have : ¬ ((Sum.inl m : Key) = Sum.inl x) := fun h => c (Sum.inl.inj h)
        rw [decide_eq_false this, Bool.false_or]
        by_cases d : x ∈ ms
        · rw [decide_eq_true d, decide_eq_true (List.mem_cons_of_mem _ d)]
        · rw [decide_eq_false d, decide_eq_false]
          intro h
          rcases List.mem_cons.mp h with h | h
          · exact c h.symm
          · exact d h
  rw [e1]
  by_cases c : x ∈ ms
  · rw [if_pos (decide_eq_true c), if_pos c, List.map_map]
    refine List.map_congr_left fun y _ => ?_
    show (if (Sum.inl y : Key) = Sum.inl x then ((Sum.inl y : Key), V.bl true) else ((Sum.inl y : Key), V.bl true)) = _
    split <;> rfl
  · rw [if_neg (by rw [decide_eq_false c]; exact Bool.false_ne_true), if_neg c, List.map_append]
    rfl
theorem keysD_vals (ms : List Int) : (keysD ms).map (fun kv => kV kv.1) = ms.map V.int := by
  unfold keysD
  rw [List.map_map]
  rfl
theorem keysD_len (ms : List Int) : (keysD ms).length = ms.length := List.length_map _
/-- a new key beside the others, once -/
def addK (ms : List Int) (x : Int) : List Int := if x ∈ ms then ms else ms ++ [x]
theorem mem_addK {ms : List Int} {x y : Int} : y ∈ addK ms x ↔ y ∈ ms ∨ y = x := by
  unfold addK
  split
  · rename_i h
    constructor
    · exact .inl
    · rintro (c | rfl)
      · exact c
      · exact h
  · rw [List.mem_append, List.mem_singleton]
theorem nodup_addK {ms : List Int} {x : Int} (h : ms.Nodup) : (addK ms x).Nodup := by
  unfold addK
  split
  · exact h
  · rename_i c
    rw [List.nodup_append]
    exact ⟨h, by simp, fun a ha b hb e => c (by rw [List.mem_singleton] at hb; rw [← hb, ← e]; exact ha)⟩
theorem len_addK (ms : List Int) (x : Int) : (addK ms x).length ≤ ms.length + 1 := by
  unfold addK
  split
  · omega
  · rw [List.length_append]; exact Nat.le_refl _
theorem nodup_len : ∀ (n : Nat) (l : List Int), l.Nodup → (∀ x ∈ l, 0 ≤ x ∧ x < n) → l.length ≤ n
  | 0, l, _, h => by
    cases l with
    | nil => exact Nat.le_refl _
    | cons x l =>
      have := h x (List.mem_cons_self ..)
      omega
  | n + 1, l, hd, h => by
    by_cases c : (n : Int) ∈ l
    · have h1 := nodup_len n (l.erase (n : Int)) (hd.erase _) fun x hx => by
        have h2 := h x (List.mem_of_mem_erase hx)
        have h3 : x ≠ (n : Int) := fun e => by
          rw [e] at hx
          exact (List.Nodup.not_mem_erase hd) hx
        omega
      have h4 := List.length_erase_of_mem c
      omega
    · have h1 := nodup_len n l hd fun x hx => by
        have h2 := h x hx
        have h3 : x ≠ (n : Int) := fun e => c (e ▸ hx)
        omega
      omega
theorem take_snoc {α : Type} {l : List α} {i : Nat} {x : α} (h : l[i]? = some x) : l.take (i + 1) = l.take i ++ [x] := by
  rw [List.take_add_one, h]
  rfl
end My
namespace My
open PySem PySem.Spec PyProof.Rows L2
/-! ### ways through the places, and words -/
def lastN : Nat → List Nat → Nat
  | x, [] => x
  | _, y :: ys => lastN y ys
def chn (F : List (Nat × Nat)) : Nat → List Nat → Prop
  | _, [] => True
  | x, y :: ys => (x, y) ∈ F ∧ chn F y ys
def Sfx (g : Gl) (x : Nat) (xs : List Nat) : Prop := chn g.fol x xs ∧ lastN x xs ∈ g.lst
def Acc (g : Gl) : List Nat → Prop
  | [] => g.nul = true
  | x :: xs => x ∈ g.fst ∧ Sfx g x xs
/-- any number of words that are not empty, one behind the other -/
inductive Star {α : Type} (L : List α → Prop) : List α → Prop where
  | nil : Star L []
  | cons {u v : List α} (h : L u) (n : u ≠ []) (t : Star L v) : Star L (u ++ v)
theorem Star.mono {α : Type} {L M : List α → Prop} (k : ∀ u, L u → M u) {w : List α} (h : Star L w) : Star M w := by
  induction h with
  | nil => exact .nil
  | cons h n _ ih => exact .cons (k _ h) n ih
def MP : E → Nat → List Nat → Prop
  | .eps, _, ps => ps = []
  | .sym _, o, ps => ps = [o]
  | .maybe e, o, ps => ps = [] ∨ MP e o ps
  | .many e, o, ps => Star (MP e o) ps
  | .join es, o, ps => mpJ es o ps
  | .alt es, o, ps => mpA es o ps
where
  mpJ : List E → Nat → List Nat → Prop
    | [], _, ps => ps = []
    | e :: es, o, ps => ∃ us vs, ps = us ++ vs ∧ MP e o us ∧ mpJ es (o + e.places) vs
  mpA : List E → Nat → List Nat → Prop
    | [], _, _ => False
    | e :: es, o, ps => MP e o ps ∨ mpA es (o + e.places) ps
def MW : E → List Nat → Prop
  | .eps, w => w = []
  | .sym c, w => w = [c]
  | .maybe e, w => w = [] ∨ MW e w
  | .many e, w => Star (MW e) w
  | .join es, w => mwJ es w
  | .alt es, w => mwA es w
where
  mwJ : List E → List Nat → Prop
    | [], w => w = []
    | e :: es, w => ∃ us vs, w = us ++ vs ∧ MW e us ∧ mwJ es vs
  mwA : List E → List Nat → Prop
    | [], _ => False
    | e :: es, w => MW e w ∨ mwA es w
theorem mp_eps (o : Nat) (ps : List Nat) : MP .eps o ps ↔ ps = [] := Iff.rfl
theorem mp_sym (c o : Nat) (ps : List Nat) : MP (.sym c) o ps ↔ ps = [o] := Iff.rfl
/-! #### one behind the other -/
theorem chn_mono {F G : List (Nat × Nat)} (k : ∀ x, x ∈ F → x ∈ G) : ∀ (ys : List Nat) (x : Nat), chn F x ys → chn G x ys
  | [], _, _ => trivial
  | y :: ys, x, h => ⟨k _ h.1, chn_mono k ys y h.2⟩
theorem chn_app {F : List (Nat × Nat)} : ∀ (us : List Nat) (x y : Nat) (vs : List Nat), chn F x us → (lastN x us, y) ∈ F → chn F y vs → chn F x (us ++ y :: vs)
  | [], _, _, _, _, h2, h3 => ⟨h2, h3⟩
  | _ :: us, _, _, _, h1, h2, h3 => ⟨h1.1, chn_app us _ _ _ h1.2 h2 h3⟩
theorem lastN_app : ∀ (us : List Nat) (x y : Nat) (vs : List Nat), lastN x (us ++ y :: vs) = lastN y vs
  | [], _, _, _ => rfl
  | u :: us, _, y, vs => lastN_app us u y vs
theorem lastN_app0 (x : Nat) (us : List Nat) : lastN x (us ++ []) = lastN x us := by rw [List.append_nil]
/-- a way that is within the later part stays there -/
theorem seq_right {a b : Gl} {o n m : Nat} (wa : Within a o n) (wb : Within b (o + n) m) : ∀ (xs : List Nat) (x : Nat), o + n ≤ x → Sfx (a.seq b) x xs → Sfx b x xs
  | [], x, hx, h => by
    refine ⟨trivial, ?_⟩
    have h2 : x ∈ (if b.nul = true then a.lst else []) ++ b.lst := h.2
    rcases List.mem_append.mp h2 with h2 | h2
    · split at h2
      · have := wa.lst x h2; omega
      · cases h2
    · exact h2
  | y :: ys, x, hx, h => by
    obtain ⟨⟨h1, h2⟩, h3⟩ := h
    have h1' : (x, y) ∈ a.fol ++ (prodL a.lst b.fst ++ b.fol) := h1
    rcases List.mem_append.mp h1' with c | c
    · have := (wa.fol x y c).1; omega
    · rcases List.mem_append.mp c with c | c
      · have := wa.lst x (mem_prodL.mp c).1; omega
      · have hy := (wb.fol x y c).2
        have r := seq_right wa wb ys y hy.1 ⟨h2, h3⟩
        exact ⟨⟨c, r.1⟩, r.2⟩
theorem seq_left {a b : Gl} {o n m : Nat} (wa : Within a o n) (wb : Within b (o + n) m) : ∀ (xs : List Nat) (x : Nat), x < o + n → Sfx (a.seq b) x xs → ∃ us vs, xs = us ++ vs ∧ Sfx a x us ∧ Acc b vs
  | [], x, hx, h => by
    have h2 : x ∈ (if b.nul = true then a.lst else []) ++ b.lst := h.2
    rcases List.mem_append.mp h2 with h2 | h2
    · split at h2
      · rename_i c
        exact ⟨[], [], rfl, ⟨trivial, h2⟩, c⟩
      · cases h2
    · have := wb.lst x h2; omega
  | y :: ys, x, hx, h => by
    obtain ⟨⟨h1, h2⟩, h3⟩ := h
    have h1' : (x, y) ∈ a.fol ++ (prodL a.lst b.fst ++ b.fol) := h1
    rcases List.mem_append.mp h1' with c | c
    · have hy := (wa.fol x y c).2
      obtain ⟨us, vs, e, r1, r2⟩ := seq_left wa wb ys y hy.2 ⟨h2, h3⟩
      subst e
      exact ⟨y :: us, vs, rfl, ⟨⟨c, r1.1⟩, r1.2⟩, r2⟩
    · rcases List.mem_append.mp c with c | c
      · obtain ⟨c1, c2⟩ := mem_prodL.mp c
        exact ⟨[], y :: ys, rfl, ⟨trivial, c1⟩, c2, seq_right wa wb ys y (wb.fst y c2).1 ⟨h2, h3⟩⟩
      · have := (wb.fol x y c).1; omega
theorem acc_seq {a b : Gl} {o n m : Nat} (wa : Within a o n) (wb : Within b (o + n) m) (ps : List Nat) : Acc (a.seq b) ps ↔ ∃ us vs, ps = us ++ vs ∧ Acc a us ∧ Acc b vs := by
  constructor
  · intro h
    cases ps with
    | nil =>
      have h' : (a.nul && b.nul) = true := h
      rw [Bool.and_eq_true] at h'
      exact ⟨[], [], rfl, h'.1, h'.2⟩
    | cons x xs =>
      obtain ⟨h1, h2⟩ := h
      have h1' : x ∈ a.fst ++ (if a.nul = true then b.fst else []) := h1
      rcases List.mem_append.mp h1' with c | c
      · obtain ⟨us, vs, e, r1, r2⟩ := seq_left wa wb xs x (wa.fst x c).2 h2
        subst e
        exact ⟨x :: us, vs, rfl, ⟨c, r1⟩, r2⟩
      · split at c
        · rename_i hn
          exact ⟨[], x :: xs, rfl, hn, c, seq_right wa wb xs x (wb.fst x c).1 h2⟩
        · cases c
  · rintro ⟨us, vs, rfl, h1, h2⟩
    cases us with
    | nil =>
      have h1' : a.nul = true := h1
      cases vs with
      | nil =>
        have h2' : b.nul = true := h2
        show (a.nul && b.nul) = true
        rw [h1', h2']
        rfl
      | cons y ys =>
        refine ⟨?_, chn_mono (fun x hx => List.mem_append_right _ (List.mem_append_right _ hx)) ys y h2.2.1, List.mem_append_right _ h2.2.2⟩
        show y ∈ a.fst ++ (if a.nul = true then b.fst else [])
        rw [if_pos h1']
        exact List.mem_append_right _ h2.1
    | cons x xs =>
      have ca := chn_mono (G := (a.seq b).fol) (fun z hz => List.mem_append_left _ hz) xs x h1.2.1
      cases vs with
      | nil =>
        have h2' : b.nul = true := h2
        rw [List.append_nil]
        refine ⟨List.mem_append_left _ h1.1, ca, ?_⟩
        show _ ∈ (if b.nul = true then a.lst else []) ++ b.lst
        rw [if_pos h2']
        exact List.mem_append_left _ h1.2.2
      | cons y ys =>
        refine ⟨List.mem_append_left _ h1.1, chn_app xs x y ys ca ?_ (chn_mono (fun z hz => List.mem_append_right _ (List.mem_append_right _ hz)) ys y h2.2.1), ?_⟩
        · exact List.mem_append_right _ (List.mem_append_left _ (mem_prodL.mpr ⟨h1.2.2, h2.1⟩))
        · show lastN x (xs ++ y :: ys) ∈ _
          rw [lastN_app]
          exact List.mem_append_right _ h2.2.2
/-! #### one or the other -/
theorem par_left {a b : Gl} {o n m : Nat} (wa : Within a o n) (wb : Within b (o + n) m) : ∀ (xs : List Nat) (x : Nat), x < o + n → Sfx (a.par b) x xs → Sfx a x xs
  | [], x, hx, h => by
    refine ⟨trivial, ?_⟩
    have h2 : x ∈ a.lst ++ b.lst := h.2
    rcases List.mem_append.mp h2 with h2 | h2
    · exact h2
    · have := wb.lst x h2; omega
  | y :: ys, x, hx, h => by
    obtain ⟨⟨h1, h2⟩, h3⟩ := h
    have h1' : (x, y) ∈ a.fol ++ b.fol := h1
    rcases List.mem_append.mp h1' with c | c
    · have r := par_left wa wb ys y (wa.fol x y c).2.2 ⟨h2, h3⟩
      exact ⟨⟨c, r.1⟩, r.2⟩
    · have := (wb.fol x y c).1; omega
theorem par_right {a b : Gl} {o n m : Nat} (wa : Within a o n) (wb : Within b (o + n) m) : ∀ (xs : List Nat) (x : Nat), o + n ≤ x → Sfx (a.par b) x xs → Sfx b x xs
  | [], x, hx, h => by
    refine ⟨trivial, ?_⟩
    have h2 : x ∈ a.lst ++ b.lst := h.2
    rcases List.mem_append.mp h2 with h2 | h2
    · have := wa.lst x h2; omega
    · exact h2
  | y :: ys, x, hx, h => by
    obtain ⟨⟨h1, h2⟩, h3⟩ := h
    have h1' : (x, y) ∈ a.fol ++ b.fol := h1
    rcases List.mem_append.mp h1' with c | c
    · have := (wa.fol x y c).1; omega
    · have r := par_right wa wb ys y (wb.fol x y c).2.1 ⟨h2, h3⟩
      exact ⟨⟨c, r.1⟩, r.2⟩
theorem acc_par {a b : Gl} {o n m : Nat} (wa : Within a o n) (wb : Within b (o + n) m) (ps : List Nat) : Acc (a.par b) ps ↔ Acc a ps ∨ Acc b ps := by
  cases ps with
  | nil =>
    show (a.nul || b.nul) = true ↔ _
    rw [Bool.or_eq_true]
    exact Iff.rfl
  | cons x xs =>
    constructor
    · rintro ⟨h1, h2⟩
      have h1' : x ∈ a.fst ++ b.fst := h1
      rcases List.mem_append.mp h1' with c | c
      · exact .inl ⟨c, par_left wa wb xs x (wa.fst x c).2 h2⟩
      · exact .inr ⟨c, par_right wa wb xs x (wb.fst x c).1 h2⟩
    · rintro (⟨h1, h2, h3⟩ | ⟨h1, h2, h3⟩)
      · exact ⟨List.mem_append_left _ h1, chn_mono (fun z hz => List.mem_append_left _ hz) xs x h2, List.mem_append_left _ h3⟩
      · exact ⟨List.mem_append_right _ h1, chn_mono (fun z hz => List.mem_append_right _ hz) xs x h2, List.mem_append_right _ h3⟩
/-! #### again and again -/
def Gl.rep (a : Gl) : Gl := ⟨true, a.fst, a.lst, a.fol ++ prodL a.lst a.fst⟩
theorem rep_sfx {a : Gl} : ∀ (xs : List Nat) (x : Nat), Sfx a.rep x xs → ∃ us vs, xs = us ++ vs ∧ Sfx a x us ∧ Star (Acc a) vs
  | [], x, h => ⟨[], [], rfl, ⟨trivial, h.2⟩, .nil⟩
  | y :: ys, x, h => by
    obtain ⟨⟨h1, h2⟩, h3⟩ := h
    obtain ⟨us, vs, e, r1, r2⟩ := rep_sfx ys y ⟨h2, h3⟩
    subst e
    have h1' : (x, y) ∈ a.fol ++ prodL a.lst a.fst := h1
    rcases List.mem_append.mp h1' with c | c
    · exact ⟨y :: us, vs, rfl, ⟨⟨c, r1.1⟩, r1.2⟩, r2⟩
    · obtain ⟨c1, c2⟩ := mem_prodL.mp c
      refine ⟨[], y :: (us ++ vs), rfl, ⟨trivial, c1⟩, ?_⟩
      have : Star (Acc a) ((y :: us) ++ vs) := .cons (u := y :: us) ⟨c2, r1⟩ (by simp) r2
      exact this
theorem rep_star {a : Gl} {ps : List Nat} (h : Star (Acc a) ps) : Acc a.rep ps := by
  induction h with
  | nil => rfl
  | @cons u v hu hn _ ih =>
    cases u with
    | nil => exact absurd rfl hn
    | cons x xs =>
      have ca := chn_mono (G := a.rep.fol) (fun z hz => List.mem_append_left _ hz) xs x hu.2.1
      cases v with
      | nil =>
        rw [List.append_nil]
        exact ⟨hu.1, ca, hu.2.2⟩
      | cons y ys =>
        refine ⟨hu.1, chn_app xs x y ys ca (List.mem_append_right _ (mem_prodL.mpr ⟨hu.2.2, ih.1⟩)) ih.2.1, ?_⟩
        show lastN x (xs ++ y :: ys) ∈ _
        rw [lastN_app]
        exact ih.2.2
theorem acc_rep (a : Gl) (ps : List Nat) : Acc a.rep ps ↔ Star (Acc a) ps := by
  refine ⟨fun h => ?_, rep_star⟩
  cases ps with
  | nil => exact .nil
  | cons x xs =>
    obtain ⟨us, vs, e, r1, r2⟩ := rep_sfx xs x h.2
    subst e
    exact .cons (u := x :: us) ⟨h.1, r1⟩ (by simp) r2
mutual
theorem acc_mp : ∀ (e : E) (o : Nat) (ps : List Nat), Acc (gl e o) ps ↔ MP e o ps
  | .eps, o, ps => by
    rw [gl, MP]
    cases ps with
    | nil => exact ⟨fun _ => rfl, fun _ => rfl⟩
    | cons x xs => exact ⟨fun h => (by cases h.1), fun h => by cases h⟩
  | .sym c, o, ps => by
    rw [gl, MP]
    cases ps with
    | nil => exact ⟨fun h => (by cases h), fun h => by cases h⟩
    | cons x xs =>
      constructor
      · rintro ⟨h1, h2, h3⟩
        have h1' := List.mem_singleton.mp h1
        subst h1'
        cases xs with
        | nil => rfl
        | cons y ys => exact absurd h2.1 (by intro c; cases c)
      · intro h
        cases h
        exact ⟨List.mem_singleton.mpr rfl, trivial, List.mem_singleton.mpr rfl⟩
  | .maybe e, o, ps => by
    have ih := acc_mp e o ps
    rw [gl, MP, ← ih]
    cases ps with
    | nil => exact ⟨fun _ => .inl rfl, fun _ => rfl⟩
    | cons x xs => exact ⟨fun h => .inr h, fun h => h.elim (fun c => by cases c) id⟩
  | .many e, o, ps => by
    have ih := acc_mp e o
    have e1 : Star (MP e o) ps ↔ Star (Acc (gl e o)) ps := ⟨Star.mono fun u h => (ih u).mpr h, Star.mono fun u h => (ih u).mp h⟩
    rw [MP, e1, ← acc_rep]
    exact Iff.rfl
  | .join es, o, ps => by
    rw [gl, MP]
    exact acc_mpJ es o ps
  | .alt es, o, ps => by
    rw [gl, MP]
    exact acc_mpA es o ps
theorem acc_mpJ : ∀ (es : List E) (o : Nat) (ps : List Nat), Acc (gl.glJ es o) ps ↔ MP.mpJ es o ps
  | [], o, ps => by
    rw [MP.mpJ]
    cases ps with
    | nil => exact ⟨fun _ => rfl, fun _ => rfl⟩
    | cons x xs => exact ⟨fun h => (by cases h.1), fun h => by cases h⟩
  | e :: es, o, ps => by
    rw [gl.glJ, MP.mpJ, acc_seq (gl_within e o) (glJ_within es (o + e.places))]
    exact exists_congr fun us => exists_congr fun vs => and_congr Iff.rfl (and_congr (acc_mp e o us) (acc_mpJ es _ vs))
theorem acc_mpA : ∀ (es : List E) (o : Nat) (ps : List Nat), Acc (gl.glA es o) ps ↔ MP.mpA es o ps
  | [], o, ps => by
    rw [MP.mpA]
    cases ps with
    | nil => exact ⟨fun h => (by cases h), fun h => h.elim⟩
    | cons x xs => exact ⟨fun h => (by cases h.1), fun h => h.elim⟩
  | e :: es, o, ps => by
    rw [gl.glA, MP.mpA, acc_par (gl_within e o) (glA_within es (o + e.places))]
    exact or_congr (acc_mp e o ps) (acc_mpA es _ ps)
end
/-! #### from places to letters -/
theorem map_split {α β : Type} {f : α → β} : ∀ {ps : List α} {u v : List β}, ps.map f = u ++ v → ∃ p1 p2, ps = p1 ++ p2 ∧ p1.map f = u ∧ p2.map f = v := by
  intro ps u v h
  exact ⟨ps.take u.length, ps.drop u.length, (List.take_append_drop ..).symm, by rw [List.map_take, h]; simp, by rw [List.map_drop, h]; simp⟩
theorem some_inj {u v : List Nat} (h : u.map some = v.map some) : u = v := by
  have := congrArg (List.map fun (o : Option Nat) => o.getD 0) h
  rw [List.map_map, List.map_map] at this
  have e : ((fun (o : Option Nat) => o.getD 0) ∘ some) = id := rfl
  rw [e, List.map_id, List.map_id] at this
  exact this
mutual
theorem mw_mp : ∀ (e : E) (o : Nat) (f : Nat → Option Nat), (∀ i, i < e.places → f (o + i) = e.letters[i]?) → ∀ w, MW e w ↔ ∃ ps, MP e o ps ∧ ps.map f = w.map some
  | .eps, o, f, hf, w => by
    rw [MW]
    constructor
    · rintro rfl
      exact ⟨[], rfl, rfl⟩
    · rintro ⟨ps, h, e⟩
      have h' : ps = [] := h
      subst h'
      cases w with
      | nil => rfl
      | cons c w => cases e
  | .sym c, o, f, hf, w => by
    have h0 := hf 0 (by rw [E.places]; exact Nat.one_pos)
    rw [Nat.add_zero] at h0
    have h0' : f o = some c := h0
    rw [MW]
    constructor
    · rintro rfl
      exact ⟨[o], rfl, by rw [List.map_singleton, List.map_singleton, h0']⟩
    · rintro ⟨ps, h, e⟩
      have h' : ps = [o] := h
      subst h'
      rw [List.map_singleton, h0'] at e
      exact (some_inj (u := [c]) e).symm
  | .maybe e, o, f, hf, w => by
    have ih := mw_mp e o f hf w
    rw [MW, ih]
    constructor
    · rintro (rfl | ⟨ps, h, e⟩)
      · exact ⟨[], .inl rfl, rfl⟩
      · exact ⟨ps, .inr h, e⟩
    · rintro ⟨ps, h | h, e⟩
      · subst h
        cases w with
        | nil => exact .inl rfl
        | cons c w => cases e
      · exact .inr ⟨ps, h, e⟩
  | .many e, o, f, hf, w => by
    have ih := mw_mp e o f hf
    rw [MW]
    constructor
    · intro h
      induction h with
      | nil => exact ⟨[], .nil, rfl⟩
      | cons h n _ ihv =>
        obtain ⟨p1, h1, e1⟩ := (ih _).mp h
        obtain ⟨p2, h2, e2⟩ := ihv
        refine ⟨p1 ++ p2, .cons h1 (fun c => n ?_) h2, by rw [List.map_append, List.map_append, e1, e2]⟩
        subst c
        exact some_inj e1.symm
    · rintro ⟨ps, h, e⟩
      have h' : Star (MP _ o) ps := h
      clear h
      induction h' generalizing w with
      | nil =>
        cases w with
        | nil => exact .nil
        | cons c w => cases e
      | @cons u v hu hn _ ihv =>
        rw [List.map_append] at e
        obtain ⟨w1, w2, rfl, e1, e2⟩ := map_split e.symm
        refine .cons ((ih _).mpr ⟨u, hu, e1.symm⟩) (fun c => hn ?_) (ihv w2 e2.symm)
        subst c
        cases u with
        | nil => rfl
        | cons x u => cases e1
  | .join es, o, f, hf, w => by
    rw [MW]
    exact mw_mpJ es o f hf w
  | .alt es, o, f, hf, w => by
    rw [MW]
    exact mw_mpA es o f hf w
theorem mw_mpJ : ∀ (es : List E) (o : Nat) (f : Nat → Option Nat), (∀ i, i < E.places.placess es → f (o + i) = (E.letters.letterss es)[i]?) → ∀ w, MW.mwJ es w ↔ ∃ ps, MP.mpJ es o ps ∧ ps.map f = w.map some
  | [], o, f, hf, w => by
    rw [MW.mwJ]
    constructor
    · rintro rfl
      exact ⟨[], rfl, rfl⟩
    · rintro ⟨ps, h, e⟩
      have h' : ps = [] := h
      subst h'
      cases w with
      | nil => rfl
      | cons c w => cases e
  | e :: es, o, f, hf, w => by
    have hl := letters_len e
    have i1 := mw_mp e o f (fun i hi => by
      rw [hf i (by rw [E.places.placess]; omega), E.letters.letterss, List.getElem?_append_left (by omega)])
    have i2 := mw_mpJ es (o + e.places) f (fun i hi => by
      rw [Nat.add_assoc, hf (e.places + i) (by rw [E.places.placess]; omega), E.letters.letterss, List.getElem?_append_right (by omega), hl, Nat.add_sub_cancel_left])
    rw [MW.mwJ]
    constructor
    · rintro ⟨us, vs, rfl, h1, h2⟩
      obtain ⟨p1, g1, e1⟩ := (i1 _).mp h1
      obtain ⟨p2, g2, e2⟩ := (i2 _).mp h2
      exact ⟨p1 ++ p2, ⟨p1, p2, rfl, g1, g2⟩, by rw [List.map_append, List.map_append, e1, e2]⟩
    · rintro ⟨ps, ⟨p1, p2, rfl, g1, g2⟩, ee⟩
      rw [List.map_append] at ee
      obtain ⟨w1, w2, rfl, e1, e2⟩ := map_split ee.symm
      exact ⟨w1, w2, rfl, (i1 _).mpr ⟨p1, g1, e1.symm⟩, (i2 _).mpr ⟨p2, g2, e2.symm⟩⟩
theorem mw_mpA : ∀ (es : List E) (o : Nat) (f : Nat → Option Nat), (∀ i, i < E.places.placess es → f (o + i) = (E.letters.letterss es)[i]?) → ∀ w, MW.mwA es w ↔ ∃ ps, MP.mpA es o ps ∧ ps.map f = w.map some
  | [], o, f, hf, w => by
    rw [MW.mwA]
    exact ⟨fun h => h.elim, fun ⟨_, h, _⟩ => h.elim⟩
  | e :: es, o, f, hf, w => by
    have hl := letters_len e
    have i1 := mw_mp e o f (fun i hi => by
      rw [hf i (by rw [E.places.placess]; omega), E.letters.letterss, List.getElem?_append_left (by omega)]) w
    have i2 := mw_mpA es (o + e.places) f (fun i hi => by
      rw [Nat.add_assoc, hf (e.places + i) (by rw [E.places.placess]; omega), E.letters.letterss, List.getElem?_append_right (by omega), hl, Nat.add_sub_cancel_left]) w
    rw [MW.mwA, i1, i2]
    constructor
    · rintro (⟨ps, h, e⟩ | ⟨ps, h, e⟩)
      · exact ⟨ps, .inl h, e⟩
      · exact ⟨ps, .inr h, e⟩
    · rintro ⟨ps, h | h, e⟩
      · exact .inl ⟨ps, h, e⟩
      · exact .inr ⟨ps, h, e⟩
end
/-- a word is right: some way through the places has its letters -/
theorem mw_acc (e : E) (w : List Nat) : MW e w ↔ ∃ ps, Acc (gl e 0) ps ∧ ps.map (fun p => e.letters[p]?) = w.map some := by
  rw [mw_mp e 0 (fun p => e.letters[p]?) (fun i _ => by rw [Nat.zero_add])]
  exact exists_congr fun ps => and_congr (acc_mp e 0 ps).symm Iff.rfl
end My
namespace My
open PySem PySem.Spec PyProof.Rows L2
/-! ### words, listed -/
theorem str_ext {a b : Str} (h : a.cps.toList = b.cps.toList) : a = b := by
  obtain ⟨⟨x⟩⟩ := a
  obtain ⟨⟨y⟩⟩ := b
  have e : x = y := h
  rw [e]
theorem cps_app (a b : Str) : (a ++ b).cps.toList = a.cps.toList ++ b.cps.toList := by
  show (a.cps ++ b.cps).toList = _
  simp
theorem len_app (a b : Str) : (a ++ b).length = a.length + b.length := by
  show (a.cps ++ b.cps).size = _
  rw [Array.size_append]
  rfl
theorem len_cps (z : Str) : z.length = z.cps.toList.length := Array.length_toList.symm
theorem cps_no : sNo.cps.toList = [] := by decide +kernel
theorem no_of_cps {z : Str} (h : z.cps.toList = []) : z = sNo := str_ext (h.trans cps_no.symm)
theorem len_no : sNo.length = 0 := by decide +kernel
/-- at most so many words, snoc by snoc -/
def Pw (L : List Nat → Prop) : Nat → List Nat → Prop
  | 0, w => w = []
  | n + 1, w => Pw L n w ∨ ∃ u v, w = u ++ v ∧ Pw L n u ∧ L v
theorem Pw.up {L : List Nat → Prop} {n : Nat} {w : List Nat} (h : Pw L n w) : ∀ k, Pw L (n + k) w
  | 0 => h
  | k + 1 => .inl (Pw.up h k)
theorem Pw.le {L : List Nat → Prop} {n m : Nat} {w : List Nat} (h : Pw L n w) (l : n ≤ m) : Pw L m w := by
  have := h.up (m - n)
  rw [show n + (m - n) = m by omega] at this
  exact this
theorem Pw.cons {L : List Nat → Prop} {u : List Nat} (hu : L u) : ∀ (n : Nat) (w : List Nat), Pw L n w → Pw L (n + 1) (u ++ w)
  | 0, w, h => by
    have h' : w = [] := h
    subst h'
    exact .inr ⟨[], u, by simp, rfl, hu⟩
  | n + 1, w, h => by
    rcases h with h | ⟨a, b, rfl, h1, h2⟩
    · exact .inl (Pw.cons hu n w h)
    · exact .inr ⟨u ++ a, b, by simp, Pw.cons hu n a h1, h2⟩
theorem star_snoc {L : List Nat → Prop} {u v : List Nat} (h : Star L u) (hv : L v) : Star L (u ++ v) := by
  induction h with
  | nil =>
    by_cases c : v = []
    · subst c
      exact .nil
    · have : Star L (v ++ []) := .cons hv c .nil
      rw [List.append_nil] at this
      exact this
  | cons h n _ ih =>
    rw [List.append_assoc]
    exact .cons h n ih
theorem star_pw {L : List Nat → Prop} {w : List Nat} (h : Star L w) : Pw L w.length w := by
  induction h with
  | nil => rfl
  | @cons u v h n _ ih =>
    have : 0 < u.length := List.length_pos_iff.mpr n
    refine (Pw.cons h _ v ih).le ?_
    rw [List.length_append]
    omega
theorem pw_star {L : List Nat → Prop} : ∀ (n : Nat) (w : List Nat), Pw L n w → Star L w
  | 0, w, h => by
    have h' : w = [] := h
    subst h'
    exact .nil
  | n + 1, w, h => by
    rcases h with h | ⟨a, b, rfl, h1, h2⟩
    · exact pw_star n w h
    · exact star_snoc (pw_star n a h1) h2
theorem star_iff {L : List Nat → Prop} {w : List Nat} {n : Nat} (h : w.length ≤ n) : Star L w ↔ Pw L n w := ⟨fun s => (star_pw s).le h, pw_star n w⟩
theorem mwJ_snoc (e : E) : ∀ (es : List E) (w : List Nat), MW.mwJ (es ++ [e]) w ↔ ∃ u v, w = u ++ v ∧ MW.mwJ es u ∧ MW e v
  | [], w => by
    show (∃ us vs, w = us ++ vs ∧ MW e us ∧ vs = []) ↔ ∃ u v, w = u ++ v ∧ u = [] ∧ MW e v
    constructor
    · rintro ⟨us, vs, rfl, h, rfl⟩
      exact ⟨[], us, by simp, rfl, h⟩
    · rintro ⟨u, v, rfl, rfl, h⟩
      exact ⟨v, [], by simp, h, rfl⟩
  | k :: es, w => by
    show (∃ us vs, w = us ++ vs ∧ MW k us ∧ MW.mwJ (es ++ [e]) vs) ↔ ∃ u v, w = u ++ v ∧ (∃ us vs, u = us ++ vs ∧ MW k us ∧ MW.mwJ es vs) ∧ MW e v
    constructor
    · rintro ⟨us, vs, rfl, h, g⟩
      obtain ⟨x, y, rfl, h1, h2⟩ := (mwJ_snoc e es vs).mp g
      exact ⟨us ++ x, y, by simp, ⟨us, x, rfl, h, h1⟩, h2⟩
    · rintro ⟨u, v, rfl, ⟨us, vs, rfl, h, g⟩, h2⟩
      exact ⟨us, vs ++ v, by simp, h, (mwJ_snoc e es _).mpr ⟨vs, v, rfl, g, h2⟩⟩
theorem mwA_iff : ∀ (es : List E) (w : List Nat), MW.mwA es w ↔ ∃ e ∈ es, MW e w
  | [], w => ⟨fun h => h.elim, fun ⟨_, h, _⟩ => by cases h⟩
  | k :: es, w => by
    show (MW k w ∨ MW.mwA es w) ↔ _
    rw [mwA_iff es w]
    simp
/-! #### the letters of right words -/
mutual
theorem mw_lets : ∀ (e : E), e.ok = true → ∀ w, MW e w → ∀ c ∈ w, c ∈ e.letters ∧ 97 ≤ c ∧ c ≤ 100
  | .eps, _, w, h, c, hc => by
    rw [MW] at h
    subst h
    cases hc
  | .sym d, ho, w, h, c, hc => by
    rw [MW] at h
    subst h
    rw [List.mem_singleton] at hc
    subst hc
    rw [E.ok] at ho
    simp only [Bool.and_eq_true, decide_eq_true_eq] at ho
    exact ⟨List.mem_singleton.mpr rfl, ho⟩
  | .maybe e, ho, w, h, c, hc => by
    rw [MW] at h
    rcases h with rfl | h
    · cases hc
    · exact mw_lets e (by rw [E.ok] at ho; exact ho) w h c hc
  | .many e, ho, w, h, c, hc => by
    rw [MW] at h
    have ih := mw_lets e (by rw [E.ok] at ho; exact ho)
    induction h with
    | nil => cases hc
    | cons h n _ ih2 =>
      rcases List.mem_append.mp hc with hc | hc
      · exact ih _ h c hc
      · exact ih2 hc
  | .join es, ho, w, h, c, hc => by
    rw [MW] at h
    rw [E.ok, oks_eq] at ho
    simp only [Bool.and_eq_true] at ho
    exact mw_letsJ es ho.1.2 w h c hc
  | .alt es, ho, w, h, c, hc => by
    rw [MW] at h
    rw [E.ok, oks_eq] at ho
    simp only [Bool.and_eq_true] at ho
    exact mw_letsA es ho.1.2 w h c hc
theorem mw_letsJ : ∀ (es : List E), es.all E.ok = true → ∀ w, MW.mwJ es w → ∀ c ∈ w, c ∈ E.letters.letterss es ∧ 97 ≤ c ∧ c ≤ 100
  | [], _, w, h, c, hc => by
    rw [MW.mwJ] at h
    subst h
    cases hc
  | e :: es, ho, w, h, c, hc => by
    rw [List.all_cons, Bool.and_eq_true] at ho
    obtain ⟨u, v, rfl, h1, h2⟩ := h
    rw [E.letters.letterss, List.mem_append]
    rcases List.mem_append.mp hc with hc | hc
    · have := mw_lets e ho.1 u h1 c hc
      exact ⟨.inl this.1, this.2⟩
    · have := mw_letsJ es ho.2 v h2 c hc
      exact ⟨.inr this.1, this.2⟩
theorem mw_letsA : ∀ (es : List E), es.all E.ok = true → ∀ w, MW.mwA es w → ∀ c ∈ w, c ∈ E.letters.letterss es ∧ 97 ≤ c ∧ c ≤ 100
  | [], _, w, h, c, hc => h.elim
  | e :: es, ho, w, h, c, hc => by
    rw [List.all_cons, Bool.and_eq_true] at ho
    rw [E.letters.letterss, List.mem_append]
    rcases h with h | h
    · have := mw_lets e ho.1 w h c hc
      exact ⟨.inl this.1, this.2⟩
    · have := mw_letsA es ho.2 w h c hc
      exact ⟨.inr this.1, this.2⟩
end
/-! #### how many words there are -/
def codeW : List Nat → Nat
  | [] => 0
  | c :: w => (c - 96) + 5 * codeW w
theorem codeW_lt : ∀ (w : List Nat), (∀ c ∈ w, 97 ≤ c ∧ c ≤ 100) → codeW w < 5 ^ w.length
  | [], _ => by show 0 < 1; omega
  | c :: w, h => by
    have := codeW_lt w fun x hx => h x (List.mem_cons_of_mem _ hx)
    have := h c (List.mem_cons_self ..)
    show (c - 96) + 5 * codeW w < 5 ^ (w.length + 1)
    rw [Nat.pow_succ]
    omega
theorem codeW_inj : ∀ (u w : List Nat), (∀ c ∈ u, 97 ≤ c ∧ c ≤ 100) → (∀ c ∈ w, 97 ≤ c ∧ c ≤ 100) → codeW u = codeW w → u = w
  | [], [], _, _, _ => rfl
  | [], c :: w, _, h, e => by
    have := h c (List.mem_cons_self ..)
    have e' : 0 = (c - 96) + 5 * codeW w := e
    omega
  | c :: u, [], h, _, e => by
    have := h c (List.mem_cons_self ..)
    have e' : (c - 96) + 5 * codeW u = 0 := e
    omega
  | c :: u, d :: w, h, g, e => by
    have h1 := h c (List.mem_cons_self ..)
    have g1 := g d (List.mem_cons_self ..)
    have e' : (c - 96) + 5 * codeW u = (d - 96) + 5 * codeW w := e
    have e2 : codeW u = codeW w := by omega
    have e3 : c = d := by omega
    rw [e3, codeW_inj u w (fun x hx => h x (List.mem_cons_of_mem _ hx)) (fun x hx => g x (List.mem_cons_of_mem _ hx)) e2]
def LetW (z : Str) : Prop := ∀ c ∈ z.cps.toList, 97 ≤ c ∧ c ≤ 100
theorem words_len {ms : List Str} (nd : ms.Nodup) (hl : ∀ z ∈ ms, z.length ≤ 5) (hc : ∀ z ∈ ms, LetW z) : ms.length ≤ 3125 := by
  have h := nodup_len 3125 (ms.map fun z => ((codeW z.cps.toList : Nat) : Int)) ?_ ?_
  · rw [List.length_map] at h
    exact h
  · refine (List.pairwise_map.mpr (List.Pairwise.imp_of_mem (fun {a b} ha hb hab e => hab ?_) nd))
    have e' : codeW a.cps.toList = codeW b.cps.toList := by exact_mod_cast e
    exact str_ext (codeW_inj _ _ (hc a ha) (hc b hb) e')
  · intro x hx
    obtain ⟨z, hz, rfl⟩ := List.mem_map.mp hx
    have h1 := codeW_lt _ (hc z hz)
    have h2 := hl z hz
    rw [len_cps] at h2
    have h3 : 5 ^ z.cps.toList.length ≤ 5 ^ 5 := Nat.pow_le_pow_right (by decide) h2
    constructor
    · exact Int.ofNat_nonneg _
    · have : codeW z.cps.toList < 3125 := Nat.lt_of_lt_of_le h1 h3
      exact_mod_cast this
/-- the right words of at most so many letters, each once -/
structure WordsOf (L : List Nat → Prop) (most : Nat) (ms : List Str) : Prop where
  nd : ms.Nodup
  mem : ∀ x, x ∈ ms ↔ x.length ≤ most ∧ L x.cps.toList
theorem WordsOf.len {L : List Nat → Prop} {most : Nat} {ms : List Str} (h : WordsOf L most ms) (hm : most ≤ 5) (hL : ∀ w, L w → ∀ c ∈ w, 97 ≤ c ∧ c ≤ 100) : ms.length ≤ 3125 :=
  words_len h.nd (fun z hz => Nat.le_trans ((h.mem z).mp hz).1 hm) fun z hz => hL _ ((h.mem z).mp hz).2
def addA {α : Type} [DecidableEq α] (ms : List α) (x : α) : List α := if x ∈ ms then ms else ms ++ [x]
theorem mem_addA {α : Type} [DecidableEq α] {ms : List α} {x y : α} : y ∈ addA ms x ↔ y ∈ ms ∨ y = x := by
  unfold addA
  split
  · rename_i h
    constructor
    · exact .inl
    · rintro (c | rfl)
      · exact c
      · exact h
  · rw [List.mem_append, List.mem_singleton]
theorem nodup_addA {α : Type} [DecidableEq α] {ms : List α} {x : α} (h : ms.Nodup) : (addA ms x).Nodup := by
  unfold addA
  split
  · exact h
  · rename_i c
    rw [List.nodup_append]
    exact ⟨h, by simp, fun a ha b hb e => c (by rw [List.mem_singleton] at hb; rw [← hb, ← e]; exact ha)⟩
theorem len_addA {α : Type} [DecidableEq α] (ms : List α) (x : α) : (addA ms x).length ≤ ms.length + 1 := by
  unfold addA
  split
  · omega
  · rw [List.length_append]; exact Nat.le_refl _
def keysS (ms : List Str) : List (Key × V) := ms.map fun x => (Sum.inr x, V.bl true)
theorem putK_keysS (ms : List Str) (x : Str) : putK (keysS ms) (Sum.inr x : Key) (V.bl true) = keysS (addA ms x) := by
  unfold putK keysS addA
  have e1 : ((ms.map fun x => ((Sum.inr x : Key), V.bl true)).any fun kv => decide (kv.1 = Sum.inr x)) = decide (x ∈ ms) := by
    induction ms with
    | nil => simp
    | cons m ms ih =>
      rw [List.map_cons, List.any_cons, ih]
      by_cases c : m = x
      · subst c
        simp
      · have : ¬ ((Sum.inr m : Key) = Sum.inr x) := fun h => c (Sum.inr.inj h)
        rw [decide_eq_false this, Bool.false_or]
        by_cases d : x ∈ ms
        · rw [decide_eq_true d, decide_eq_true (List.mem_cons_of_mem _ d)]
        · rw [decide_eq_false d, decide_eq_false]
          intro h
          rcases List.mem_cons.mp h with h | h
          · exact c h.symm
          · exact d h
  rw [e1]
  by_cases c : x ∈ ms
  · rw [if_pos (decide_eq_true c), if_pos c, List.map_map]
    refine List.map_congr_left fun y _ => ?_
    show (if (Sum.inr y : Key) = Sum.inr x then ((Sum.inr y : Key), V.bl true) else ((Sum.inr y : Key), V.bl true)) = _
    split <;> rfl
  · rw [if_neg (by rw [decide_eq_false c]; exact Bool.false_ne_true), if_neg c, List.map_append]
    rfl
theorem keysS_vals (ms : List Str) : (keysS ms).map (fun kv => kV kv.1) = ms.map V.str := by
  unfold keysS
  rw [List.map_map]
  rfl
theorem keysS_len (ms : List Str) : (keysS ms).length = ms.length := List.length_map _
end My
namespace My
open PySem PySem.Spec PyProof.Rows L2
/-! ### turned and renamed -/
def turnE : E → E
  | .eps => .eps
  | .sym c => .sym c
  | .maybe e => .maybe (turnE e)
  | .many e => .many (turnE e)
  | .join es => .join (turns es)
  | .alt es => .alt (turns es)
where turns : List E → List E
  | [] => []
  | e :: es => turns es ++ [turnE e]
theorem turns_eq (es : List E) : turnE.turns es = (es.map turnE).reverse := by
  induction es with
  | nil => rfl
  | cons e es ih => rw [turnE.turns, ih, List.map_cons, List.reverse_cons]
def renE (f : Nat → Nat) : E → E
  | .eps => .eps
  | .sym c => .sym (f c)
  | .maybe e => .maybe (renE f e)
  | .many e => .many (renE f e)
  | .join es => .join (rens es)
  | .alt es => .alt (rens es)
where rens : List E → List E
  | [] => []
  | e :: es => renE f e :: rens es
theorem rens_eq (f : Nat → Nat) (es : List E) : renE.rens f es = es.map (renE f) := by
  induction es with
  | nil => rfl
  | cons e es ih => rw [renE.rens, ih, List.map_cons]
theorem turn_kids (e : E) : (turnE e).kids = (e.kids.map turnE).reverse := by
  cases e <;> simp [turnE, E.kids, turns_eq]
theorem ren_kids (f : Nat → Nat) (e : E) : (renE f e).kids = e.kids.map (renE f) := by
  cases e <;> simp [renE, E.kids, rens_eq]
/-- induction over an expression and those directly in it -/
theorem E.ind {Pr : E → Prop} (h : ∀ e, (∀ k ∈ e.kids, Pr k) → Pr e) : ∀ e, Pr e := by
  have A : ∀ n (e : E), e.parts ≤ n → Pr e := by
    intro n
    induction n with
    | zero =>
      intro e hn
      have := parts_pos e
      omega
    | succ n ih =>
      intro e hn
      refine h e fun k hk => ih k ?_
      have hp := parts_kids e
      have : k.parts ≤ (e.kids.map E.parts).sum := by
        generalize e.kids = l at hk
        induction l with
        | nil => cases hk
        | cons a l ih =>
          rw [List.map_cons, List.sum_cons]
          rcases List.mem_cons.mp hk with rfl | hk
          · omega
          · have := ih hk
            omega
      omega
  exact fun e => A e.parts e (Nat.le_refl _)
theorem sum_map_eq {α : Type} (f g : α → Nat) (l : List α) (h : ∀ x ∈ l, f x = g x) : (l.map f).sum = (l.map g).sum := by
  rw [List.map_congr_left h]
theorem depths_ge {es : List E} {k : E} (h : k ∈ es) : k.depth ≤ E.depth.depths es := by
  induction es with
  | nil => cases h
  | cons e es ih =>
    rw [E.depth.depths]
    rcases List.mem_cons.mp h with rfl | h
    · exact Nat.le_max_left _ _
    · exact Nat.le_trans (ih h) (Nat.le_max_right _ _)
theorem turn_sizes : ∀ e : E, (turnE e).places = e.places ∧ (turnE e).parts = e.parts ∧ (turnE e).depth = e.depth := by
  refine E.ind fun e ih => ?_
  have h1 := places_kids (turnE e)
  have h2 := parts_kids (turnE e)
  rw [turn_kids, List.map_reverse, List.sum_reverse, List.map_map] at h1 h2
  have p : (e.kids.map (E.places ∘ turnE)).sum = (e.kids.map E.places).sum := sum_map_eq _ _ _ fun k hk => (ih k hk).1
  have q : (e.kids.map (E.parts ∘ turnE)).sum = (e.kids.map E.parts).sum := sum_map_eq _ _ _ fun k hk => (ih k hk).2.1
  rw [p] at h1
  rw [q] at h2
  have o : (turnE e).own = e.own := by cases e <;> rfl
  refine ⟨by rw [h1, o, ← places_kids], by rw [h2, ← parts_kids], ?_⟩
  have d : ∀ es : List E, (∀ k ∈ es, (turnE k).depth = k.depth) → E.depth.depths ((es.map turnE).reverse) = E.depth.depths es := by
    intro es hes
    refine Nat.le_antisymm (depths_le fun k hk => ?_) (depths_le fun k hk => ?_)
    · rw [List.mem_reverse, List.mem_map] at hk
      obtain ⟨x, hx, rfl⟩ := hk
      rw [hes x hx]
      exact depths_ge hx
    · have : turnE k ∈ (es.map turnE).reverse := List.mem_reverse.mpr (List.mem_map.mpr ⟨k, hk, rfl⟩)
      have := depths_ge this
      rw [hes k hk] at this
      exact this
  cases e with
  | eps => rfl
  | sym c => rfl
  | maybe k =>
    have := (ih k (List.mem_singleton.mpr rfl)).2.2
    rw [turnE, E.depth, E.depth, this]
  | many k =>
    have := (ih k (List.mem_singleton.mpr rfl)).2.2
    rw [turnE, E.depth, E.depth, this]
  | join es => rw [turnE, turns_eq, E.depth, E.depth, d es fun k hk => (ih k hk).2.2]
  | alt es => rw [turnE, turns_eq, E.depth, E.depth, d es fun k hk => (ih k hk).2.2]
theorem isJoin_turn (e : E) : isJoin (turnE e) = isJoin e := by cases e <;> rfl
theorem isAlt_turn (e : E) : isAlt (turnE e) = isAlt e := by cases e <;> rfl
theorem any_congr {α : Type} {p q : α → Bool} (l : List α) (h : ∀ x ∈ l, p x = q x) : l.any p = l.any q := by
  induction l with
  | nil => rfl
  | cons a l ih => rw [List.any_cons, List.any_cons, h a (List.mem_cons_self ..), ih fun x hx => h x (List.mem_cons_of_mem _ hx)]
theorem turn_ok : ∀ e : E, e.ok = true → (turnE e).ok = true := by
  refine E.ind fun e ih ho => ?_
  have hk := ok_kids ho
  have row : ∀ (p : E → Bool) (es : List E), (∀ e, p (turnE e) = p e) → (∀ k ∈ es, (turnE k).ok = true) → (decide (2 ≤ es.length) && E.ok.oks es && !(es.any p)) = true → (decide (2 ≤ ((es.map turnE).reverse).length) && E.ok.oks ((es.map turnE).reverse) && !(((es.map turnE).reverse).any p)) = true := by
    intro p es hp hes h
    rw [oks_eq] at h ⊢
    simp only [Bool.and_eq_true, decide_eq_true_eq, List.all_eq_true] at h ⊢
    refine ⟨⟨by rw [List.length_reverse, List.length_map]; exact h.1.1, fun x hx => ?_⟩, ?_⟩
    · rw [List.mem_reverse, List.mem_map] at hx
      obtain ⟨k, hk, rfl⟩ := hx
      exact hes k hk
    · rw [List.any_reverse, List.any_map]
      have : es.any (p ∘ turnE) = es.any p := any_congr es fun x _ => hp x
      rw [this]
      exact h.2
  cases e with
  | eps => rfl
  | sym c => exact ho
  | maybe k =>
    rw [turnE, E.ok]
    exact ih k (List.mem_singleton.mpr rfl) (hk k (List.mem_singleton.mpr rfl))
  | many k =>
    rw [turnE, E.ok]
    exact ih k (List.mem_singleton.mpr rfl) (hk k (List.mem_singleton.mpr rfl))
  | join es =>
    rw [E.ok] at ho
    rw [turnE, turns_eq, E.ok]
    exact row isJoin es isJoin_turn (fun k h => ih k h (hk k h)) ho
  | alt es =>
    rw [E.ok] at ho
    rw [turnE, turns_eq, E.ok]
    exact row isAlt es isAlt_turn (fun k h => ih k h (hk k h)) ho
theorem turn_turn : ∀ e : E, turnE (turnE e) = e := by
  refine E.ind fun e ih => ?_
  have row : ∀ es : List E, (∀ k ∈ es, turnE (turnE k) = k) → (((es.map turnE).reverse).map turnE).reverse = es := by
    intro es h
    rw [List.map_reverse, List.reverse_reverse, List.map_map]
    have : es.map (turnE ∘ turnE) = es.map id := List.map_congr_left h
    rw [this, List.map_id]
  cases e with
  | eps => rfl
  | sym c => rfl
  | maybe k => rw [turnE, turnE, ih k (List.mem_singleton.mpr rfl)]
  | many k => rw [turnE, turnE, ih k (List.mem_singleton.mpr rfl)]
  | join es => rw [turnE, turnE, turns_eq, turns_eq, row es ih]
  | alt es => rw [turnE, turnE, turns_eq, turns_eq, row es ih]
/-- the turned one matches the words read from the end -/
theorem star_rev {L M : List Nat → Prop} (h : ∀ w, L w ↔ M w.reverse) {w : List Nat} (s : Star L w) : Star M w.reverse := by
  induction s with
  | nil => exact .nil
  | cons hu n _ ih =>
    rw [List.reverse_append]
    exact star_snoc ih ((h _).mp hu)
theorem mw_turn : ∀ (e : E) (w : List Nat), MW (turnE e) w ↔ MW e w.reverse := by
  refine E.ind fun e ih => ?_
  cases e with
  | eps =>
    intro w
    show w = [] ↔ w.reverse = []
    rw [List.reverse_eq_nil_iff]
  | sym c =>
    intro w
    rw [turnE, MW]
    constructor
    · rintro rfl
      rfl
    · intro h
      have := congrArg List.reverse h
      rw [List.reverse_reverse] at this
      exact this
  | maybe k =>
    intro w
    rw [turnE, MW, MW, List.reverse_eq_nil_iff, ih k (List.mem_singleton.mpr rfl)]
  | many k =>
    intro w
    have hk := ih k (List.mem_singleton.mpr rfl)
    rw [turnE, MW, MW]
    constructor
    · exact fun s => star_rev hk s
    · intro s
      have := star_rev (L := MW k) (M := MW (turnE k)) (fun u => by rw [hk, List.reverse_reverse]) s
      rw [List.reverse_reverse] at this
      exact this
  | join es =>
    have row : ∀ es : List E, (∀ k ∈ es, ∀ w, MW (turnE k) w ↔ MW k w.reverse) → ∀ w, MW.mwJ ((es.map turnE).reverse) w ↔ MW.mwJ es w.reverse := by
      intro es
      induction es with
      | nil =>
        intro _ w
        show w = [] ↔ w.reverse = []
        rw [List.reverse_eq_nil_iff]
      | cons a es ih2 =>
        intro h w
        rw [List.map_cons, List.reverse_cons, mwJ_snoc]
        have hr := ih2 fun k hk => h k (List.mem_cons_of_mem _ hk)
        have ha := h a (List.mem_cons_self ..)
        constructor
        · rintro ⟨u, v, rfl, h1, h2⟩
          exact ⟨v.reverse, u.reverse, List.reverse_append, (ha v).mp h2, (hr u).mp h1⟩
        · rintro ⟨u, v, e, h1, h2⟩
          refine ⟨v.reverse, u.reverse, ?_, (hr _).mpr (by rw [List.reverse_reverse]; exact h2), (ha _).mpr (by rw [List.reverse_reverse]; exact h1)⟩
          have := congrArg List.reverse e
          rw [List.reverse_reverse, List.reverse_append] at this
          exact this
    intro w
    rw [turnE, turns_eq, MW, MW]
    exact row es ih w
  | alt es =>
    intro w
    rw [turnE, turns_eq, MW, MW, mwA_iff, mwA_iff]
    constructor
    · rintro ⟨x, hx, h⟩
      rw [List.mem_reverse, List.mem_map] at hx
      obtain ⟨k, hk, rfl⟩ := hx
      exact ⟨k, hk, (ih k hk w).mp h⟩
    · rintro ⟨k, hk, h⟩
      exact ⟨turnE k, List.mem_reverse.mpr (List.mem_map.mpr ⟨k, hk, rfl⟩), (ih k hk w).mpr h⟩
/-! #### renamed -/
theorem ren_sizes (f : Nat → Nat) : ∀ e : E, (renE f e).places = e.places ∧ (renE f e).parts = e.parts ∧ (renE f e).depth = e.depth := by
  refine E.ind fun e ih => ?_
  have h1 := places_kids (renE f e)
  have h2 := parts_kids (renE f e)
  rw [ren_kids, List.map_map] at h1 h2
  have p : (e.kids.map (E.places ∘ renE f)).sum = (e.kids.map E.places).sum := sum_map_eq _ _ _ fun k hk => (ih k hk).1
  have q : (e.kids.map (E.parts ∘ renE f)).sum = (e.kids.map E.parts).sum := sum_map_eq _ _ _ fun k hk => (ih k hk).2.1
  rw [p] at h1
  rw [q] at h2
  have o : (renE f e).own = e.own := by cases e <;> rfl
  refine ⟨by rw [h1, o, ← places_kids], by rw [h2, ← parts_kids], ?_⟩
  have d : ∀ es : List E, (∀ k ∈ es, (renE f k).depth = k.depth) → E.depth.depths (es.map (renE f)) = E.depth.depths es := by
    intro es hes
    refine Nat.le_antisymm (depths_le fun k hk => ?_) (depths_le fun k hk => ?_)
    · rw [List.mem_map] at hk
      obtain ⟨x, hx, rfl⟩ := hk
      rw [hes x hx]
      exact depths_ge hx
    · have := depths_ge (List.mem_map.mpr ⟨k, hk, rfl⟩ : renE f k ∈ es.map (renE f))
      rw [hes k hk] at this
      exact this
  cases e with
  | eps => rfl
  | sym c => rfl
  | maybe k =>
    have := (ih k (List.mem_singleton.mpr rfl)).2.2
    rw [renE, E.depth, E.depth, this]
  | many k =>
    have := (ih k (List.mem_singleton.mpr rfl)).2.2
    rw [renE, E.depth, E.depth, this]
  | join es => rw [renE, rens_eq, E.depth, E.depth, d es fun k hk => (ih k hk).2.2]
  | alt es => rw [renE, rens_eq, E.depth, E.depth, d es fun k hk => (ih k hk).2.2]
theorem isJoin_ren (f : Nat → Nat) (e : E) : isJoin (renE f e) = isJoin e := by cases e <;> rfl
theorem isAlt_ren (f : Nat → Nat) (e : E) : isAlt (renE f e) = isAlt e := by cases e <;> rfl
theorem ren_ok (f : Nat → Nat) (hf : ∀ c, 97 ≤ c ∧ c ≤ 100 → 97 ≤ f c ∧ f c ≤ 100) : ∀ e : E, e.ok = true → (renE f e).ok = true := by
  refine E.ind fun e ih ho => ?_
  have hk := ok_kids ho
  have row : ∀ (p : E → Bool) (es : List E), (∀ e, p (renE f e) = p e) → (∀ k ∈ es, (renE f k).ok = true) → (decide (2 ≤ es.length) && E.ok.oks es && !(es.any p)) = true → (decide (2 ≤ (es.map (renE f)).length) && E.ok.oks (es.map (renE f)) && !((es.map (renE f)).any p)) = true := by
    intro p es hp hes h
    rw [oks_eq] at h ⊢
    simp only [Bool.and_eq_true, decide_eq_true_eq, List.all_eq_true] at h ⊢
    refine ⟨⟨by rw [List.length_map]; exact h.1.1, fun x hx => ?_⟩, ?_⟩
    · rw [List.mem_map] at hx
      obtain ⟨k, hk, rfl⟩ := hx
      exact hes k hk
    · rw [List.any_map]
      have : es.any (p ∘ renE f) = es.any p := any_congr es fun x _ => hp x
      rw [this]
      exact h.2
  cases e with
  | eps => rfl
  | sym c =>
    rw [E.ok] at ho
    simp only [Bool.and_eq_true, decide_eq_true_eq] at ho
    rw [renE, E.ok]
    simp only [Bool.and_eq_true, decide_eq_true_eq]
    exact hf c ho
  | maybe k =>
    rw [renE, E.ok]
    exact ih k (List.mem_singleton.mpr rfl) (hk k (List.mem_singleton.mpr rfl))
  | many k =>
    rw [renE, E.ok]
    exact ih k (List.mem_singleton.mpr rfl) (hk k (List.mem_singleton.mpr rfl))
  | join es =>
    rw [E.ok] at ho
    rw [renE, rens_eq, E.ok]
    exact row isJoin es (isJoin_ren f) (fun k h => ih k h (hk k h)) ho
  | alt es =>
    rw [E.ok] at ho
    rw [renE, rens_eq, E.ok]
    exact row isAlt es (isAlt_ren f) (fun k h => ih k h (hk k h)) ho
theorem mw_ren (f : Nat → Nat) : ∀ (e : E) (w : List Nat), MW e w → MW (renE f e) (w.map f) := by
  refine E.ind fun e ih => ?_
  cases e with
  | eps =>
    intro w h
    rw [MW] at h
    subst h
    rfl
  | sym c =>
    intro w h
    rw [MW] at h
    subst h
    rfl
  | maybe k =>
    intro w h
    rw [renE, MW]
    rw [MW] at h
    rcases h with rfl | h
    · exact .inl rfl
    · exact .inr (ih k (List.mem_singleton.mpr rfl) w h)
  | many k =>
    intro w h
    rw [renE, MW]
    rw [MW] at h
    induction h with
    | nil => exact .nil
    | cons hu n _ ih2 =>
      rw [List.map_append]
      refine .cons (ih k (List.mem_singleton.mpr rfl) _ hu) (fun c => n ?_) ih2
      exact List.map_eq_nil_iff.mp c
  | join es =>
    have row : ∀ es : List E, (∀ k ∈ es, ∀ w, MW k w → MW (renE f k) (w.map f)) → ∀ w, MW.mwJ es w → MW.mwJ (es.map (renE f)) (w.map f) := by
      intro es
      induction es with
      | nil =>
        intro _ w h
        have h' : w = [] := h
        subst h'
        rfl
      | cons a es ih2 =>
        rintro h w ⟨u, v, rfl, h1, h2⟩
        exact ⟨u.map f, v.map f, List.map_append, h a (List.mem_cons_self ..) u h1, ih2 (fun k hk => h k (List.mem_cons_of_mem _ hk)) v h2⟩
    intro w h
    rw [renE, rens_eq, MW]
    rw [MW] at h
    exact row es ih w h
  | alt es =>
    intro w h
    rw [renE, rens_eq, MW, mwA_iff]
    rw [MW, mwA_iff] at h
    obtain ⟨k, hk, h⟩ := h
    exact ⟨renE f k, List.mem_map.mpr ⟨k, hk, rfl⟩, ih k hk w h⟩
theorem ren_ren (f g : Nat → Nat) (hg : ∀ c, 97 ≤ c ∧ c ≤ 100 → g (f c) = c) : ∀ e : E, e.ok = true → renE g (renE f e) = e := by
  refine E.ind fun e ih ho => ?_
  have hk := ok_kids ho
  have row : ∀ es : List E, (∀ k ∈ es, renE g (renE f k) = k) → (es.map (renE f)).map (renE g) = es := by
    intro es h
    rw [List.map_map]
    have : es.map (renE g ∘ renE f) = es.map id := List.map_congr_left h
    rw [this, List.map_id]
  cases e with
  | eps => rfl
  | sym c =>
    rw [E.ok] at ho
    simp only [Bool.and_eq_true, decide_eq_true_eq] at ho
    rw [renE, renE, hg c ho]
  | maybe k => rw [renE, renE, ih k (List.mem_singleton.mpr rfl) (hk k (List.mem_singleton.mpr rfl))]
  | many k => rw [renE, renE, ih k (List.mem_singleton.mpr rfl) (hk k (List.mem_singleton.mpr rfl))]
  | join es => rw [renE, renE, rens_eq, rens_eq, row es fun k h => ih k h (hk k h)]
  | alt es => rw [renE, renE, rens_eq, rens_eq, row es fun k h => ih k h (hk k h)]
theorem mw_ren_iff (f g : Nat → Nat) (hg : ∀ c, 97 ≤ c ∧ c ≤ 100 → g (f c) = c) {e : E} (ho : e.ok = true) {w : List Nat} (hw : ∀ c ∈ w, 97 ≤ c ∧ c ≤ 100) : MW (renE f e) (w.map f) ↔ MW e w := by
  refine ⟨fun h => ?_, mw_ren f e w⟩
  have := mw_ren g _ _ h
  rw [ren_ren f g hg e ho, List.map_map] at this
  have e1 : w.map (g ∘ f) = w.map id := List.map_congr_left fun c hc => hg c (hw c hc)
  rw [e1, List.map_id] at this
  exact this
end My
namespace My
open PySem PySem.Spec PyProof.Rows L2
/-! ### a tuple or a text, from its end: x[::-1] -/
section
variable {prog : Program} {w : World} {A : Around} {E : Value → Shared → Prop} {s : Shared}
theorem rv_adjust (n : Nat) : Builtin.Slice.sliceAdjust none none (-1) (n : Int) = ((n : Int) - 1, -1) := rfl
theorem rv_places (n : Nat) : Builtin.Slice.slicePlaces ((n : Int) - 1) (-1) (-1) = n := by
  unfold Builtin.Slice.slicePlaces
  have no : ¬ ((-1 : Int) > 0) := by omega
  have one : (- -1 : Int) = 1 := rfl
  rw [if_neg no, one, Int.ediv_one]
  split <;> omega
theorem fm_congr {α β : Type} {f g : α → Option β} : ∀ (l : List α), (∀ m ∈ l, f m = g m) → l.filterMap f = l.filterMap g
  | [], _ => rfl
  | m :: l, h => by
    have h1 := h m (List.mem_cons_self ..)
    have h2 := fm_congr l fun x hx => h x (List.mem_cons_of_mem _ hx)
    rw [List.filterMap_cons, List.filterMap_cons, h1, h2]
theorem rv_pick (xs : Array Value) : ((List.range xs.size).filterMap fun (m : Nat) => xs[(((xs.size : Int) - 1) + (m : Int) * -1).toNat]?).toArray = xs.toList.reverse.toArray := by
  have e1 : ((List.range xs.size).filterMap fun (m : Nat) => xs[(((xs.size : Int) - 1) + (m : Int) * -1).toNat]?) = ((List.range xs.size).map fun m => xs.size - 1 - m).filterMap (xs[·]?) := by
    rw [List.filterMap_map]
    refine fm_congr _ fun m hm => ?_
    have lt := List.mem_range.mp hm
    have e2 : (((xs.size : Int) - 1) + (m : Int) * -1).toNat = xs.size - 1 - m := by omega
    rw [e2]
    rfl
  rw [e1, PySem.W.krv_range, List.filterMap_reverse, PySem.W.krv_all]
theorem rv_applied {sl : Addr} {step : Value} {n : Nat} {Q : Int × Int × Nat → Shared → Prop} (isS : s.heap.IsSliceOf sl .none .none step) (pS : IsPart step (some (-1))) (fin : Q ((n : Int) - 1, -1, n) s) : wpAny (model prog w) A (Builtin.Slice.sliceApplied (.ref sl) (pure (n : Int))) Q E s := by
  obtain ⟨ob, ob1, ob2, ob3⟩ := id isS
  unfold Builtin.Slice.sliceApplied Builtin.Slice.sliceFields
  refine wpAny_bind (wpAny_bind (wpAny_field ob1 ob3 (x := .none) rfl ?_))
  refine wpAny_bind (wpAny_field ob1 ob3 (x := .none) rfl ?_)
  refine wpAny_bind (wpAny_field ob1 ob3 (x := step) rfl ?_)
  refine wpAny_pure (wpAny_bind (HT.slicePart_ pS ?_))
  show wpAny _ _ (if ((-1 : Int) == 0) = true then _ else _) _ _ s
  rw [if_neg (by decide)]
  refine wpAny_bind (HT.slicePart_ IsPart.none ?_)
  refine wpAny_bind (HT.slicePart_ IsPart.none ?_)
  refine wpAny_bind (wpAny_pure ?_)
  show wpAny _ _ (pure ((n : Int) - 1, (-1 : Int), Builtin.Slice.slicePlaces ((n : Int) - 1) (-1) (-1))) _ _ s
  rw [rv_places]
  exact wpAny_pure fin
theorem rv_tuple {t sl : Addr} {xs : Array Value} {step : Value} {Q : Value → Shared → Prop} (isT : IsTup s.heap t xs) (isS : s.heap.IsSliceOf sl .none .none step) (pS : IsPart step (some (-1))) (sz : xs.size ≤ sizeLine)
    (fin : Q (.ref s.heap.objs.size) { s with heap := s.heap.push { cls := .type "tuple", data := .seq xs.toList.reverse.toArray } }) : wpAny (model prog w) A (getItem (.ref t) (.ref sl)) Q E s := by
  have fits : sizeOk (.seq xs.toList.reverse.toArray) := by
    show xs.toList.reverse.toArray.size ≤ sizeLine
    rw [List.size_toArray, List.length_reverse]
    exact sz
  obtain ⟨ob, ob1, ob2, ob3⟩ := id isS
  have tyS : s.TypeIs (.ref sl) "slice" := ⟨ob, ob1, ob2⟩
  unfold getItem
  try with_reducible apply wpAny_holding
  try apply wpAny_bind (wpAny_pure _)
  refine wpAny_bind (wpAny_sequenceKey isT.typeIs (by decide) ?_)
  refine wpAny_bind (wpAny_callSpecial?_slot (name := Str.ofString "__getitem__") isT.typeIs PyProof.Rows.slot_tuple_getitem (wpAny_call_entry PyProof.Rows.slot_tuple_getitem isT.typeIs entry_tuple_getitem ?_ (args_tuple_getitem _ _)))
  show wpAny _ _ (Builtin.Tuple.tupleItemsOf (.ref t) >>= _) _ _ _
  refine wpAny_bind (tupleItemsOf_ isT ?_)
  refine wpAny_bind (wpAny_typeOf tyS ?_)
  rw [if_pos (by decide)]
  refine wpAny_bind (rv_applied isS pS ?_)
  have no : ¬ ((((xs.size : Int) - 1 == 0) && ((-1 : Int) == 1) && (xs.size == xs.size)) = true) := by
    intro c
    rw [Bool.and_eq_true, Bool.and_eq_true] at c
    exact absurd c.1.2 (by decide)
  show wpAny _ _ (if ((((xs.size : Int) - 1 == 0) && ((-1 : Int) == 1) && (xs.size == xs.size)) = true) then _ else _) _ _ _
  rw [if_neg no, rv_pick]
  first
    | exact wpAny_bind (m := Builtin.Tuple.tupleExact _) (wpAny_newObj_type (wpAny_pure ⟨_, rfl, wpAny_pure fin⟩) fits)
    | exact wpAny_bind (m := Builtin.Tuple.tupleExact _) (wpAny_newObj_type (wpAny_bind (wpAny_pure (wpAny_pure ⟨_, rfl, wpAny_pure fin⟩))) fits)
    | exact wpAny_bind (wpAny_bind (m := Builtin.Tuple.tupleExact _) (wpAny_newObj_type (wpAny_pure (wpAny_pure ⟨_, rfl, wpAny_pure fin⟩)) fits))
    | exact wpAny_bind (wpAny_bind (m := Builtin.Tuple.tupleExact _) (wpAny_newObj_type (wpAny_pure ⟨_, rfl, wpAny_pure fin⟩) fits))
end
section
variable {X : Cx}
/-- what x[::-1] gives of x -/
def RvR (X : Cx) (r : V → Hp → VK → Prop) : Prop := ∀ (pns : List (Addr × Obj)) (s : Shared) (σ : L2.St) (H : Hp) (x : V) (u st : Value) (sl : Addr) (Q : VK), Inv X pns σ H s → RelV x u → s.heap.IsSliceOf sl .none .none st → IsPart st (some (-1)) → r x H Q →
  ∃ T id, typeLookup (.type T) "__getitem__" = pure (some (.builtin id)) ∧ s.TypeIs u T ∧ wpAny (model X.prog X.w) X.A (getItem u (.ref sl)) (EP X pns σ Q) X.xe s
def tRv (r : V → Hp → VK → Prop) (te : TE) : TE := fun σ H Q => te σ H fun x H1 => r x H1 Q
theorem pe_rev {r : V → Hp → VK → Prop} (hr : RvR X r) {e : Expr} {te : TE} {k : Nat} {p1 p2 p3 pos : Pos} (ee : PE X e te) : PE X (.Subscript e (.Slice none none (some (.UnaryOp .USub (.Constant (.int 1) k p1) p2)) p3) pos) (tRv r te) := by
  constructor
  intro pns s0 σ H Q Iv hh
  refine Subscript_ (thn (ee.run pns s0 σ H _ Iv hh) ?_)
  rintro u s1 ⟨x, H1, I1, r1, q1⟩
  have less : PO X (some (.UnaryOp .USub (.Constant (.int 1) k p1) p2)) (tPart (tUn (rU fun i => .int (-i)) (tC (.int 1)))) := po_some (pe_un un_neg pe_int)
  refine wpAny_Slice (thn (po_none.run pns s1 σ H1 (fun o Hx => o = none ∧ Hx = H1) I1 ⟨rfl, rfl⟩) ?_)
  rintro ul s2 ⟨l, H2, I2, pl, el, e2⟩
  subst el e2
  refine thn (po_none.run pns s2 σ H2 (fun o Hx => o = none ∧ Hx = H2) I2 ⟨rfl, rfl⟩) ?_
  rintro uh s3 ⟨h, H3, I3, ph, eh, e3⟩
  subst eh e3
  refine thn (less.run pns s3 σ H3 (fun o Hx => o = some (-1) ∧ Hx = H3) I3 ⟨1, rfl, -1, rfl, rfl, rfl⟩) ?_
  rintro us s4 ⟨o, H4, I4, pz, eo, e4⟩
  subst eo e4
  cases pl
  cases ph
  have I5 : Inv X pns σ H4 { s4 with heap := s4.heap.push { cls := .type "slice", data := .fields #[.none, .none, us] } } := I4.kept (t' := s4.toks) fun b ob z => Heap.get?_push_of_some _ z
  obtain ⟨T, id, hT, ht, hg⟩ := hr pns { s4 with heap := s4.heap.push { cls := .type "slice", data := .fields #[.none, .none, us] } } σ H4 x u us s4.heap.objs.size Q I5 r1 (Heap.IsSliceOf.new ..) pz q1
  exact tail_any (ops := [u, .ref s4.heap.objs.size]) ht hT hg (by with_unfolding_all rfl)
def rRvT (K : PySem.W.Frag) : V → Hp → VK → Prop := fun x H Q => ∃ a xs, x = .ref a ∧ SqT K H a xs ∧ ∀ p, H p = none → Q (.ref p) (upd H p (.tup xs.reverse))
theorem rv_tup {K : PySem.W.Frag} (hK : X.K = K) : RvR X (rRvT K) := by
  subst hK
  intro pns s σ H x u st sl Q Iv rx hs ps h
  obtain ⟨a, xs, rfl, hx, q⟩ := h
  cases rx
  obtain ⟨its, r, ht, hz⟩ := Iv.tuple hx
  have hl : its.toArray.size = xs.length := by rw [List.size_toArray]; exact r.length.symm
  refine ⟨"tuple", _, PyProof.Rows.slot_tuple_getitem.lookup, ht.typeIs, rv_tuple ht hs ps (by rw [hl]; exact hz) ?_⟩
  refine ⟨.ref s.heap.objs.size, _, Iv.laid (t' := s.toks) (o := .tup xs.reverse) (fun b ob z => Heap.get?_push_of_some _ z) (Nat.le_refl _) ?_, rfl, q _ (Iv.hok.fresh (Nat.le_refl _))⟩
  exact ⟨by rw [List.length_reverse]; exact hz, _, r.reverse, IsTup.new _ _⟩
theorem pe_bmB {K : PySem.W.Frag} (hK : X.K = K) {o e : Expr} {es : List Expr} {to : TE} {t : TA} {name : Str} {apos cpos : Pos} {T id : String} {r : V → List V → Hp → VK → Prop} (pa : PlainAttrs T) (sl : Slot T name id) (ty : typeOf (.builtin id) = pure (.type "method_descriptor")) (mt : MtR X id r) (ho : PE X o to) (ha : PA X (e :: es) t)
    (h1 : attributeBase o name X.env (eval o X.env) = eval o X.env := by rfl) (h2 : (((backTo cpos (starEach (e :: es) X.env)).all fun x => !x.fst) && (backToKw cpos (keywordEach [] X.env)).all (fun x => x.fst.isSome) && decide (((e :: es).length + ([] : List Keyword).length + if ([] : List Keyword).isEmpty = true then 0 else 1) < 30)) = true := by rfl) (h3 : (apos.endLine == cpos.line) = true := by rfl)
    (h4 : starEach (e :: es) X.env = (false, eval e X.env) :: starEach es X.env := by rfl) (h5 : ((backTo cpos (starEach es X.env)).any fun x => x.fst) = false := by rfl) : PE X (.Call (.Attribute o name apos) (e :: es) [] cpos) (tBM K T r to t) := by
  subst hK
  exact pe_bm pa sl ty mt ho ha h1 h2 h3 h4 h5
def revS (z : Str) : Str := ⟨z.cps.toList.reverse.toArray⟩
theorem revS_cps (z : Str) : (revS z).cps.toList = z.cps.toList.reverse := by
  show z.cps.toList.reverse.toArray.toList = _
  simp
theorem revS_picked (z : Str) (t : Tok) : ((PySem.slicePicked z none none (some (-1, t))).filterMap (z.cps[·]?)).toArray = z.cps.toList.reverse.toArray := by
  show ((Builtin.Str.strSliceIndices none none (-1) z.length).filterMap (z.cps[·]?)).toArray = _
  rw [picked_rev]
  show (((List.range z.cps.size).map fun k => z.cps.size - 1 - k).filterMap (z.cps[·]?)).toArray = _
  rw [PySem.W.krv_range, List.filterMap_reverse, PySem.W.krv_all]
def rRvS : V → Hp → VK → Prop := fun x H Q => ∃ z : Str, x = .str z ∧ z.length ≤ sizeLine ∧ Q (.str (revS z)) H
theorem rv_str : RvR X rRvS := by
  intro pns s σ H x u st sl Q Iv rx hs ps h
  obtain ⟨z, rfl, hz, q⟩ := h
  obtain ⟨t, rfl⟩ := rx
  obtain ⟨ob, ob1, ob2, ob3⟩ := hs
  cases ps with
  | int i ts =>
  refine ⟨"str", _, F.slot_str_getitem.lookup, typeIs_str _ _ _, ?_⟩
  refine wpAny_getItem_str_slice (l := none) (u := none) (st := some (-1, ts)) ⟨ob, ob1, ob2, ob3⟩ rfl ?_
  have e : sliceMade z t none none (some (-1, ts)) = .str (revS z) := by
    unfold sliceMade
    rw [if_neg (by
      intro c
      rw [Bool.and_eq_true] at c
      exact absurd (show ((-1 : Int) == 1) = true from c.1) (by decide)), revS_picked]
    rfl
  rw [e]
  refine ⟨?_, .str _, H, Iv.tok _, ⟨_, rfl⟩, q⟩
  have e2 : (revS z).length = z.length := by
    have e3 : (revS z).length = (revS z).cps.toList.length := Array.length_toList.symm
    have e4 : z.length = z.cps.toList.length := Array.length_toList.symm
    rw [e3, e4, revS_cps, List.length_reverse]
  rw [e2]
  exact hz
end
end My
namespace My
open PySem PySem.Spec PyProof.Rows L2
/-! ### least and greatest lengths -/
def minL : List Nat → Nat
  | [] => 0
  | [a] => a
  | a :: b :: r => min a (minL (b :: r))
def maxL : List Nat → Nat
  | [] => 0
  | a :: r => max a (maxL r)
def allO : List (Option Nat) → Option (List Nat)
  | [] => some []
  | none :: _ => none
  | some a :: r => (allO r).map (a :: ·)
def E.least : E → Nat
  | .eps => 0
  | .sym _ => 1
  | .maybe _ => 0
  | .many _ => 0
  | .join es => (leastl es).sum
  | .alt es => minL (leastl es)
where leastl : List E → List Nat
  | [] => []
  | e :: es => e.least :: leastl es
def E.greatest : E → Option Nat
  | .eps => some 0
  | .sym _ => some 1
  | .maybe e => e.greatest
  | .many e => if e.greatest = some 0 then some 0 else none
  | .join es => (allO (greatl es)).map List.sum
  | .alt es => (allO (greatl es)).map maxL
where greatl : List E → List (Option Nat)
  | [] => []
  | e :: es => e.greatest :: greatl es
def E.pos : E → Bool
  | .eps => false
  | .sym _ => true
  | .maybe e => e.pos
  | .many e => e.pos
  | .join es => poss es
  | .alt es => poss es
where poss : List E → Bool
  | [] => false
  | e :: es => e.pos || poss es
def E.grows : E → Bool
  | .eps => false
  | .sym _ => false
  | .maybe e => e.grows
  | .many e => e.pos || e.grows
  | .join es => growss es
  | .alt es => growss es
where growss : List E → Bool
  | [] => false
  | e :: es => e.grows || growss es
theorem leastl_eq (es : List E) : E.least.leastl es = es.map E.least := by
  induction es with
  | nil => rfl
  | cons e es ih => rw [E.least.leastl, ih, List.map_cons]
theorem greatl_eq (es : List E) : E.greatest.greatl es = es.map E.greatest := by
  induction es with
  | nil => rfl
  | cons e es ih => rw [E.greatest.greatl, ih, List.map_cons]
theorem minL_app : ∀ (l : List Nat) (b : Nat), l ≠ [] → minL (l ++ [b]) = min (minL l) b
  | [], _, h => absurd rfl h
  | [a], b, _ => rfl
  | a :: c :: r, b, _ => by
    have ih := minL_app (c :: r) b (by intro e; cases e)
    show min a (minL (c :: r ++ [b])) = min (min a (minL (c :: r))) b
    rw [ih]
    omega
end My
namespace My
open PySem PySem.Spec PyProof.Rows L2 PySem.Calls
/-! ### list.extend by a tuple -/
theorem extend_tupM (l : Addr) (items : Array Value) (n : Nat) (b : Addr) (items2 : Array Value) (n2 : Nat) (dd : Option Addr) (sl : Array (Option Value)) (hs0 : ¬(!items.isEmpty && Builtin.List.listTooLong (items.size + items2.size)) = true) (hs1 : items.size ≤ sizeLine) (hs2 : items.size + items2.size ≤ sizeLine + 1) :
    Meets (Builtin.«list.extend» ⟨[.ref l, .ref b], []⟩) (fun _ R s => s.heap.get? l = some { cls := .type "list", dict := none, data := .seq items n, slots := #[] } ∧ s.heap.get? b = some { cls := .type "tuple", dict := dd, data := .seq items2 n2, slots := sl } ∧ R (.ok (.ret Value.none)) { s with heap := s.heap.update l (Obj.mapSeq fun x => x ++ items2), toks := s.toks }) :=
  .of_wp fun prog w A R s h => by
    obtain ⟨hp, g, d, tk, os⟩ := s; obtain ⟨hl, hb, h⟩ := h; have f1 := PySem.AutoSeq1.idx_int; have f2 := PySem.AutoSeq1.sub_tuple_tuple; have f3 := PySem.AutoSeq1.sub_list_list; have f4 := PySem.AutoSeq1.sub_tuple_list; have f5 := PySem.AutoSeq1.sub_list_tuple;
    have hz' : (items ++ items2).size ≤ sizeLine + 1 := by rw [Array.size_append]; exact hs2
    wp_walk using (wpAny_updateSeq hl rfl (hz := hs1) (_hz' := hz')), PySem.AutoSeq1.wpAny_loadPart' hl, PySem.AutoSeq1.wpAny_loadPart' hb; exact ⟨_, rfl, h⟩
def rExtendT (K : PySem.W.Frag) : V → List V → Hp → VK → Prop := fun x vs H Q => ∃ l b xs zs, x = .ref l ∧ vs = [.ref b] ∧ H l = some (.lst xs) ∧ SqT K H b zs ∧ xs.length + zs.length ≤ sizeLine ∧ Q .non (upd H l (.lst (xs ++ zs)))
variable {X : Cx}
theorem mt_extendT : MtM X "list.extend" (rExtendT X.K) := by
  intro pins s σ H x vs v us Q I rx rv h
  obtain ⟨l, b, xs, zs, rfl, rfl, hH, hB, hz, q⟩ := h
  cases rx
  obtain ⟨u, rfl, ru⟩ := rv.one
  cases ru
  obtain ⟨z, its, n, r, hl, e⟩ := I.lstM hH
  obtain ⟨its2, r2, ⟨⟨cls, dd, dat, sl⟩, ho, hc, n2, hd⟩, hl2⟩ := I.tuple hB
  simp only at hc hd
  subst hc hd
  have e1 := r.length
  have e2 := r2.length
  have hsz : its.toArray.size + its2.toArray.size ≤ sizeLine := by rw [List.size_toArray, List.size_toArray]; omega
  have hlong : ¬ (!its.toArray.isEmpty && Builtin.List.listTooLong (its.toArray.size + its2.toArray.size)) = true := by
    rw [notLongL hsz, Bool.and_false]
    exact Bool.false_ne_true
  refine call_meets F.slot_list_extend ⟨_, e, rfl⟩ F.entry_list_extend (F.args_list_extend_2 _ _)
    (extend_tupM l its.toArray n b its2.toArray n2 dd sl hlong (by rw [List.size_toArray]; omega) (by omega)) ⟨e, ho, ?_⟩
  refine ⟨.non, _, I.lset (its' := its ++ its2) hH e (by simp) (r.append r2) ?_, rfl, q⟩
  rw [List.length_append]
  omega
end My
namespace My
open PySem PySem.Spec PyProof.Rows L2
/-! ### what the builders of expressions count -/
def E.leaves : E → Nat
  | .eps => 1
  | .sym _ => 1
  | .maybe e => e.leaves
  | .many e => e.leaves
  | .join es => leavess es
  | .alt es => leavess es
where leavess : List E → Nat
  | [] => 0
  | e :: es => e.leaves + leavess es
def E.wr : E → Nat
  | .eps => 0
  | .sym _ => 0
  | .maybe e => e.wr + 1
  | .many e => e.wr + 1
  | .join es => wrs es
  | .alt es => wrs es
where wrs : List E → Nat
  | [] => 0
  | e :: es => e.wr + wrs es
theorem leavess_eq (es : List E) : E.leaves.leavess es = (es.map E.leaves).sum := by
  induction es with
  | nil => rfl
  | cons e es ih => rw [E.leaves.leavess, ih, List.map_cons, List.sum_cons]
theorem wrs_eq (es : List E) : E.wr.wrs es = (es.map E.wr).sum := by
  induction es with
  | nil => rfl
  | cons e es ih => rw [E.wr.wrs, ih, List.map_cons, List.sum_cons]
structure Cnt (e : E) : Prop where
  l : 1 ≤ e.leaves
  d : e.depth + 1 ≤ e.leaves + e.wr
  p : e.parts + 1 ≤ 2 * e.leaves + e.wr
  s : e.toD.size ≤ 4 * e.parts
structure Cnts (es : List E) : Prop where
  l : es.length ≤ E.leaves.leavess es
  d : E.depth.depths es + es.length ≤ E.leaves.leavess es + E.wr.wrs es
  p : E.parts.partss es + es.length ≤ 2 * E.leaves.leavess es + E.wr.wrs es
  s : D.size.sizes (E.toD.toDs es) ≤ 4 * E.parts.partss es
mutual
theorem cnt : ∀ {e : E}, e.ok = true → Cnt e
  | .eps, _ => ⟨by rw [E.leaves]; omega, by rw [E.leaves, E.depth, E.wr]; omega, by rw [E.leaves, E.parts, E.wr]; omega, by rw [E.toD, D.size, E.parts]; omega⟩
  | .sym c, _ => ⟨by rw [E.leaves]; omega, by rw [E.leaves, E.depth, E.wr]; omega, by rw [E.leaves, E.parts, E.wr]; omega, by rw [E.toD, D.size, E.parts]; omega⟩
  | .maybe e, h => by
    rw [E.ok] at h
    have c := cnt h
    obtain ⟨c1, c2, c3, c4⟩ := c
    refine ⟨by rw [E.leaves]; omega, by rw [E.leaves, E.depth, E.wr]; omega, by rw [E.leaves, E.parts, E.wr]; omega, ?_⟩
    simp only [E.toD, D.size, D.size.sizes, E.parts]
    omega
  | .many e, h => by
    rw [E.ok] at h
    have c := cnt h
    obtain ⟨c1, c2, c3, c4⟩ := c
    refine ⟨by rw [E.leaves]; omega, by rw [E.leaves, E.depth, E.wr]; omega, by rw [E.leaves, E.parts, E.wr]; omega, ?_⟩
    simp only [E.toD, D.size, D.size.sizes, E.parts]
    omega
  | .join es, h => by
    rw [E.ok] at h
    simp only [Bool.and_eq_true, decide_eq_true_eq] at h
    obtain ⟨c1, c2, c3, c4⟩ := cnts h.1.2
    have h2 := h.1.1
    refine ⟨by rw [E.leaves]; omega, by rw [E.leaves, E.depth, E.wr]; omega, by rw [E.leaves, E.parts, E.wr]; omega, ?_⟩
    simp only [E.toD, D.size, D.size.sizes, E.parts]
    omega
  | .alt es, h => by
    rw [E.ok] at h
    simp only [Bool.and_eq_true, decide_eq_true_eq] at h
    obtain ⟨c1, c2, c3, c4⟩ := cnts h.1.2
    have h2 := h.1.1
    refine ⟨by rw [E.leaves]; omega, by rw [E.leaves, E.depth, E.wr]; omega, by rw [E.leaves, E.parts, E.wr]; omega, ?_⟩
    simp only [E.toD, D.size, D.size.sizes, E.parts]
    omega
theorem cnts : ∀ {es : List E}, E.ok.oks es = true → Cnts es
  | [], _ => ⟨Nat.le_refl _, Nat.le_refl _, Nat.le_refl _, Nat.le_refl _⟩
  | e :: es, h => by
    rw [E.ok.oks, Bool.and_eq_true] at h
    obtain ⟨a1, a2, a3, a4⟩ := cnt h.1
    obtain ⟨c1, c2, c3, c4⟩ := cnts h.2
    refine ⟨?_, ?_, ?_, ?_⟩
    · rw [E.leaves.leavess, List.length_cons]; omega
    · rw [E.leaves.leavess, E.wr.wrs, E.depth.depths, List.length_cons]
      rcases Nat.le_total e.depth (E.depth.depths es) with hh | hh
      · rw [Nat.max_eq_right hh]; omega
      · rw [Nat.max_eq_left hh]; omega
    · rw [E.leaves.leavess, E.wr.wrs, E.parts.partss, List.length_cons]; omega
    · rw [E.toD.toDs, D.size.sizes, E.parts.partss]; omega
end
/-! ### a row of two -/
def kidsOf (b : Bool) : E → List E
  | .join es => if b then es else [.join es]
  | .alt es => if b then [.alt es] else es
  | e => [e]
def rowE (b : Bool) (es : List E) : E := if b then .join es else .alt es
def mkRow (b : Bool) (x y : E) : E := rowE b (kidsOf b x ++ kidsOf b y)
structure KidsOk (b : Bool) (es : List E) : Prop where
  n : 1 ≤ es.length
  ok : es.all E.ok = true
  no : es.any (fun e => if b then isJoin e else isAlt e) = false
theorem kids_okB {b : Bool} {e : E} (h : e.ok = true) : KidsOk b (kidsOf b e) := by
  have one : ∀ e : E, e.ok = true → (if b then isJoin e else isAlt e) = false → KidsOk b [e] := fun e h1 h2 => ⟨Nat.le_refl _, by rw [List.all_cons, h1]; rfl, by rw [List.any_cons, h2]; rfl⟩
  cases e with
  | eps => exact one _ h (by cases b <;> rfl)
  | sym c => exact one _ h (by cases b <;> rfl)
  | maybe e => exact one _ h (by cases b <;> rfl)
  | many e => exact one _ h (by cases b <;> rfl)
  | join es =>
    cases b
    · exact one _ h rfl
    · rw [E.ok, oks_eq] at h
      simp only [Bool.and_eq_true, decide_eq_true_eq, Bool.not_eq_true'] at h
      exact ⟨Nat.le_trans (by decide) h.1.1, h.1.2, h.2⟩
  | alt es =>
    cases b
    · rw [E.ok, oks_eq] at h
      simp only [Bool.and_eq_true, decide_eq_true_eq, Bool.not_eq_true'] at h
      exact ⟨Nat.le_trans (by decide) h.1.1, h.1.2, h.2⟩
    · exact one _ h rfl
theorem ok_row {b : Bool} {es es' : List E} (h : KidsOk b es) (h' : KidsOk b es') : (rowE b (es ++ es')).ok = true := by
  have a := h.n
  have a' := h'.n
  cases b
  · show E.ok (.alt (es ++ es')) = true
    rw [E.ok, oks_eq, List.all_append, h.ok, h'.ok, List.any_append]
    have n1 : es.any isAlt = false := h.no
    have n2 : es'.any isAlt = false := h'.no
    rw [n1, n2, List.length_append, decide_eq_true (by omega)]
    rfl
  · show E.ok (.join (es ++ es')) = true
    rw [E.ok, oks_eq, List.all_append, h.ok, h'.ok, List.any_append]
    have n1 : es.any isJoin = false := h.no
    have n2 : es'.any isJoin = false := h'.no
    rw [n1, n2, List.length_append, decide_eq_true (by omega)]
    rfl
theorem ok_mkRow {b : Bool} {x y : E} (hx : x.ok = true) (hy : y.ok = true) : (mkRow b x y).ok = true := ok_row (kids_okB hx) (kids_okB hy)
theorem kids_places (b : Bool) (e : E) : ((kidsOf b e).map E.places).sum = e.places := by
  cases e <;> cases b <;> simp [kidsOf, E.places, placess_eq]
theorem kids_leaves (b : Bool) (e : E) : ((kidsOf b e).map E.leaves).sum = e.leaves := by
  cases e <;> cases b <;> simp [kidsOf, E.leaves, leavess_eq]
theorem kids_wr (b : Bool) (e : E) : ((kidsOf b e).map E.wr).sum = e.wr := by
  cases e <;> cases b <;> simp [kidsOf, E.wr, wrs_eq]
theorem mkRow_places (b : Bool) (x y : E) : (mkRow b x y).places = x.places + y.places := by
  have : (mkRow b x y).places = ((kidsOf b x ++ kidsOf b y).map E.places).sum := by cases b <;> simp [mkRow, rowE, E.places, placess_eq]
  rw [this, List.map_append, List.sum_append, kids_places, kids_places]
theorem mkRow_leaves (b : Bool) (x y : E) : (mkRow b x y).leaves = x.leaves + y.leaves := by
  have : (mkRow b x y).leaves = ((kidsOf b x ++ kidsOf b y).map E.leaves).sum := by cases b <;> simp [mkRow, rowE, E.leaves, leavess_eq]
  rw [this, List.map_append, List.sum_append, kids_leaves, kids_leaves]
theorem mkRow_wr (b : Bool) (x y : E) : (mkRow b x y).wr = x.wr + y.wr := by
  have : (mkRow b x y).wr = ((kidsOf b x ++ kidsOf b y).map E.wr).sum := by cases b <;> simp [mkRow, rowE, E.wr, wrs_eq]
  rw [this, List.map_append, List.sum_append, kids_wr, kids_wr]
def rowW (b : Bool) : Str := if b then sJoin else sOr
theorem rowE_toD (b : Bool) (es : List E) : (rowE b es).toD = .tup [.str (rowW b), .tup (es.map E.toD)] := by
  cases b
  · show E.toD (.alt es) = _
    rw [E.toD, toDs_eq]
    rfl
  · show E.toD (.join es) = _
    rw [E.toD, toDs_eq]
    rfl
end My
namespace My
open PySem PySem.Spec PyProof.Rows L2
/-! ### sorted() of a list of tuples of ints, any number of them -/
def TupI (h : Heap) (v : Value) (ns : List Int) : Prop := ∃ (t : Addr) (items : Array Value), v = .ref t ∧ IsTup h t items ∧ IntsAre items.toList ns
theorem TupI.keeps {h h' : Heap} {v : Value} {ns : List Int} (x : TupI h v ns) (kp : ∀ b o, h.get? b = some o → o.cls = .type "tuple" → h'.get? b = some o) : TupI h' v ns := by
  obtain ⟨t, items, e, ⟨o, ho, hc, hd⟩, hi⟩ := x
  exact ⟨t, items, e, ⟨o, kp t o ho hc, hc, hd⟩, hi⟩
section
variable {prog : Program} {w : World} {A : Around} {E : Value → Shared → Prop} {s : Shared}
theorem kt_ints {b : Bool} {Q : Bool → Shared → Prop} : ∀ {xs ys : List Value} {ns ms : List Int} {i : Nat} {fin : Bool}, IntsAre xs ns → IntsAre ys ms → fin = decide (ns.length < ms.length) → Q (HT.lexLt ns ms) s → PySem.W.KatLex prog w A b fin Q (xs.zip ys) i s
  | [], [], _, _, _, _, .nil, .nil, hf, h => by
    refine PySem.W.kat_nil ?_
    rw [hf]
    exact h
  | [], _ :: _, _, _, _, _, .nil, .cons _ _ _, hf, h => by
    refine PySem.W.kat_nil ?_
    rw [hf]
    exact h
  | _ :: _, [], _, _, _, _, .cons _ _ _, .nil, hf, h => by
    refine PySem.W.kat_nil ?_
    rw [hf]
    exact h
  | _ :: xs, _ :: ys, _, _, i, fin, .cons x t r, .cons y u r2, hf, h => by
    rw [List.zip_cons_cons]
    refine PySem.W.kat_cons (SeqAt.EqAt.int_int x t y u prog w _ _ ?_)
    rw [HT.lexLt_cons] at h
    refine PySem.W.kat_go (fun e1 => ?_) (fun e1 => ?_)
    · have ex : x = y := by simpa using e1
      rw [if_pos ex] at h
      refine PySem.W.kat_yes (kt_ints r r2 ?_ h)
      rw [hf]
      exact decide_eq_decide.mpr (by rw [List.length_cons, List.length_cons]; omega)
    · have ex : ¬ x = y := by simpa using e1
      rw [if_neg ex] at h
      exact PySem.W.kat_no (TS.oneLt_ints _ h)
theorem ti_cmp {vs : List Value} {k : Value → List Int} (hp : ∀ v ∈ vs, TupI s.heap v (k v)) : SrtO.Cmp prog w A s (tuples' true) (fun p => p.1 ∈ vs) (SrtO.lt2 fun v u => HT.lexLt (k v) (k u)) := by
  intro p q m1 m2
  obtain ⟨t1, i1, e1, ⟨o1, g1, _, n1, d1⟩, j1⟩ := hp _ m1
  obtain ⟨t2, i2, e2, ⟨o2, g2, _, n2, d2⟩, j2⟩ := hp _ m2
  show wpAny (model prog w) A (keyLt' (tuples' true) p.1 q.1) (fun r s' => s' = s ∧ r = HT.lexLt (k p.1) (k q.1)) (fun _ _ => False) s
  generalize k p.1 = ns at j1 ⊢
  generalize k q.1 = ms at j2 ⊢
  rw [e1, e2]
  refine PySem.W.kat_lt g1 d1 g2 d2 (kt_ints j1 j2 ?_ ⟨rfl, rfl⟩)
  rw [← j1.length, ← j2.length, Array.length_toList, Array.length_toList]
theorem ti_lt {v u : Value} {ns ms : List Int} {Q : Bool → Shared → Prop} (hu : A.units < cLine) (h1 : TupI s.heap v ns) (h2 : TupI s.heap u ms) (q : Q (HT.lexLt ns ms) s) : wpAny (model prog w) A (keyLt' oneType' v u) Q E s := by
  obtain ⟨t1, i1, rfl, p1, j1⟩ := h1
  obtain ⟨t2, i2, rfl, p2, j2⟩ := h2
  obtain ⟨⟨cls, dd, data, sl⟩, ho, hc, n, hd⟩ := id p1
  obtain ⟨⟨cls2, dd2, data2, sl2⟩, ho2, hc2, n2, hd2⟩ := id p2
  simp only at hc hd hc2 hd2
  subst hc hd hc2 hd2
  rw [keyLt'_oneType, oneLt'_eq]
  simp only [if_true]
  have tt : s.TypeIs (.ref t1) "tuple" := ⟨_, ho, rfl⟩
  refine wpAny_bind (wpAny_cRoomFor hu (wpAny_bind (wpAny_callSpecialIfBound?_slot tt PySem.F.slot_tuple_lt ?_)))
  exact call_meets PySem.F.slot_tuple_lt tt PySem.F.entry_tuple_lt (PySem.F.args_tuple_lt_2 _ _) (HT.tuple_lt_ints t1 t2 i1 i2 n n2 dd dd2 sl sl2 ns ms j1 j2) ⟨ho, ho2, wpAny_truthy_bool q⟩
theorem ti_cmp1 {vs : List Value} {k : Value → List Int} (hu : A.units < cLine) (hp : ∀ v ∈ vs, TupI s.heap v (k v)) : SrtO.Cmp prog w A s oneType' (fun p => p.1 ∈ vs) (SrtO.lt2 fun v u => HT.lexLt (k v) (k u)) :=
  fun p q m1 m2 => ti_lt (Q := fun r s' => s' = s ∧ r = HT.lexLt (k p.1) (k q.1)) (E := fun _ _ => False) hu (hp p.1 m1) (hp q.1 m2) ⟨rfl, rfl⟩
theorem ti_type {M : Model} {v : Value} {ns : List Int} (h : TupI s.heap v ns) : PySem.W.Looks M s.heap (typeOf v) (.type "tuple") := by
  obtain ⟨t, i, rfl, ⟨o, ho, hc, _⟩, _⟩ := h
  have : PySem.W.Looks M s.heap (typeOf (.ref t)) o.cls := (PySem.W.Looks.ld ho).andThen .now
  rw [hc] at this
  exact this
theorem ti_firsts {h : Heap} : ∀ (vs : List Value), (∀ v ∈ vs, ∃ n ns, TupI h v (n :: ns)) → ∃ fs, PySem.W.KatTups h vs fs ∧ fs.length = vs.length ∧ ∀ f ∈ fs, ∃ n t, f = Value.int n t
  | [], _ => ⟨[], .nil, rfl, fun f z => by cases z⟩
  | v :: vs, H => by
    obtain ⟨fs, a1, a2, a3⟩ := ti_firsts vs fun u hu => H u (List.mem_cons_of_mem _ hu)
    obtain ⟨n, ns, t, items, rfl, ⟨o, ho, hc, k, hd⟩, hi⟩ := H v (List.mem_cons_self ..)
    obtain ⟨xs⟩ := items
    cases hi with
    | cons _ tk r =>
      refine ⟨_ :: fs, PySem.W.KatTups.cons ho hc hd rfl a1, by rw [List.length_cons, List.length_cons, a2], fun f hf => ?_⟩
      rcases List.mem_cons.mp hf with rfl | hf
      · exact ⟨n, tk, rfl⟩
      · exact a3 f hf
theorem ti_mapM {M : Model} : ∀ (vs : List Value) {Q : List (Option Value) → Shared → Prop}, (∀ v ∈ vs, ∃ ns, TupI s.heap v ns) → (∀ fs, Q fs s) → wpAny M A (vs.mapM firstOfTuple') Q E s
  | [], Q, _, q => by
    rw [List.mapM_nil]
    exact wpAny_pure (q [])
  | v :: vs, Q, H, q => by
    obtain ⟨ns, hv⟩ := H v (List.mem_cons_self ..)
    have ty := ti_type (M := M) hv
    obtain ⟨t, items, rfl, ⟨o, ho, hc, k, hd⟩, hi⟩ := hv
    rw [List.mapM_cons, PySem.W.kas_first_eq]
    refine wpAny_bind (wpAny_bind (ty.here ?_))
    rw [if_neg (by decide)]
    exact wpAny_bind (PyProof.Rows.listItems_at ho hd (wpAny_pure (wpAny_bind (ti_mapM vs (Q := fun bs s' => wpAny M A (pure (_ :: bs)) Q E s') (fun u hu => H u (List.mem_cons_of_mem _ hu)) fun fs => wpAny_pure (q _)))))
theorem ti_kind1 {M : Model} {v : Value} {vs : List Value} {Q : SortKind → Shared → Prop} (h0 : TupI s.heap v []) (H : ∀ u ∈ vs, ∃ ns, TupI s.heap u ns) (q : Q oneType' s) : wpAny M A (keyKind' (v :: vs).toArray) Q E s := by
  have ty : ∀ u ∈ v :: vs, PySem.W.Looks M s.heap (typeOf u) (.type "tuple") := fun u hu => by
    rcases List.mem_cons.mp hu with rfl | hu
    · exact ti_type h0
    · obtain ⟨ns, h⟩ := H u hu
      exact ti_type h
  have tv := ty v (List.mem_cons_self ..)
  obtain ⟨t, items, rfl, ⟨o, ho, hc, k, hd⟩, hi⟩ := h0
  obtain ⟨xs⟩ := items
  cases hi
  rw [keyKind'_eq, List.mapM_toArray, map_eq_pure_bind, List.mapM_cons, PySem.W.kas_first_eq]
  refine wpAny_bind (wpAny_bind (wpAny_bind (wpAny_bind (tv.here ?_))))
  rw [if_neg (by decide)]
  refine wpAny_bind (PyProof.Rows.listItems_at ho hd (wpAny_pure ?_))
  refine wpAny_bind (ti_mapM vs H fun fs => wpAny_pure (wpAny_pure ?_))
  rw [if_neg (by simp), if_neg (by simp)]
  rw [oneTypeOnly'_eq, List.mapM_toArray, map_eq_pure_bind]
  refine wpAny_bind (wpAny_bind (wpAny_bind (PySem.W.kas_mapM (r := Value.type "tuple") _ (fun u hu Q' hq => (ty u hu).here hq) (wpAny_pure ?_))))
  have z0 : (List.map (fun _ => Value.type "tuple") (Value.ref t :: vs)).toArray[0]? = some (Value.type "tuple") := by simp
  rw [z0]
  have z1 : ((List.map (fun _ => Value.type "tuple") (Value.ref t :: vs)).toArray.all fun x => x == Value.type "tuple") = true := by
    simp only [List.all_toArray, List.all_map, List.all_eq_true]
    intro _ _
    exact beq_self_eq_true _
  simp only [z1, if_true]
  exact wpAny_pure (wpAny_pure q)
theorem ti_sortable {a : Addr} {vs : List Value} {k : Value → List Int} (hu : A.units < cLine) (h0 : 0 < vs.length) (hp : ∀ v ∈ vs, TupI s.heap v (k v)) (hk : (∀ v ∈ vs, k v ≠ []) ∨ ∃ v r, vs = v :: r ∧ k v = []) (ha : ∀ o, s.heap.get? a = some o → o.cls ≠ .type "tuple") : SrtO.SortableO prog w A s a vs fun v u => HT.lexLt (k v) (k u) := by
  intro h' keep
  have hp' : ∀ v ∈ vs, TupI h' v (k v) := fun v hm => (hp v hm).keeps fun b o e c => keep b o (fun z => ha o (by rw [← z]; exact e) c) e
  rcases hk with hk | ⟨v, r, rfl, hv⟩
  · obtain ⟨fs, a1, a2, a3⟩ := ti_firsts (h := h') vs fun v hv => by
      have h1 := hp' v hv
      have h2 := hk v hv
      cases hh : k v with
      | nil => exact absurd hh h2
      | cons n ns =>
        rw [hh] at h1
        exact ⟨n, ns, h1⟩
    refine ⟨tuples' true, fun Q E hq => ?_, ti_cmp (s := { s with heap := h' }) hp'⟩
    refine PySem.W.kat_kind (T := .type "int") a1 (by omega) (fun f hm => ?_) (by rfl) ?_
    · obtain ⟨n, t, rfl⟩ := a3 f hm
      exact PySem.W.Looks.now
    · rw [show (Value.type "int" != Value.type "tuple") = true by decide]
      exact hq
  · refine ⟨oneType', fun Q E hq => ?_, ti_cmp1 (s := { s with heap := h' }) hu hp'⟩
    refine ti_kind1 (s := { s with heap := h' }) ?_ (fun u hu => ⟨_, hp' u (List.mem_cons_of_mem _ hu)⟩) hq
    have := hp' v (List.mem_cons_self ..)
    rw [hv] at this
    exact this
end
def bkW : Value → V
  | .ref a => .ref a
  | _ => .non
theorem bkW_refs : ∀ {xs : List V} {us : List Value}, Vals xs us → (∀ x ∈ xs, ∃ a, x = V.ref a) → xs = us.map bkW ∧ ∀ u ∈ us, ∃ a, u = Value.ref a
  | _, _, .nil, _ => ⟨rfl, fun u hu => by cases hu⟩
  | x :: xs, _ :: us, .cons r t, h => by
    obtain ⟨a, rfl⟩ := h x (List.mem_cons_self ..)
    cases r
    obtain ⟨h1, h2⟩ := bkW_refs t fun y hy => h y (List.mem_cons_of_mem _ hy)
    refine ⟨by rw [List.map_cons, ← h1]; rfl, fun u hu => ?_⟩
    rcases List.mem_cons.mp hu with rfl | hu
    · exact ⟨a, rfl⟩
    · exact h2 u hu
theorem bkW_vals : ∀ {us : List Value}, (∀ u ∈ us, ∃ a, u = Value.ref a) → Vals (us.map bkW) us
  | [], _ => .nil
  | u :: us, h => by
    obtain ⟨a, rfl⟩ := h u (List.mem_cons_self ..)
    exact .cons (show RelV (.ref a) (.ref a) from rfl) (bkW_vals fun y hy => h y (List.mem_cons_of_mem _ hy))
/-- sorted(xs), xs a list of tuples of ints of any number and lengths (none of them empty, or the first one) -/
def rSortedTs (K : PySem.W.Frag) : List V → Hp → VK → Prop := fun vs H Q => ∃ (a : Addr) (xs : List V) (k : V → List Int), vs = [V.ref a] ∧ SqL K H a xs ∧ (∀ x ∈ xs, ∃ t, x = V.ref t ∧ SqT K H t ((k x).map V.int)) ∧ ((∀ x ∈ xs, k x ≠ []) ∨ ∃ x r, xs = x :: r ∧ k x = []) ∧
  ∀ ys p, ys.Perm xs → ys.Pairwise (fun x y => HT.lexLt (k y) (k x) = false) → H p = none → Q (.ref p) (upd H p (.lst ys))
theorem cr_sortedTs {X : Cx} (hu : X.A.units + 64 < cLine) : CallR X (.builtin "sorted") (rSortedTs X.K) := by
  intro pins s σ H vs us Q I r h
  obtain ⟨a, xs, k, rfl, hs, hx, hk, q⟩ := h
  obtain ⟨its, rv, hl, hz⟩ := I.list hs
  obtain ⟨u, rfl, ru⟩ := vals1 r
  obtain rfl : u = Value.ref a := ru
  obtain ⟨e1, e2⟩ := bkW_refs rv fun x m => by
    obtain ⟨t, e, _⟩ := hx x m
    exact ⟨t, e⟩
  have ht : ∀ v ∈ its, TupI s.heap v (k (bkW v)) := fun v hv => by
    obtain ⟨t, rfl⟩ := e2 v hv
    have hm : V.ref t ∈ xs := by
      rw [e1]
      exact List.mem_map.mpr ⟨_, hv, rfl⟩
    obtain ⟨t', e, h1⟩ := hx _ hm
    cases e
    obtain ⟨is, r2, hT, _⟩ := I.tuple h1
    exact ⟨t, is.toArray, rfl, hT, show IntsAre is.toArray.toList (k (V.ref t)) by simpa using r2.ints⟩
  have hk' : (∀ v ∈ its, k (bkW v) ≠ []) ∨ ∃ v r, its = v :: r ∧ k (bkW v) = [] := by
    rcases hk with hk | ⟨x, r, e, hx⟩
    · exact .inl fun v hv => hk _ (by rw [e1]; exact List.mem_map_of_mem hv)
    · cases its with
      | nil =>
        rw [e] at e1
        cases e1
      | cons v vs =>
        rw [e1, List.map_cons] at e
        refine .inr ⟨v, vs, rfl, ?_⟩
        rw [(List.cons.inj e).1]
        exact hx
  refine SrtO.sorted_ord (NtL.swo_lexL fun u => k (bkW u)) hl.isList (by rw [← rv.length]; exact hz) (fun h2 h₁ a ha kk => ?_) fun out hs hb => ?_
  · refine ti_sortable (s := { s with heap := h₁ }) (by show X.A.units + 1 + 1 < cLine; omega) (by omega) (fun v hm => (ht v hm).keeps fun b o e _ => (kk b o e).2) hk' fun o e => ?_
    have e' : some o = some (seqObj "list" its.toArray 0) := e.symm.trans ha
    cases e'
    intro c
    exact absurd (Value.type.inj c) (by decide)
  · have h3 : ∀ u ∈ out, ∃ a, u = Value.ref a := fun u hu => e2 u (hb.perm.mem_iff.mp hu)
    have hp : (out.map bkW).Perm xs := by
      rw [e1]
      exact hb.perm.map bkW
    obtain ⟨n, hn⟩ := PyProof.Rows.sortedAll_at s.heap its out.toArray
    refine ⟨.ref _, upd H (s.heap.objs.size + 1) (.lst (out.map bkW)), I.laid (t' := s.toks) (fun _ _ => PyProof.Rows.sortedAll_old) (Nat.le_succ _) ⟨?_, out, n, bkW_vals h3, hn⟩, rfl, q _ _ hp ?_ (I.hok.fresh (Nat.le_succ _))⟩
    · rw [hp.length_eq]
      exact hz
    · rw [List.pairwise_map]
      exact hs
end My
namespace My
open PySem PySem.Spec PyProof.Rows L2
/-! ### sorted() of a list of alike data: what stands in the list is told by a list of anything -/
theorem vals_each {β : Type} {val : β → V} : ∀ {bs : List β} {us : List Value}, Vals (bs.map val) us → PySem.W.EachIs (fun u b => RelV (val b) u) us bs
  | [], _, h => by
    cases h
    exact .nil
  | b :: bs, _, h => by
    rw [List.map_cons] at h
    cases h with
    | cons r t => exact .cons r (vals_each t)
theorem each_vals {β : Type} {val : β → V} : ∀ {bs : List β} {us : List Value}, PySem.W.EachIs (fun u b => RelV (val b) u) us bs → Vals (bs.map val) us
  | _, _, .nil => .nil
  | _, _, .cons r t => .cons r (each_vals t)
theorem each_read {β : Type} {R S : Value → β → Prop} : ∀ {us : List Value} {bs : List β}, (∀ u b, b ∈ bs → R u b → S u b) → PySem.W.EachIs R us bs → PySem.W.EachIs S us bs
  | _, _, _, .nil => .nil
  | _, _, h, .cons r t => .cons (h _ _ List.mem_cons_self r) (each_read (fun u b hb => h u b (List.mem_cons_of_mem _ hb)) t)
theorem dataLe_trans {β : Type} (enc : β → PyData) (a b c : β) (h1 : PySem.W.dataLe false enc a b = true) (h2 : PySem.W.dataLe false enc b c = true) : PySem.W.dataLe false enc a c = true := by
  rw [PySem.W.dataLe_eq] at h1 h2 ⊢
  simp only [cond_false, Bool.not_eq_true'] at h1 h2 ⊢
  cases h : PySem.W.dataLt (enc c) (enc a) with
  | false => rfl
  | true =>
    rcases PyProof.Rows.lex_negTrans _ (PySem.W.keyToks (enc b)) _ h with h3 | h3
    · exact absurd (h2.symm.trans h3) (by decide)
    · exact absurd (h1.symm.trans h3) (by decide)
theorem dataLt_asymm {x y : PyData} (h : PySem.W.dataLt x y = true) : PySem.W.dataLt y x = false := by
  cases h2 : PySem.W.dataLt y x with
  | false => rfl
  | true =>
    have h3 := PyProof.Rows.lex_trans _ _ _ h h2
    exact absurd ((PyProof.Rows.lex_irrefl _).symm.trans h3) (by decide)
theorem dataLe_total {β : Type} (enc : β → PyData) (a b : β) : (PySem.W.dataLe false enc a b || PySem.W.dataLe false enc b a) = true := by
  rw [PySem.W.dataLe_eq]
  simp only [cond_false]
  cases h : PySem.W.dataLt (enc b) (enc a) with
  | false => rfl
  | true => rw [dataLt_asymm h]; rfl
def rSortedP (K : PySem.W.Frag) : List V → Hp → VK → Prop := fun vs H Q => ∃ (a : Addr) (β : Type) (bs : List β) (val : β → V) (enc : β → PyData), vs = [V.ref a] ∧ SqL K H a (bs.map val) ∧ (∀ b ∈ bs, Dp K H (val b) (enc b)) ∧ PySem.W.AllAlike (bs.map enc) ∧ PySem.W.Sortable (bs.map enc) ∧ (∀ b ∈ bs, (enc b).depth ≤ 40) ∧
  ∀ cs p, List.Perm cs bs → cs.Pairwise (fun x y => PySem.W.dataLt (enc y) (enc x) = false) → H p = none → Q (.ref p) (upd H p (.lst (cs.map val)))
theorem cr_sortedP {X : Cx} (hu : X.A.units + 64 < cLine) : CallR X (.builtin "sorted") (rSortedP X.K) := by
  intro pins s σ H vs us Q I r h
  obtain ⟨a, β, bs, val, enc, rfl, hs, hd, hal, hso, hdp, q⟩ := h
  obtain ⟨its, rv, hl, hz⟩ := I.list hs
  obtain ⟨u, rfl, ru⟩ := vals1 r
  obtain rfl : u = Value.ref a := ru
  have e := vals_each rv
  have er : PySem.W.EachIs (fun u b => ∃ as, Reads s.heap u (enc b) as) its bs := each_read (fun u b hb hr => Dp.reads I (enc b) _ u (hd b hb) hr) e
  have hL : bs.length ≤ sizeLine := by rw [List.length_map] at hz; exact hz
  refine PySem.W.sorted_data hl.isList e er hal hso hL (fun b hb => ?_) fun out ho eo => ?_
  · have := hdp b hb
    omega
  · have hp : (bs.mergeSort (PySem.W.dataLe false enc)).Perm bs := List.mergeSort_perm _ _
    have hw : (bs.mergeSort (PySem.W.dataLe false enc)).Pairwise (fun x y => PySem.W.dataLt (enc y) (enc x) = false) := by
      refine (List.pairwise_mergeSort (dataLe_trans enc) (dataLe_total enc) bs).imp fun {x y} h => ?_
      rw [PySem.W.dataLe_eq] at h
      simpa using h
    obtain ⟨n, hn⟩ := PyProof.Rows.sortedAll_at s.heap its out.toArray
    refine ⟨.ref _, upd H (s.heap.objs.size + 1) (.lst ((bs.mergeSort (PySem.W.dataLe false enc)).map val)), I.laid (t' := s.toks) (fun _ _ => PyProof.Rows.sortedAll_old) (Nat.le_succ _) ⟨?_, out, n, each_vals eo, hn⟩, rfl, q _ _ hp hw (I.hok.fresh (Nat.le_succ _))⟩
    rw [List.length_map, hp.length_eq]
    exact hL
end My
namespace My
open PySem PySem.Spec PyProof.Rows L2
/-! ### comprehensions whose results are known by the turns -/
theorem sqT_same {K : PySem.W.Frag} {H H' : Hp} {p : Addr} {xs : List V} (s : Same H H') (h : SqT K H p xs) : SqT K H' p xs := by
  rcases h with (h | ⟨o, h⟩) | h
  · exact .inl (.inl (s _ _ h))
  · exact .inl (.inr ⟨o, s _ _ h⟩)
  · exact .inr h
/-- one more result -/
theorem r_push {H1 H H4 : Hp} {D : Addr} {R : Nat → List V} {i : Nat} (hz : ∀ i, (R i).length ≤ 100000) (hD : H1 D = none) (s : Same H1 H) (h : H D = some (.lst (R i))) : ∀ y H4, R (i + 1) = R i ++ [y] → Same H H4 → ∃ acc, H4 D = some (.lst acc) ∧ acc.length < sizeLine ∧ Same H1 (upd H4 D (.lst (acc ++ [y]))) ∧ (upd H4 D (.lst (acc ++ [y]))) D = some (.lst (R (i + 1))) := by
  intro y H4 e s4
  refine ⟨_, s4 _ _ h, Nat.lt_of_le_of_lt (hz i) (by decide), fun b o hb => ?_, ?_⟩
  · rw [upd_ne (ne_of_none hb hD)]
    exact s4 _ _ (s _ _ hb)
  · rw [upd_same, e]
theorem r_keep {H1 H : Hp} {D : Addr} {R : Nat → List V} {i : Nat} (s : Same H1 H) (h : H D = some (.lst (R i))) : ∀ H4, R (i + 1) = R i → Same H H4 → Same H1 H4 ∧ H4 D = some (.lst (R (i + 1))) := by
  intro H4 e s4
  exact ⟨s.trans s4, by rw [e]; exact s4 _ _ h⟩
theorem lc_tupR {K : PySem.W.Frag} {a : Addr} {xs : List V} {g : TG} {tt : TT} {te : TE} {vs : List Nat} {σ : L2.St} {H1 : Hp} {D : Addr} {Qd : Hp → Prop} (R : Nat → List V) (h0 : R 0 = []) (hz : ∀ i, (R i).length ≤ 100000) (hD : H1 D = none) (ha : SqT K H1 a xs) 
    (hs : ∀ i x H, xs[i]? = some x → Same H1 H → (∀ y H4, R (i + 1) = R i ++ [y] → Same H H4 → ∃ acc, H4 D = some (.lst acc) ∧ acc.length < sizeLine ∧ Same H1 (upd H4 D (.lst (acc ++ [y]))) ∧ (upd H4 D (.lst (acc ++ [y]))) D = some (.lst (R (i + 1)))) → (∀ H4, R (i + 1) = R i → Same H H4 → Same H1 H4 ∧ H4 D = some (.lst (R (i + 1)))) →
      g x (wipe σ vs) H fun σ2 H2 => wipe σ2 vs = wipe σ vs ∧ tt σ2 H2 fun b H3 => if b = true then te σ2 H3 fun y H4 => ∃ acc, H4 D = some (.lst acc) ∧ acc.length < sizeLine ∧ Same H1 (upd H4 D (.lst (acc ++ [y]))) ∧ (upd H4 D (.lst (acc ++ [y]))) D = some (.lst (R (i + 1))) else Same H1 H3 ∧ H3 D = some (.lst (R (i + 1))))
    (hd : ∀ H, Same H1 H → H D = some (.lst (R xs.length)) → Qd H) :
    ∃ W : Nat → Nat → Hp → Prop, (∃ m, W 0 m (upd H1 D (.lst []))) ∧ ∀ i m H, W i m H →
      ((Itt K a).stop i H ∧ Qd H) ∨ ((Itt K a).go i H ∧ ∃ Nx : Hp → Prop, (∀ H', Nx H' → ∃ m', m' < m ∧ W (i + 1) m' H') ∧ ∀ x H', (Itt K a).yld i H x H' → g x (wipe σ vs) H' fun σ2 H2 => wipe σ2 vs = wipe σ vs ∧ tt σ2 H2 fun b H3 =>
        if b = true then te σ2 H3 fun y H4 => ∃ acc, H4 D = some (.lst acc) ∧ acc.length < sizeLine ∧ Nx (upd H4 D (.lst (acc ++ [y]))) else Nx H3) := by
  have fin : ∀ {i : Nat} {H : Hp}, Same H1 H → H D = some (.lst (R i)) → ∀ y H4, R (i + 1) = R i ++ [y] → Same H H4 → ∃ acc, H4 D = some (.lst acc) ∧ acc.length < sizeLine ∧ Same H1 (upd H4 D (.lst (acc ++ [y]))) ∧ (upd H4 D (.lst (acc ++ [y]))) D = some (.lst (R (i + 1))) := fun s h => r_push (H4 := H1) hz hD s h
  have fin0 : ∀ {i : Nat} {H : Hp}, Same H1 H → H D = some (.lst (R i)) → ∀ H4, R (i + 1) = R i → Same H H4 → Same H1 H4 ∧ H4 D = some (.lst (R (i + 1))) := fun s h => r_keep s h
  exact lc_tup (K := K) (a := a) (xs := xs) (fun i H' => Same H1 H' ∧ H' D = some (.lst (R i))) ⟨same_upd hD, by rw [upd_same, h0]⟩ (fun i H _ h => sqT_same h.1 ha) (fun i x H hx h => hs i x H hx h.1 (fin h.1 h.2) (fin0 h.1 h.2)) (fun H h => hd H h.1 h.2)
theorem lc_listR {K : PySem.W.Frag} {a : Addr} {xs : List V} {g : TG} {tt : TT} {te : TE} {vs : List Nat} {σ : L2.St} {H1 : Hp} {D : Addr} {Qd : Hp → Prop} (R : Nat → List V) (h0 : R 0 = []) (hz : ∀ i, (R i).length ≤ 100000) (hD : H1 D = none) (ha : SqL K H1 a xs) 
    (hs : ∀ i x H, xs[i]? = some x → Same H1 H → (∀ y H4, R (i + 1) = R i ++ [y] → Same H H4 → ∃ acc, H4 D = some (.lst acc) ∧ acc.length < sizeLine ∧ Same H1 (upd H4 D (.lst (acc ++ [y]))) ∧ (upd H4 D (.lst (acc ++ [y]))) D = some (.lst (R (i + 1)))) → (∀ H4, R (i + 1) = R i → Same H H4 → Same H1 H4 ∧ H4 D = some (.lst (R (i + 1)))) →
      g x (wipe σ vs) H fun σ2 H2 => wipe σ2 vs = wipe σ vs ∧ tt σ2 H2 fun b H3 => if b = true then te σ2 H3 fun y H4 => ∃ acc, H4 D = some (.lst acc) ∧ acc.length < sizeLine ∧ Same H1 (upd H4 D (.lst (acc ++ [y]))) ∧ (upd H4 D (.lst (acc ++ [y]))) D = some (.lst (R (i + 1))) else Same H1 H3 ∧ H3 D = some (.lst (R (i + 1))))
    (hd : ∀ H, Same H1 H → H D = some (.lst (R xs.length)) → Qd H) :
    ∃ W : Nat → Nat → Hp → Prop, (∃ m, W 0 m (upd H1 D (.lst []))) ∧ ∀ i m H, W i m H →
      ((Itl K a).stop i H ∧ Qd H) ∨ ((Itl K a).go i H ∧ ∃ Nx : Hp → Prop, (∀ H', Nx H' → ∃ m', m' < m ∧ W (i + 1) m' H') ∧ ∀ x H', (Itl K a).yld i H x H' → g x (wipe σ vs) H' fun σ2 H2 => wipe σ2 vs = wipe σ vs ∧ tt σ2 H2 fun b H3 =>
        if b = true then te σ2 H3 fun y H4 => ∃ acc, H4 D = some (.lst acc) ∧ acc.length < sizeLine ∧ Nx (upd H4 D (.lst (acc ++ [y]))) else Nx H3) := by
  have fin : ∀ {i : Nat} {H : Hp}, Same H1 H → H D = some (.lst (R i)) → ∀ y H4, R (i + 1) = R i ++ [y] → Same H H4 → ∃ acc, H4 D = some (.lst acc) ∧ acc.length < sizeLine ∧ Same H1 (upd H4 D (.lst (acc ++ [y]))) ∧ (upd H4 D (.lst (acc ++ [y]))) D = some (.lst (R (i + 1))) := fun s h => r_push (H4 := H1) hz hD s h
  have fin0 : ∀ {i : Nat} {H : Hp}, Same H1 H → H D = some (.lst (R i)) → ∀ H4, R (i + 1) = R i → Same H H4 → Same H1 H4 ∧ H4 D = some (.lst (R (i + 1))) := fun s h => r_keep s h
  exact lc_list (K := K) (a := a) (xs := xs) (fun i H' => Same H1 H' ∧ H' D = some (.lst (R i))) ⟨same_upd hD, by rw [upd_same, h0]⟩ (fun i H _ h => h.1.seq ha) (fun i x H hx h => hs i x H hx h.1 (fin h.1 h.2) (fin0 h.1 h.2)) (fun H h => hd H h.1 h.2)
theorem lc_rangeR {lo : Int} {n : Nat} {g : TG} {tt : TT} {te : TE} {vs : List Nat} {σ : L2.St} {H1 : Hp} {D : Addr} {Qd : Hp → Prop} (R : Nat → List V) (h0 : R 0 = []) (hz : ∀ i, (R i).length ≤ 100000) (hD : H1 D = none) 
    (hs : ∀ i H, i < n → Same H1 H → (∀ y H4, R (i + 1) = R i ++ [y] → Same H H4 → ∃ acc, H4 D = some (.lst acc) ∧ acc.length < sizeLine ∧ Same H1 (upd H4 D (.lst (acc ++ [y]))) ∧ (upd H4 D (.lst (acc ++ [y]))) D = some (.lst (R (i + 1)))) → (∀ H4, R (i + 1) = R i → Same H H4 → Same H1 H4 ∧ H4 D = some (.lst (R (i + 1)))) →
      g (.int (lo + (i : Nat))) (wipe σ vs) H fun σ2 H2 => wipe σ2 vs = wipe σ vs ∧ tt σ2 H2 fun b H3 => if b = true then te σ2 H3 fun y H4 => ∃ acc, H4 D = some (.lst acc) ∧ acc.length < sizeLine ∧ Same H1 (upd H4 D (.lst (acc ++ [y]))) ∧ (upd H4 D (.lst (acc ++ [y]))) D = some (.lst (R (i + 1))) else Same H1 H3 ∧ H3 D = some (.lst (R (i + 1))))
    (hd : ∀ H, Same H1 H → H D = some (.lst (R n)) → Qd H) :
    ∃ W : Nat → Nat → Hp → Prop, (∃ m, W 0 m (upd H1 D (.lst []))) ∧ ∀ i m H, W i m H →
      ((Itr lo n).stop i H ∧ Qd H) ∨ ((Itr lo n).go i H ∧ ∃ Nx : Hp → Prop, (∀ H', Nx H' → ∃ m', m' < m ∧ W (i + 1) m' H') ∧ ∀ x H', (Itr lo n).yld i H x H' → g x (wipe σ vs) H' fun σ2 H2 => wipe σ2 vs = wipe σ vs ∧ tt σ2 H2 fun b H3 =>
        if b = true then te σ2 H3 fun y H4 => ∃ acc, H4 D = some (.lst acc) ∧ acc.length < sizeLine ∧ Nx (upd H4 D (.lst (acc ++ [y]))) else Nx H3) := by
  have fin : ∀ {i : Nat} {H : Hp}, Same H1 H → H D = some (.lst (R i)) → ∀ y H4, R (i + 1) = R i ++ [y] → Same H H4 → ∃ acc, H4 D = some (.lst acc) ∧ acc.length < sizeLine ∧ Same H1 (upd H4 D (.lst (acc ++ [y]))) ∧ (upd H4 D (.lst (acc ++ [y]))) D = some (.lst (R (i + 1))) := fun s h => r_push (H4 := H1) hz hD s h
  have fin0 : ∀ {i : Nat} {H : Hp}, Same H1 H → H D = some (.lst (R i)) → ∀ H4, R (i + 1) = R i → Same H H4 → Same H1 H4 ∧ H4 D = some (.lst (R (i + 1))) := fun s h => r_keep s h
  exact lc_range (lo := lo) (n := n) (fun i H' => Same H1 H' ∧ H' D = some (.lst (R i))) ⟨same_upd hD, by rw [upd_same, h0]⟩  (fun i H hx h => hs i H hx h.1 (fin h.1 h.2) (fin0 h.1 h.2)) (fun H h => hd H h.1 h.2)
theorem lc_strR {z : Str} {g : TG} {tt : TT} {te : TE} {vs : List Nat} {σ : L2.St} {H1 : Hp} {D : Addr} {Qd : Hp → Prop} (R : Nat → List V) (h0 : R 0 = []) (hz : ∀ i, (R i).length ≤ 100000) (hD : H1 D = none) 
    (hs : ∀ i c H, z.cps[i]? = some c → Same H1 H → (∀ y H4, R (i + 1) = R i ++ [y] → Same H H4 → ∃ acc, H4 D = some (.lst acc) ∧ acc.length < sizeLine ∧ Same H1 (upd H4 D (.lst (acc ++ [y]))) ∧ (upd H4 D (.lst (acc ++ [y]))) D = some (.lst (R (i + 1)))) → (∀ H4, R (i + 1) = R i → Same H H4 → Same H1 H4 ∧ H4 D = some (.lst (R (i + 1)))) →
      g (.str ⟨#[c]⟩) (wipe σ vs) H fun σ2 H2 => wipe σ2 vs = wipe σ vs ∧ tt σ2 H2 fun b H3 => if b = true then te σ2 H3 fun y H4 => ∃ acc, H4 D = some (.lst acc) ∧ acc.length < sizeLine ∧ Same H1 (upd H4 D (.lst (acc ++ [y]))) ∧ (upd H4 D (.lst (acc ++ [y]))) D = some (.lst (R (i + 1))) else Same H1 H3 ∧ H3 D = some (.lst (R (i + 1))))
    (hd : ∀ H, Same H1 H → H D = some (.lst (R z.cps.size)) → Qd H) :
    ∃ W : Nat → Nat → Hp → Prop, (∃ m, W 0 m (upd H1 D (.lst []))) ∧ ∀ i m H, W i m H →
      ((Its z).stop i H ∧ Qd H) ∨ ((Its z).go i H ∧ ∃ Nx : Hp → Prop, (∀ H', Nx H' → ∃ m', m' < m ∧ W (i + 1) m' H') ∧ ∀ x H', (Its z).yld i H x H' → g x (wipe σ vs) H' fun σ2 H2 => wipe σ2 vs = wipe σ vs ∧ tt σ2 H2 fun b H3 =>
        if b = true then te σ2 H3 fun y H4 => ∃ acc, H4 D = some (.lst acc) ∧ acc.length < sizeLine ∧ Nx (upd H4 D (.lst (acc ++ [y]))) else Nx H3) := by
  have fin : ∀ {i : Nat} {H : Hp}, Same H1 H → H D = some (.lst (R i)) → ∀ y H4, R (i + 1) = R i ++ [y] → Same H H4 → ∃ acc, H4 D = some (.lst acc) ∧ acc.length < sizeLine ∧ Same H1 (upd H4 D (.lst (acc ++ [y]))) ∧ (upd H4 D (.lst (acc ++ [y]))) D = some (.lst (R (i + 1))) := fun s h => r_push (H4 := H1) hz hD s h
  have fin0 : ∀ {i : Nat} {H : Hp}, Same H1 H → H D = some (.lst (R i)) → ∀ H4, R (i + 1) = R i → Same H H4 → Same H1 H4 ∧ H4 D = some (.lst (R (i + 1))) := fun s h => r_keep s h
  exact lc_str (z := z) (fun i H' => Same H1 H' ∧ H' D = some (.lst (R i))) ⟨same_upd hD, by rw [upd_same, h0]⟩  (fun i c H hx h => hs i c H hx h.1 (fin h.1 h.2) (fin0 h.1 h.2)) (fun H h => hd H h.1 h.2)
theorem cut_whole {xs : List V} {lo hi : Option Int} (h : HT.sIx xs.length 0 lo = 0 ∧ HT.sIx xs.length xs.length hi = xs.length) : cutV xs lo hi = xs := by
  unfold cutV
  rw [h.1, h.2, List.drop_zero, Nat.sub_zero, List.take_length]
theorem slA_of {K : PySem.W.Frag} {H : Hp} {a : Addr} {xs : List V} {lo hi : Option Int} {Q : VK} (h : H a = some (.tup xs)) (k : ∀ p H', Same H H' → H' p = some (.tup (cutV xs lo hi)) → Q (.ref p) H') : rSlA K (.ref a) lo hi H Q := by
  refine ⟨a, xs, rfl, SqT.of h, fun e => ?_, fun _ p hp => k p _ (same_upd hp) upd_same⟩
  exact k a H (Same.refl _) (by rw [cut_whole e]; exact h)
theorem slA_lo {K : PySem.W.Frag} {H : Hp} {a : Addr} {xs : List V} {lo : Option Int} {σ : L2.St} {Q : VK} (h : H a = some (.tup xs)) (k : ∀ p H', Same H H' → H' p = some (.tup (cutV xs lo none)) → Q (.ref p) H') : tNoPart σ H (fun u H3 => rSlA K (.ref a) lo u H3 Q) := slA_of (hi := none) h k
theorem catA_of {K : PySem.W.Frag} {H : Hp} {a b : Addr} {xs ys : List V} {Q : VK} (ha : H a = some (.tup xs)) (hb : H b = some (.tup ys)) (hz : xs.length + ys.length ≤ sizeLine) (k : ∀ p H', Same H H' → H' p = some (.tup (xs ++ ys)) → Q (.ref p) H') : rCatA K (.ref a) (.ref b) H Q := by
  refine ⟨a, b, xs, ys, rfl, rfl, SqT.of ha, SqT.of hb, hz, fun e => ?_, fun _ e => ?_, fun _ _ p hp => k p _ (same_upd hp) upd_same⟩
  · exact k b H (Same.refl _) (by rw [e]; exact hb)
  · exact k a H (Same.refl _) (by rw [e, List.append_nil]; exact ha)
/-! ### plain data that draws leave -/
theorem RepJ.up {H : Hp} {v : V} {j : J} {n : Nat} (h : RepJ H v j n) : RepJ H v j (n + 1) := by
  induction h with
  | non => exact .non
  | bl b => exact .bl b
  | int i => exact .int i
  | str z => exact .str z
  | tup h z l _ ih => exact .tup h z l ih
  | lst h z l _ ih => exact .lst h z l ih
def Kp (a : Addr) (H : Hp) (v : V) (j : J) (n : Nat) : Prop := ∀ H', Keep a H H' → RepJ H' v j n
theorem Kp.rep {a : Addr} {H : Hp} {v : V} {j : J} {n : Nat} (h : Kp a H v j n) : RepJ H v j n := h H (Keep.refl a H)
theorem Kp.keep {a : Addr} {H H' : Hp} {v : V} {j : J} {n : Nat} (k : Keep a H H') (h : Kp a H v j n) : Kp a H' v j n := fun H2 k2 => h H2 (k.trans k2)
theorem Kp.same {a : Addr} {H H' : Hp} {v : V} {j : J} {n : Nat} (k : Same H H') (h : Kp a H v j n) : Kp a H' v j n := h.keep (Keep.same k)
theorem Kp.up {a : Addr} {H : Hp} {v : V} {j : J} {n : Nat} (h : Kp a H v j n) : Kp a H v j (n + 1) := fun H2 k2 => (h H2 k2).up
theorem Kp.tup {a p : Addr} {H : Hp} {xs : List V} {js : List J} {n : Nat} (hp : H p = some (.tup xs)) (ne : p ≠ a) (hz : xs.length ≤ 100000) (two : Two (fun x j => Kp a H x j n) xs js) : Kp a H (.ref p) (.tup js) (n + 1) := fun H2 k2 => .tup (k2 _ _ hp ne) hz two.len fun i x j hx hj => two.get2 hx hj H2 k2
theorem Kp.lst {a p : Addr} {H : Hp} {xs : List V} {js : List J} {n : Nat} (hp : H p = some (.lst xs)) (ne : p ≠ a) (hz : xs.length ≤ 100000) (two : Two (fun x j => Kp a H x j n) xs js) : Kp a H (.ref p) (.lst js) (n + 1) := fun H2 k2 => .lst (k2 _ _ hp ne) hz two.len fun i x j hx hj => two.get2 hx hj H2 k2
def Leaf (v : V) : Prop := v = .non ∨ (∃ b, v = .bl b) ∨ (∃ i, v = .int i) ∨ ∃ z, v = .str z
theorem Leaf.kp {a : Addr} {H : Hp} {v : V} (h : Leaf v) (n : Nat) : ∃ j, Kp a H v j n := by
  rcases h with rfl | ⟨b, rfl⟩ | ⟨i, rfl⟩ | ⟨z, rfl⟩
  · exact ⟨.non, fun _ _ => .non⟩
  · exact ⟨.bl b, fun _ _ => .bl b⟩
  · exact ⟨.int i, fun _ _ => .int i⟩
  · exact ⟨.str z, fun _ _ => .str z⟩
theorem kp_all {a : Addr} {H : Hp} {n : Nat} : ∀ {xs : List V}, (∀ x ∈ xs, ∃ j, Kp a H x j n) → ∃ js, Two (fun x j => Kp a H x j n) xs js
  | [], _ => ⟨[], .nil⟩
  | x :: xs, h => by
    obtain ⟨j, hj⟩ := h x (List.mem_cons_self ..)
    obtain ⟨js, hs⟩ := kp_all fun y hy => h y (List.mem_cons_of_mem _ hy)
    exact ⟨j :: js, .cons hj hs⟩
theorem kp_tup {a p : Addr} {H : Hp} {xs : List V} {n : Nat} (hs : Strm H a) (hp : H p = some (.tup xs)) (hz : xs.length ≤ 100000) (h : ∀ x ∈ xs, ∃ j, Kp a H x j n) : ∃ j, Kp a H (.ref p) j (n + 1) := by
  obtain ⟨js, two⟩ := kp_all h
  exact ⟨_, Kp.tup hp (hs.neT hp) hz two⟩
theorem kp_lst {a p : Addr} {H : Hp} {xs : List V} {n : Nat} (ne : p ≠ a) (hp : H p = some (.lst xs)) (hz : xs.length ≤ 100000) (h : ∀ x ∈ xs, ∃ j, Kp a H x j n) : ∃ j, Kp a H (.ref p) j (n + 1) := by
  obtain ⟨js, two⟩ := kp_all h
  exact ⟨_, Kp.lst hp ne hz two⟩
theorem mem_cut {xs : List V} {lo hi : Option Int} {x : V} (h : x ∈ cutV xs lo hi) : x ∈ xs := by
  unfold cutV at h
  exact List.mem_of_mem_drop (List.mem_of_mem_take h)
/-- an item that is drawn -/
theorem at_draw {xs : List V} {d : Int} {n : Nat} (hl : xs.length = n) (h0 : 0 ≤ d) (h1 : d < n) : ∃ v, atI xs d = some v ∧ v ∈ xs := by
  obtain ⟨v, hv⟩ : ∃ v, xs[d.toNat]? = some v := ⟨_, List.getElem?_eq_getElem (by omega)⟩
  exact ⟨v, at_of (j := d.toNat) (by omega) hv, List.mem_of_getElem? hv⟩
end My
namespace My
open PySem PySem.Spec PyProof.Rows L2
/-! ### what draws leave of plain values -/
def AllK (a : Addr) (H : Hp) (xs : List V) (n : Nat) : Prop := ∀ x ∈ xs, ∃ j, Kp a H x j n
theorem allk_nil {a : Addr} {H : Hp} {n : Nat} : AllK a H [] n := fun x h => (nomatch h)
theorem AllK.keep {a : Addr} {H H' : Hp} {xs : List V} {n : Nat} (h : AllK a H xs n) (k : Keep a H H') : AllK a H' xs n := fun x hx => by
  obtain ⟨j, hj⟩ := h x hx
  exact ⟨j, hj.keep k⟩
theorem AllK.same {a : Addr} {H H' : Hp} {xs : List V} {n : Nat} (h : AllK a H xs n) (s : Same H H') : AllK a H' xs n := h.keep (Keep.same s)
theorem AllK.more {a : Addr} {H H' : Hp} {xs : List V} {y : V} {n : Nat} (h : AllK a H xs n) (k : Keep a H H') (hy : ∃ j, Kp a H' y j n) : AllK a H' (xs ++ [y]) n := fun x hx => by
  rcases List.mem_append.mp hx with hx | hx
  · exact h.keep k x hx
  · rw [List.mem_singleton.mp hx]
    exact hy
theorem AllK.up {a : Addr} {H : Hp} {xs : List V} {n : Nat} (h : AllK a H xs n) : AllK a H xs (n + 1) := fun x hx => by
  obtain ⟨j, hj⟩ := h x hx
  exact ⟨j, hj.up⟩
theorem AllK.app {a : Addr} {H : Hp} {xs ys : List V} {n : Nat} (h : AllK a H xs n) (k : AllK a H ys n) : AllK a H (xs ++ ys) n := fun x hx => by
  rcases List.mem_append.mp hx with hx | hx
  · exact h x hx
  · exact k x hx
theorem AllK.cut {a : Addr} {H : Hp} {xs : List V} {n : Nat} (h : AllK a H xs n) (lo hi : Option Int) : AllK a H (cutV xs lo hi) n := fun x hx => h x (mem_cut hx)
theorem AllK.one {a : Addr} {H : Hp} {y : V} {n : Nat} (hy : ∃ j, Kp a H y j n) : AllK a H [y] n := fun x hx => by
  rw [List.mem_singleton.mp hx]
  exact hy
theorem AllK.tup {a p : Addr} {H : Hp} {xs : List V} {n : Nat} (h : AllK a H xs n) (st : Strm H a) (hp : H p = some (.tup xs)) (hz : xs.length ≤ 100000) : ∃ j, Kp a H (.ref p) j (n + 1) := kp_tup st hp hz h
theorem AllK.lst {a p : Addr} {H : Hp} {xs : List V} {n : Nat} (h : AllK a H xs n) (ne : p ≠ a) (hp : H p = some (.lst xs)) (hz : xs.length ≤ 100000) : ∃ j, Kp a H (.ref p) j (n + 1) := kp_lst ne hp hz h
theorem leaf_int (i : Int) : Leaf (.int i) := .inr (.inr (.inl ⟨i, rfl⟩))
theorem leaf_str (z : Str) : Leaf (.str z) := .inr (.inr (.inr ⟨z, rfl⟩))
theorem leaf_bl (b : Bool) : Leaf (.bl b) := .inr (.inl ⟨b, rfl⟩)
theorem leaf_non : Leaf .non := .inl rfl
theorem allk_leaf {a : Addr} {H : Hp} {xs : List V} (h : ∀ x ∈ xs, Leaf x) : AllK a H xs 0 := fun x hx => (h x hx).kp 0
theorem lf2 {x y : V} (hx : Leaf x) (hy : Leaf y) : ∀ z ∈ [x, y], Leaf z := fun z hz => by
  rcases List.mem_cons.mp hz with rfl | hz
  · exact hx
  · rw [List.mem_singleton.mp hz]
    exact hy
theorem lf1 {x : V} (hx : Leaf x) : ∀ z ∈ [x], Leaf z := fun z hz => by
  rw [List.mem_singleton.mp hz]
  exact hx
theorem lf3 {x y u : V} (hx : Leaf x) (hy : Leaf y) (hu : Leaf u) : ∀ z ∈ [x, y, u], Leaf z := fun z hz => by
  rcases List.mem_cons.mp hz with rfl | hz
  · exact hx
  · exact lf2 hy hu z hz
/-- a new object, its heap named -/
theorem newO {a T : Addr} {H : Hp} {o : HO} (st : Strm H a) (hT : H T = none) : ∃ H1, upd H T o = H1 ∧ Same H H1 ∧ Strm H1 a ∧ T ≠ a ∧ H1 T = some o := ⟨_, rfl, same_upd hT, st.same (same_upd hT), (st.ne hT).symm, upd_same⟩
end My
namespace My
open PySem PySem.Spec PyProof.Rows L2
/-! ### defs that errors leave -/
structure ClX (P : Program) (w : World) (K : PySem.W.Frag) (mg : Str → Option Value) (base : Heap) (k : Nat) (x : Str) (ps : List Str) (sp : Sp) : Prop where
  ex : ∃ (f : Addr) (fd : FuncData), FnOk P w K mg base (L2.CX P w) k f fd ps sp ∧ Binds K fd ps [] ∧ mg x = some (.ref f) ∧ PySem.W.keepIn K (.ref f) = true
theorem Df.clX {P : Program} {w : World} {K : PySem.W.Frag} {mg : Str → Option Value} {base : Heap} {x : Str} {st : Stmt} {ps : List Str} {f : Addr} {fd : FuncData} {k : Nat} {sp : Sp} (D : Df K mg x st ps f fd) (h : FnOk P w K mg base (L2.CX P w) k f fd ps sp) : ClX P w K mg base k x ps sp :=
  ⟨f, fd, h, D.b, D.g, D.F.kp⟩
theorem pe_clS {X : Cx} {W : WX} {k : Nat} {x : Str} {ps : List Str} {sp : Sp} {p pos : Pos} {e : Expr} {es : List Expr} {t : TA} (C : ClX X.prog X.w X.K X.mg X.base k x ps sp) (tk : Takes X W) (hr : Room k X.A) (hg : L2.Gl X x) (ha : PA X (e :: es) t)
    (hdb : (x == ("__debug__" : Str)) = false := by decide) (he : starEach (e :: es) X.env = (false, eval e X.env) :: starEach es X.env := by rfl) (hpl : (backTo pos (starEach es X.env)).any (·.1) = false := by rfl) :
    PE X (.Call (.Name x p) (e :: es) [] pos) (tCallS sp (WE W) t) := by
  obtain ⟨f, fd, F, b, m, kp⟩ := C.ex
  exact pe_callS F hr hg m kp b (fun σ => passAt tk σ) ha hdb he hpl
end My
namespace My
open PySem PySem.Spec PyProof.Rows L2
/-! ### a promise at a lower level serves at a higher one -/
theorem Cl.up {P : Program} {w : World} {K : PySem.W.Frag} {mg : Str → Option Value} {base : Heap} {k k' : Nat} {x : Str} {ps : List Str} {sp : Sp} (c : Cl P w K mg base k x ps sp) (h : k ≤ k') : Cl P w K mg base k' x ps sp := by
  obtain ⟨f, fd, F, b, m, kp⟩ := c.ex
  exact ⟨f, fd, ⟨F.len, fun A outer s H args us vs Q E hr => F.run A outer s H args us vs Q E (hr.mono h)⟩, b, m, kp⟩
theorem ClX.up {P : Program} {w : World} {K : PySem.W.Frag} {mg : Str → Option Value} {base : Heap} {k k' : Nat} {x : Str} {ps : List Str} {sp : Sp} (c : ClX P w K mg base k x ps sp) (h : k ≤ k') : ClX P w K mg base k' x ps sp := by
  obtain ⟨f, fd, F, b, m, kp⟩ := c.ex
  exact ⟨f, fd, ⟨F.len, fun A outer s H args us vs Q E hr => F.run A outer s H args us vs Q E (hr.mono h)⟩, b, m, kp⟩
end My
namespace My
open PySem PySem.Spec PyProof.Rows L2
def topS (i : Nat) : Stmt := PySem.Challenge.pw_nodoubt_k04_whole_simple_forms.main.body.getD i (.Pass ⟨0, 0, 0, 0⟩)
abbrev s_is_long : Stmt := topS 6
abbrev s_is_letter : Stmt := topS 7
abbrev s_check_long : Stmt := topS 8
abbrev s_sizes_within : Stmt := topS 9
abbrev s__parts_of : Stmt := topS 10
abbrev s__is_row : Stmt := topS 11
abbrev s__begins_with : Stmt := topS 12
abbrev s_simple : Stmt := topS 14
abbrev s__simple : Stmt := topS 15
abbrev s__simple_maybe : Stmt := topS 16
abbrev s__simple_many : Stmt := topS 17
abbrev s__simple_or : Stmt := topS 18
abbrev s_join_of : Stmt := topS 19
abbrev s_opened_parts : Stmt := topS 20
abbrev s__has_word : Stmt := topS 21
abbrev s_row_of : Stmt := topS 22
abbrev s__least : Stmt := topS 23
abbrev s__law_stream : Stmt := topS 25
abbrev s__law_next : Stmt := topS 26
abbrev s__law_is_integer : Stmt := topS 27
abbrev s__law_equal : Stmt := topS 28
abbrev s__law_pick : Stmt := topS 29
abbrev s__law_grown : Stmt := topS 30
abbrev s__law_expression : Stmt := topS 31
abbrev s__law_inside : Stmt := topS 32
abbrev s__law_letters : Stmt := topS 33
abbrev s__law_depth : Stmt := topS 34
abbrev s__law_count : Stmt := topS 35
abbrev s__law_joined : Stmt := topS 36
abbrev s__law_once : Stmt := topS 37
abbrev s__law_words : Stmt := topS 38
abbrev s__law_empty : Stmt := topS 39
abbrev s__law_simple : Stmt := topS 40
abbrev s_law : Stmt := topS 41
abbrev s_BadValue___init__ : Stmt := inClass (topS 2) 0
theorem boot_isinstance : bootBuiltins "isinstance" = some (.builtin "isinstance") := by decide +kernel
theorem boot_all : bootBuiltins "all" = some (.builtin "all") := by decide +kernel
theorem boot_any : bootBuiltins "any" = some (.builtin "any") := by decide +kernel
theorem boot_sum : bootBuiltins "sum" = some (.builtin "sum") := by decide +kernel
theorem boot_len : bootBuiltins "len" = some (.builtin "len") := by decide +kernel
theorem boot_abs : bootBuiltins "abs" = some (.builtin "abs") := by decide +kernel
theorem boot_min : bootBuiltins "min" = some (.builtin "min") := by decide +kernel
theorem boot_max : bootBuiltins "max" = some (.builtin "max") := by decide +kernel
theorem boot_int : bootBuiltins "int" = some (.type "int") := by decide +kernel
theorem boot_str : bootBuiltins "str" = some (.type "str") := by decide +kernel
theorem boot_bool : bootBuiltins "bool" = some (.type "bool") := by decide +kernel
theorem boot_list : bootBuiltins "list" = some (.type "list") := by decide +kernel
theorem boot_tuple : bootBuiltins "tuple" = some (.type "tuple") := by decide +kernel
/-- the built-ins' names as the module leaves them, its constants -/
structure Bt (K : PySem.W.Frag) (mg : Str → Option Value) (a_BOUNDS a_LONG_BOUNDS : Addr) (tL tM : Tok) : Prop where
  b_ValueError : mg "ValueError" = none
  b_abs : mg "abs" = none
  b_all : mg "all" = none
  b_any : mg "any" = none
  b_bool : mg "bool" = none
  b_int : mg "int" = none
  b_isinstance : mg "isinstance" = none
  b_len : mg "len" = none
  b_list : mg "list" = none
  b_max : mg "max" = none
  b_min : mg "min" = none
  b_range : mg "range" = none
  b_sorted : mg "sorted" = none
  b_str : mg "str" = none
  b_sum : mg "sum" = none
  b_super : mg "super" = none
  b_tuple : mg "tuple" = none
  g_LETTERS : mg "LETTERS" = some (.str "abcd" tL)
  g_LONG_BOUNDS : mg "LONG_BOUNDS" = some (.ref a_LONG_BOUNDS)
  tG : ∀ H : Hp, SqT K H a_LONG_BOUNDS [.int 40, .int 40, .int 200]
section
variable {P : Program} {w : World} {K : PySem.W.Frag} {mg : Str → Option Value} {base : Heap} {a_BOUNDS a_LONG_BOUNDS : Addr} {tL tM : Tok}
abbrev N__law_stream : List Str := ["script"]
theorem sc__law_stream : FnScope ["script"] ["script"] (defScope s__law_stream) := ⟨rfl, rfl, rfl, by decide +kernel, rfl, by decide +kernel, by decide +kernel⟩
theorem ok_stream {f : Addr} {fd : FuncData} (B : Bt K mg a_BOUNDS a_LONG_BOUNDS tL tM) (D : Df K mg "_law_stream" s__law_stream ["script"] f fd) : FnOk P w K mg base CX0 1 f fd ["script"] (spStream K) := by
  refine D.F.ok sc__law_stream (fun vs H Q E h => ?_) (fun cdv A outer s H vs Q E hr h => ?_)
  · obtain ⟨a, ns, rfl, _⟩ := h
    rfl
  obtain ⟨a, ns, rfl, hS, h63, q⟩ := h
  refine ⟨_, (pss_one (ps_ret (pe_lst (pa_cons (pe_callTy call_list_of rfl B.b_list boot_list (pa_cons (pv 0) pa_nil)) (pa_cons pe_int (pa_cons pe_int pa_nil)))))), ?_⟩
  refine ⟨_, rfl, a, _, rfl, .inl hS, fun l hl => ⟨by show 3 ≤ sizeLine; decide, fun p hp => ?_⟩⟩
  have n : l ≠ p := fun e => by
    rw [← e, upd_same] at hp
    cases hp
  exact q p _ ((same_upd hl).trans (same_upd hp)) ((same_upd hl).free hp) ⟨l, 0, 0, ns, upd_same, by rw [upd_ne n]; exact upd_same, n, Int.le_refl 0⟩
abbrev N__law_next : List Str := ["stream", "many", "k", "cell", "digit"]
theorem sc__law_next : FnScope ["stream", "many", "k", "cell", "digit"] ["stream", "many"] (defScope s__law_next) := ⟨rfl, rfl, rfl, by decide +kernel, rfl, by decide +kernel, by decide +kernel⟩
theorem ok_next {f : Addr} {fd : FuncData} (B : Bt K mg a_BOUNDS a_LONG_BOUNDS tL tM) (D : Df K mg "_law_next" s__law_next ["stream", "many"] f fd) : FnOk P w K mg base CX0 1 f fd ["stream", "many"] spNext := by
  refine D.F.ok sc__law_next (fun vs H Q E h => ?_) (fun cdv A outer s H vs Q E hr h => ?_)
  · obtain ⟨a, m, rfl, _⟩ := h
    rfl
  obtain ⟨a, m, rfl, hS, hm0, hm1, q⟩ := h
  obtain ⟨l, c, k, ns, h1, h2, h3, h4⟩ := id hS
  refine ⟨_, (C8.pss_cut (ps_if (pt_cmpR op_eq (pe_ix (r := rIxL K) ix_list (pv 0) pe_int (fun _ _ => rfl)) pe_int (nomark _)) (pss_cons (ps_set (i := 2) sc__law_next.nd rfl (Or.inl rfl) (pe_ix (r := rIxL K) ix_list (pv 0) pe_int (fun _ _ => rfl)))
    (pss_cons (ps_set (i := 3) sc__law_next.nd rfl (Or.inl rfl) (pe_op op_add pe_int (pv 2)))
    (C8.pss_cut (ps_if (pt_cmpR op_lt (pv 2) (pe_callB call_len rfl B.b_len boot_len (pa_cons (pe_ix (r := rIxL K) ix_list (pv 0) pe_int (fun _ _ => rfl)) pa_nil)) (nomark _)) (pss_one (ps_set (i := 3) sc__law_next.nd rfl (Or.inl rfl) (pe_callB call_abs rfl B.b_abs boot_abs (pa_cons (pe_ix (r := rIxL K) ix_list (pe_ix (r := rIxL K) ix_list (pv 0) pe_int (fun _ _ => rfl)) (pv 2) (fun _ _ => rfl)) pa_nil)))) pss_nil)
    (C8.pss_cut (ps_if (pt_cmpR op_lt (pv 3) (pe_op op_pow pe_int pe_int) (nomark _)) (pss_cons (ps_set (i := 3) sc__law_next.nd rfl (Or.inl rfl) (pe_op op_mod (pe_callTy call_int1 rfl B.b_int boot_int (pa_cons (pe_op op_add (pe_op op_add (pe_op op_mul (pv 3) pe_int) (pe_op op_mul (pv 2) pe_int)) pe_int) pa_nil)) pe_int))
    (pss_one (ps_set (i := 3) sc__law_next.nd rfl (Or.inl rfl) (pe_op op_add (pe_op op_mul (pe_op op_mod (pe_callTy call_int1 rfl B.b_int boot_int (pa_cons (pe_op op_add (pe_op op_mul (pv 3) pe_int) pe_int) pa_nil)) pe_int) pe_int) (pv 3))))) pss_nil)
    (pss_cons (ps_asg (pv 3) (pg_sub (pv 0) pe_int set_list))
    (pss_one (ps_asg (pe_op op_add (pv 2) pe_int) (pg_sub (pv 0) pe_int set_list)))))))) pss_nil)
    (pss_cons (ps_set (i := 4) sc__law_next.nd rfl (Or.inl rfl) (pe_op op_mod (pe_callTy call_int1 rfl B.b_int boot_int (pa_cons (pe_ix (r := rIxL K) ix_list (pv 0) pe_int (fun _ _ => rfl)) pa_nil)) (pv 1)))
    (pss_cons (ps_asg (pe_op op_fdiv (pe_ix (r := rIxL K) ix_list (pv 0) pe_int (fun _ _ => rfl)) (pv 1)) (pg_sub (pv 0) pe_int set_list))
    (pss_one (ps_ret (pv 4)))))), ?_⟩
  have m0 : ¬ m = 0 := by omega
  have at0 : ∀ (x y z : V), atI [x, y, z] 0 = some x := fun x y z => rfl
  have at1 : ∀ (x y z : V), atI [x, y, z] 1 = some y := fun x y z => rfl
  have at2 : ∀ (x y z : V), atI [x, y, z] 2 = some z := fun x y z => rfl
  refine ⟨fun σ' H' => ∃ kk cc c k, σ' = [some (.ref a), some (.int m), kk, cc, none] ∧ StrmW H' a l c k ns ∧ Keep a H H', ?_, ?_⟩
  · refine ⟨_, rfl, a, _, _, _, rfl, rfl, SqL.of h1, at1 _ _ _, rfl, _, rfl, ite2 (fun e => ?_) (fun e => ?_)⟩
    · -- a new cell
      refine ⟨_, rfl, a, _, _, _, rfl, rfl, SqL.of h1, at2 _ _ _, ?_⟩
      refine ⟨_, rfl, _, _, rfl, rfl, ?_⟩
      refine ⟨fun σ' H' => ∃ cc : Int, σ' = [some (.ref a), some (.int m), some (.int k), some (.int cc), none] ∧ H' = H, ?_, ?_⟩
      · refine ⟨_, rfl, _, rfl, a, _, _, _, rfl, rfl, SqL.of h1, at0 _ _ _, _, _, rfl, .inl ⟨_, SqL.of h2, rfl⟩, _, _, rfl, rfl, _, rfl, ite2 (fun e2 => ?_) (fun e2 => ?_)⟩
        · have e3 : k < ((ns.map V.int).length : Int) := of_decide_eq_true e2
          rw [List.length_map] at e3
          have hk : k.toNat < ns.length := by omega
          refine ⟨_, rfl, a, _, _, _, rfl, rfl, SqL.of h1, at0 _ _ _, _, rfl, l, _, k, .int ns[k.toNat], rfl, rfl, SqL.of h2, at_of (j := k.toNat) (by omega) (by rw [List.getElem?_map, List.getElem?_eq_getElem hk] <;> rfl), _, rfl, ?_⟩
          exact ⟨_, rfl, rfl⟩
        · exact ⟨_, rfl, rfl⟩
      · rintro σ' H' ⟨cc, rfl, rfl⟩
        refine ⟨fun σ' H'' => ∃ cc : Int, σ' = [some (.ref a), some (.int m), some (.int k), some (.int cc), none] ∧ H'' = H', ?_, ?_⟩
        · refine ⟨_, rfl, _, _, rfl, rfl, ⟨by decide, by decide, by decide⟩, _, _, rfl, rfl, _, rfl, ite2 (fun e2 => ?_) (fun e2 => ?_)⟩
          · refine ⟨_, rfl, _, _, rfl, rfl, .inr ⟨by decide, by decide⟩, _, rfl, _, _, rfl, rfl, .inr ⟨by decide, by decide⟩, _, _, rfl, rfl, _, _, rfl, rfl, .inl ⟨_, rfl, _, _, rfl, rfl, (by show (0 : Int) < 2147483647; decide), ?_⟩⟩
            refine ⟨_, rfl, _, _, rfl, rfl, .inr ⟨by decide, by decide⟩, _, _, rfl, rfl, .inl ⟨_, rfl, _, _, rfl, rfl, (by show (0 : Int) < 2147483647; decide), _, _, rfl, rfl, .inr ⟨by decide, by decide⟩, _, rfl, _, _, rfl, rfl, ?_⟩⟩
            exact ⟨_, rfl, rfl⟩
          · exact ⟨_, rfl, rfl⟩
        · rintro σ' H'' ⟨cc, rfl, rfl⟩
          refine ⟨_, rfl, _, rfl, a, _, _, _, rfl, rfl, h1, rfl, ?_⟩
          have u1 : ([.ref l, .int c, .int k] : List V).set 1 (.int cc) = [.ref l, .int cc, .int k] := rfl
          refine ⟨_, rfl, _, _, rfl, rfl, _, rfl, a, _, _, _, rfl, rfl, upd_same, rfl, ?_⟩
          exact ⟨_, _, cc, k + 1, rfl, ⟨upd_same, by rw [upd_ne h3, upd_ne h3]; exact h2, h3, by omega⟩, Keep.store.trans Keep.store⟩
    · exact ⟨_, _, c, k, rfl, ⟨h1, h2, h3, h4⟩, Keep.refl a H⟩
  · rintro σ' H' ⟨kk, cc, c, k, rfl, ⟨g1, g2, g3, g4⟩, kp⟩
    refine ⟨_, rfl, a, _, _, _, rfl, rfl, SqL.of g1, at1 _ _ _, .inl ⟨_, rfl, _, rfl, _, _, rfl, rfl, hm0, ?_⟩⟩
    refine ⟨_, rfl, a, _, _, _, rfl, rfl, SqL.of g1, at1 _ _ _, _, rfl, _, _, rfl, rfl, ⟨hm0, by omega⟩, _, rfl, a, _, _, _, rfl, rfl, g1, rfl, ?_⟩
    exact ⟨_, rfl, q _ _ (Int.emod_nonneg _ m0) (Int.emod_lt_of_pos _ hm0) ⟨kp.trans Keep.store, hS, fun l' c' k' ns' h' => by
      have e := h1.symm.trans h'.1
      cases e
      exact ⟨_, _, ns, upd_same, by rw [upd_ne g3]; exact g2, g3, g4⟩⟩⟩
abbrev N__law_pick : List Str := ["stream", "rows"]
theorem sc__law_pick : FnScope ["stream", "rows"] ["stream", "rows"] (defScope s__law_pick) := ⟨rfl, rfl, rfl, by decide +kernel, rfl, by decide +kernel, by decide +kernel⟩
theorem ok_pick {f : Addr} {fd : FuncData} (B : Bt K mg a_BOUNDS a_LONG_BOUNDS tL tM) (D : Df K mg "_law_pick" s__law_pick ["stream", "rows"] f fd) (G_law_next : Cl P w K mg base 1 "_law_next" ["stream", "many"] spNext) : FnOk P w K mg base CX0 2 f fd ["stream", "rows"] (spPick K) := by
  refine D.F.ok sc__law_pick (fun vs H Q E h => ?_) (fun cdv A outer s H vs Q E hr h => ?_)
  · obtain ⟨a, r, xs, rfl, _⟩ := h
    rfl
  obtain ⟨a, r, xs, rfl, hS, hX, hra, h0, h1, q⟩ := h
  refine ⟨_, (pss_one (ps_ret (pe_ix (r := rIxL K) ix_list (pv 1) (pe_cl G_law_next (hr.mono (by omega)) rfl (pa_cons (pv 0) (pa_cons (pe_callB call_len rfl B.b_len boot_len (pa_cons (pv 1) pa_nil)) pa_nil))) (fun _ _ => rfl)))), ?_⟩
  refine ⟨_, rfl, _, rfl, _, rfl, _, _, rfl, .inl ⟨_, hX, rfl⟩, a, _, rfl, hS, by omega, by omega, fun d H' d0 d1 g => ?_⟩
  have hd : d.toNat < xs.length := by omega
  exact ⟨r, xs, d, xs[d.toNat], rfl, rfl, g.seq hra hX, at_of (j := d.toNat) (by omega) (List.getElem?_eq_getElem hd), q _ _ (List.getElem_mem hd) g⟩
end


/-! ### the looks at a datum -/
def spLetter : Sp := fun vs H Q _ => ∃ z : Str, vs = [.str z] ∧ z.length ≤ 1000 ∧ Q (.bl (isLet z)) H
def spBegins : Sp := fun vs H Q _ => ∃ v w d, vs = [v, .str w] ∧ Rep H v d ∧ headFlat d = true ∧ Q (.bl (begins w d)) H
def spIsRow : Sp := fun vs H Q _ => ∃ v w d, vs = [.str w, v] ∧ Rep H v d ∧ rowFlat d = true ∧ ∀ H', Same H H' → Q (.bl (rowOk w d)) H'
def PartsR (H : Hp) (r : V) : Option (List D) → Prop
  | none => r = .non
  | some ys => ∃ p vs, r = .ref p ∧ H p = some (.tup vs) ∧ Two (Rep H) vs ys
def spPartsOf : Sp := fun vs H Q _ => ∃ v d, vs = [v] ∧ Rep H v d ∧ Fl d ∧ ∀ r H', Same H H' → PartsR H' r (inner d) → Q r H'
def SizeR (H : Hp) (r : V) : Option Bnd → Prop
  | none => r = .non
  | some a => ∃ q, r = .ref q ∧ H q = some (.tup [.int a.1, .int a.2.1, .int a.2.2])
def spSizes (K : PySem.W.Frag) : Sp := fun vs H Q _ => ∃ (v : V) (d : D) (b : Addr) (B : Bnd), vs = [v, .ref b] ∧ Rep H v d ∧ Fl d ∧ d.size ≤ 1000000 ∧ SqT K H b [.int B.1, .int B.2.1, .int B.2.2] ∧ ∀ r H', Same H H' → SizeR H' r (sizesOf B d) → Q r H'
def spIs (B : Bnd) : Sp := fun vs H Q _ => ∃ (v : V) (d : D), vs = [v] ∧ Rep H v d ∧ Fl d ∧ d.size ≤ 1000000 ∧ ∀ H', Same H H' → Q (.bl (sizesOf B d).isSome) H'
section
variable {P : Program} {w : World} {K : PySem.W.Frag} {mg : Str → Option Value} {base : Heap} {a_BOUNDS a_LONG_BOUNDS : Addr} {tL tM : Tok}
theorem abcd_in (c : Nat) : (c ∈ (Str.ofString "abcd").cps.toList) ↔ 97 ≤ c ∧ c ≤ 100 := by
  have e : (Str.ofString "abcd").cps.toList = [97, 98, 99, 100] := by decide +kernel
  rw [e]
  simp
  omega
theorem isLet_one (c : Nat) : isLet ⟨#[c]⟩ = decide (c ∈ (Str.ofString "abcd").cps.toList) := by
  have e : isLet ⟨#[c]⟩ = (decide (97 ≤ c) && decide (c ≤ 100)) := rfl
  rw [e, ← Bool.decide_and]
  exact decide_eq_decide.mpr (abcd_in c).symm
abbrev N_is_letter : List Str := ["value"]
theorem sc_is_letter : FnScope ["value"] ["value"] (defScope s_is_letter) := ⟨rfl, rfl, rfl, by decide +kernel, rfl, by decide +kernel, by decide +kernel⟩
theorem ok_letter {f : Addr} {fd : FuncData} (B : Bt K mg a_BOUNDS a_LONG_BOUNDS tL tM) (D : Df K mg "is_letter" s_is_letter ["value"] f fd) : FnOk P w K mg base CX0 1 f fd ["value"] spLetter := by
  refine D.F.ok sc_is_letter (fun vs H Q E h => ?_) (fun cdv A outer s H vs Q E hr h => ?_)
  · obtain ⟨z, rfl, _⟩ := h
    rfl
  obtain ⟨z, rfl, hz, q⟩ := h
  refine ⟨_, (pss_one (ps_ret (pe_and (pe_callB call_isi rfl B.b_isinstance boot_isinstance (pa_cons (pv 0) (pa_cons (pe_bltn (v := .ty "str") rfl B.b_str boot_str rfl) pa_nil))) (pe_and (pe_cmpR op_eq (pe_callB call_len rfl B.b_len boot_len (pa_cons (pv 0) pa_nil)) pe_int (nomark _)) (pe_one (pe_cmpR op_in_sign (pv 0) (pe_glob (v := .str "abcd") rfl B.g_LETTERS ⟨_, rfl⟩) rfl)))))), ?_⟩
  have T1 : TyX K H (.str z) (.type "str") := .base (.str z)
  refine ⟨_, rfl, _, _, _, _, _, rfl, .ty _, T1, kit_ty (r := true) (by decide +kernel), _, rfl, iteT ?_⟩
  refine ⟨_, rfl, _, _, rfl, ⟨Nat.le_trans hz (by decide), rfl⟩, rfl, _, rfl, ite2 (fun e => ?_) (fun e => ?_)⟩
  · have e1 : V.int (z.length : Int) = V.int 1 := of_decide_eq_true e
    have e2 : z.cps.size = 1 := by
      have e3 : (z.length : Int) = 1 := V.int.inj e1
      have e4 : z.length = z.cps.size := rfl
      omega
    obtain ⟨⟨cs⟩⟩ := z
    match cs, e2 with
    | [c], _ =>
      refine ⟨_, rfl, _, _, rfl, rfl, ?_⟩
      rw [isLet_one] at q
      exact q
  · have e2 : isLet z = false := by
      unfold isLet
      split
      · rename_i c hc
        exfalso
        apply e
        refine decide_eq_true (congrArg V.int ?_)
        have : z.cps.size = 1 := by rw [← Array.length_toList, hc] <;> rfl
        show ((z.cps.size : Nat) : Int) = 1
        omega
      · rfl
    rw [e2] at q
    exact q
abbrev N__begins_with : List Str := ["value", "word"]
theorem sc__begins_with : FnScope ["value", "word"] ["value", "word"] (defScope s__begins_with) := ⟨rfl, rfl, rfl, by decide +kernel, rfl, by decide +kernel, by decide +kernel⟩
theorem ok_begins {f : Addr} {fd : FuncData} (B : Bt K mg a_BOUNDS a_LONG_BOUNDS tL tM) (D : Df K mg "_begins_with" s__begins_with ["value", "word"] f fd) : FnOk P w K mg base CX0 1 f fd ["value", "word"] spBegins := by
  refine D.F.ok sc__begins_with (fun vs H Q E h => ?_) (fun cdv A outer s H vs Q E hr h => ?_)
  · obtain ⟨v, w, d, rfl, _⟩ := h
    rfl
  obtain ⟨v, w, d, rfl, hR, hF, q⟩ := h
  refine ⟨_, (pss_one (ps_ret (pe_and (pe_callB call_isi rfl B.b_isinstance boot_isinstance (pa_cons (pv 0) (pa_cons (pe_bltn (v := .ty "tuple") rfl B.b_tuple boot_tuple rfl) pa_nil))) (pe_and (pe_cmpR op_gt (pe_callB call_len rfl B.b_len boot_len (pa_cons (pv 0) pa_nil)) pe_int (nomark _)) (pe_one (pe_cmpR op_eq (pe_ix (r := rIxT K) ix_tup (pv 0) pe_int (fun _ _ => rfl)) (pv 1) (nomark _))))))), ?_⟩
  obtain ⟨t, ht, _, k2⟩ := hR.ty (K := K)
  refine ⟨_, rfl, _, _, _, _, _, rfl, .ty _, ht, k2, _, rfl, ite2 (fun e => ?_) (fun e => ?_)⟩
  · cases d with
    | tup ds =>
      obtain ⟨p, xs, rfl, hp, hz, hX⟩ := hR.untup
      refine ⟨_, rfl, _, _, rfl, .inr ⟨_, SqT.of hp, rfl⟩, _, _, rfl, rfl, _, rfl, ite2 (fun e3 => ?_) (fun e3 => ?_)⟩
      · have e1 : (0 : Int) < ((xs.length : Nat) : Int) := of_decide_eq_true e3
        cases hX with
        | nil => exact absurd e1 (by decide)
        | @cons x y xs ys hxy ht =>
          refine ⟨_, rfl, p, _, 0, x, rfl, rfl, SqT.of hp, at_zero, _, rfl, ?_⟩
          cases hxy with
          | @str z hz =>
            refine ⟨rfl, ?_⟩
            have q1 : decide (V.str z = V.str w) = begins w (.tup (.str z :: ys)) := by
              rw [begins_tup]
              exact decide_eq_decide.mpr ⟨fun h => by cases h; rfl, fun h => by rw [h]⟩
            rw [q1]
            exact q
          | non => exact ⟨rfl, q⟩
          | bl b => exact ⟨rfl, q⟩
          | int i => exact ⟨rfl, q⟩
          | tup _ _ _ _ => exact absurd hF Bool.false_ne_true
          | lst _ => exact absurd hF Bool.false_ne_true
      · cases hX with
        | nil => exact q
        | @cons x y xs ys hxy ht =>
          exfalso
          apply e3
          refine decide_eq_true ?_
          show (0 : Int) < ((xs.length + 1 : Nat) : Int)
          omega
    | str z => cases e
    | lst => cases e
    | flat => cases e
  · cases d with
    | tup ds => exact absurd rfl e
    | str z => exact q
    | lst => exact q
    | flat => exact q
abbrev N__is_row : List Str := ["word", "value", "part"]
theorem sc__is_row : FnScope ["word", "value", "part"] ["word", "value"] (defScope s__is_row) := ⟨rfl, rfl, rfl, by decide +kernel, rfl, by decide +kernel, by decide +kernel⟩
theorem ok_isrow {f : Addr} {fd : FuncData} (B : Bt K mg a_BOUNDS a_LONG_BOUNDS tL tM) (D : Df K mg "_is_row" s__is_row ["word", "value"] f fd) (G_begins_with : Cl P w K mg base 1 "_begins_with" ["value", "word"] spBegins) : FnOk P w K mg base CX0 2 f fd ["word", "value"] spIsRow := by
  refine D.F.ok sc__is_row (fun vs H Q E h => ?_) (fun cdv A outer s H vs Q E hr h => ?_)
  · obtain ⟨v, w, d, rfl, _⟩ := h
    rfl
  obtain ⟨v, w, d, rfl, hR, hF, q⟩ := h
  refine ⟨_, (pss_cons (ps_if (PW.pt (pw_or (pt_not (pt_val (pe_callB call_isi rfl B.b_isinstance boot_isinstance (pa_cons (pv 1) (pa_cons (pe_bltn (v := .ty "tuple") rfl B.b_tuple boot_tuple rfl) pa_nil))))) (pw_or1 (pt_cmpR op_lt (pe_callB call_len rfl B.b_len boot_len (pa_cons (pv 1) pa_nil)) pe_int (nomark _))))) (pss_one (ps_ret pe_bl)) pss_nil)
    (pss_one (ps_ret (pe_not (pe_callB (cr_any rfl) rfl B.b_any boot_any (pa_cons (pe_lc (own := [("part", 2)]) (g := gName 2) (tt := tYes) rfl sc__is_row.nd (pi_tup (pv 1)) (blkOk_by (N := N__is_row) (sc := defScope s__is_row) (by decide +kernel)) (fun _ _ _ _ _ => pg_name (i := 2) sc__is_row.nd rfl (Or.inl rfl)) (fun _ _ _ _ _ => pts_nil) (fun _ _ _ _ _ => (pe_cl G_begins_with (hr.mono (by omega)) rfl (pa_cons (pv 2) (pa_cons (pv 0) pa_nil))))) pa_nil)))))), ?_⟩
  obtain ⟨t, ht, _, k2⟩ := hR.ty (K := K)
  cases d with
  | str z => exact ⟨_, rfl, _, _, _, _, _, rfl, .ty _, ht, k2, _, rfl, iteT (iteT (q _ (Same.refl _)))⟩
  | lst => exact ⟨_, rfl, _, _, _, _, _, rfl, .ty _, ht, k2, _, rfl, iteT (iteT (q _ (Same.refl _)))⟩
  | flat => exact ⟨_, rfl, _, _, _, _, _, rfl, .ty _, ht, k2, _, rfl, iteT (iteT (q _ (Same.refl _)))⟩
  | tup ds =>
    obtain ⟨p, xs, rfl, hp, hz, hX⟩ := hR.untup
    have hl := hX.len
    refine ⟨_, rfl, _, _, _, _, _, rfl, .ty _, ht, k2, _, rfl, iteF ?_⟩
    refine ⟨_, rfl, _, _, rfl, .inr ⟨_, SqT.of hp, rfl⟩, _, _, rfl, rfl, _, rfl, ite2 (fun e => ?_) (fun e => ?_)⟩
    · have e1 : ((xs.length : Nat) : Int) < 2 := of_decide_eq_true e
      have e2 : rowOk w (.tup ds) = false := by
        rw [rowOk_tup, decide_eq_false (by omega)]
        rfl
      rw [e2] at q
      exact q _ (Same.refl _)
    · have e1 : ¬ ((xs.length : Nat) : Int) < 2 := fun h => e (decide_eq_true h)
      have e2 : rowOk w (.tup ds) = !(ds.any (begins w)) := by
        rw [rowOk_tup, decide_eq_true (by omega)]
        rfl
      rw [e2] at q
      refine ⟨_, rfl, p, rfl, ⟨_, SqT.of hp⟩, fun L hL => ?_⟩
      refine lc_tup (K := K) (a := p) (xs := xs) (fun i H' => Same H H' ∧ H' L = some (.lst (((ds.take i).map (begins w)).map V.bl))) ⟨same_upd hL, upd_same⟩ (fun i H' _ h => SqT.of (h.1 _ _ hp)) (fun i x H' hx h => ?_) (fun H' h => ?_)
      · obtain ⟨d, hd, hxd⟩ := hX.get hx
        have hd' : headFlat d = true := by
          have : ds.all headFlat = true := hF
          exact List.all_eq_true.mp this d (List.mem_of_getElem? hd)
        refine ⟨rfl, tyes ?_⟩
        refine ⟨_, rfl, _, rfl, x, w, d, rfl, hxd.pers (Pers.same h.1), hd', _, h.2, ?_, ?_, ?_⟩
        · rw [List.length_map, List.length_map, List.length_take]
          have : i < ds.length := (List.getElem?_eq_some_iff.mp hd).1
          exact Nat.lt_of_le_of_lt (Nat.min_le_right _ _) (Nat.lt_of_le_of_lt (hl ▸ hz) (by decide))
        · exact fun b o e => by rw [upd_ne (ne_of_none e hL)]; exact h.1 b o e
        · rw [upd_same, List.take_add_one, hd, List.map_append, List.map_append]
          rfl
      · obtain ⟨h1, h2⟩ := h
        rw [hl, List.take_length] at h2
        refine ⟨L, _, rfl, SqL.of h2, _, rfl, ?_⟩
        have e3 : ((ds.map (begins w)).any id) = ds.any (begins w) := by
          rw [List.any_map]
          rfl
        rw [e3]
        exact q _ h1
abbrev N__parts_of : List Str := ["value", "word", "inner"]
theorem sc__parts_of : FnScope ["value", "word", "inner"] ["value"] (defScope s__parts_of) := ⟨rfl, rfl, rfl, by decide +kernel, rfl, by decide +kernel, by decide +kernel⟩
theorem ok_parts {f : Addr} {fd : FuncData} (B : Bt K mg a_BOUNDS a_LONG_BOUNDS tL tM) (D : Df K mg "_parts_of" s__parts_of ["value"] f fd) (Gis_letter : Cl P w K mg base 1 "is_letter" ["value"] spLetter) (G_is_row : Cl P w K mg base 2 "_is_row" ["word", "value"] spIsRow) : FnOk P w K mg base CX0 3 f fd ["value"] spPartsOf := by
  refine D.F.ok sc__parts_of (fun vs H Q E h => ?_) (fun cdv A outer s H vs Q E hr h => ?_)
  · obtain ⟨v, d, rfl, _⟩ := h
    rfl
  obtain ⟨v, d, rfl, hR, hF, q⟩ := h
  refine ⟨_, (pss_cons (ps_if (pt_val (pe_callB call_isi rfl B.b_isinstance boot_isinstance (pa_cons (pv 0) (pa_cons (pe_bltn (v := .ty "str") rfl B.b_str boot_str rfl) pa_nil)))) (pss_one (ps_ret (pe_ifExp (PW.pt (pw_or (pt_cmpR op_eq (pv 0) pe_str (nomark _)) (pw_or1 (pt_val (pe_cl Gis_letter (hr.mono (by omega)) rfl (pa_cons (pv 0) pa_nil)))))) (pe_tup pa_nil) pe_non))) pss_nil)
    (pss_cons (ps_if (PW.pt (pw_or (pt_not (pt_val (pe_callB call_isi rfl B.b_isinstance boot_isinstance (pa_cons (pv 0) (pa_cons (pe_bltn (v := .ty "tuple") rfl B.b_tuple boot_tuple rfl) pa_nil))))) (pw_or (pt_cmpR op_ne (pe_callB call_len rfl B.b_len boot_len (pa_cons (pv 0) pa_nil)) pe_int (nomark _)) (pw_or1 (pt_not (pt_val (pe_callB call_isi rfl B.b_isinstance boot_isinstance (pa_cons (pe_ix (r := rIxT K) ix_tup (pv 0) pe_int (fun _ _ => rfl)) (pa_cons (pe_bltn (v := .ty "str") rfl B.b_str boot_str rfl) pa_nil))))))))) (pss_one (ps_ret pe_non)) pss_nil)
    (pss_cons (ps_asg (pv 0) (pg_tup rfl (pgs_cons (pg_name (i := 1) sc__parts_of.nd rfl (Or.inl rfl)) (pgs_cons (pg_name (i := 2) sc__parts_of.nd rfl (Or.inl rfl)) pgs_nil))))
    (pss_cons (ps_if (PW.pt (pw_or (pt_cmpR op_eq (pv 1) pe_str (nomark _)) (pw_or1 (pt_cmpR op_eq (pv 1) pe_str (nomark _))))) (pss_one (ps_ret (pe_tup (pa_cons (pv 2) pa_nil)))) pss_nil)
    (pss_cons (ps_if (PW.pt (pw_and (PW.pt (pw_or (pt_cmpR op_eq (pv 1) pe_str (nomark _)) (pw_or1 (pt_cmpR op_eq (pv 1) pe_str (nomark _))))) (pw_and1 (pt_val (pe_cl G_is_row (hr.mono (by omega)) rfl (pa_cons (pv 1) (pa_cons (pv 2) pa_nil))))))) (pss_one (ps_ret (pv 2))) pss_nil)
    (pss_one (ps_ret pe_non))))))), ?_⟩
  obtain ⟨t, ht, k1, k2⟩ := hR.ty (K := K)
  refine ⟨_, rfl, _, _, _, _, _, rfl, .ty _, ht, k1, _, rfl, ite2 (fun e => ?_) (fun e => ?_)⟩
  · cases d with
    | tup ds => cases e
    | lst => cases e
    | flat => cases e
    | str z =>
      cases hR with
      | str hz =>
        have yes : (z = sNo ∨ isLet z = true) → ∀ p, H p = none → Q (.ref p) (upd H p (.tup [])) := fun c p hp => q _ _ (same_upd hp) (by
          rw [inner, if_pos c]
          exact ⟨p, [], rfl, upd_same, .nil⟩)
        refine ⟨_, rfl, rfl, _, rfl, ite2 (fun e1 => iteT ?_) (fun e1 => ?_)⟩
        · exact ⟨by decide, yes (.inl (vstr e1))⟩
        · refine ⟨_, rfl, z, rfl, hz, _, rfl, ite2 (fun e2 => ?_) (fun e2 => ?_)⟩
          · exact ⟨by decide, yes (.inr e2)⟩
          · refine q _ _ (Same.refl _) ?_
            rw [inner, if_neg fun c => c.elim (vstrN e1) e2]
            rfl
  · cases d with
    | str z => exact absurd rfl e
    | lst => exact ⟨_, rfl, _, _, _, _, _, rfl, .ty _, ht, k2, _, rfl, iteT (iteT (q _ _ (Same.refl _) rfl))⟩
    | flat => exact ⟨_, rfl, _, _, _, _, _, rfl, .ty _, ht, k2, _, rfl, iteT (iteT (q _ _ (Same.refl _) rfl))⟩
    | tup ds =>
      obtain ⟨p, xs, rfl, hp, hz, hX⟩ := hR.untup
      have hl := hX.len
      have none_ : inner (.tup ds) = none → Q .non H := fun c => q _ _ (Same.refl _) (by rw [c]; rfl)
      refine ⟨_, rfl, _, _, _, _, _, rfl, .ty _, ht, k2, _, rfl, iteF ?_⟩
      refine ⟨_, rfl, _, _, rfl, .inr ⟨_, SqT.of hp, rfl⟩, rfl, _, rfl, ite2 (fun e => ?_) (fun e => ?_)⟩
      · have e1 : ¬ xs.length = 2 := by
          intro c
          rw [c] at e
          exact absurd e (by decide)
        refine iteT (none_ ?_)
        unfold inner
        split
        · rename_i h; cases h
        · rename_i h
          cases h
          exact absurd hl e1
        · rfl
      · have e1 : xs.length = 2 := by
          have e2 : ¬ ¬ ((xs.length : Nat) : Int) = 2 := fun c => e (by
            show (!decide (V.int ((xs.length : Nat) : Int) = V.int 2)) = true
            rw [decide_eq_false (fun z => c (V.int.inj z))]
            rfl)
          omega
        match xs, ds, hX, e1 with
        | [x, y], [dx, dy], hX, _ =>
          cases hX with
          | cons hx hX =>
          cases hX with
          | cons hy _ =>
          obtain ⟨tx, htx, kx, _⟩ := hx.ty (K := K)
          refine ⟨_, rfl, p, _, 0, x, rfl, rfl, SqT.of hp, at_zero, _, _, _, _, _, rfl, .ty _, htx, kx, _, rfl, ite2 (fun e => ?_) (fun e => ?_)⟩
          · refine none_ ?_
            cases dx with
            | str z => cases e
            | tup _ => rfl
            | lst => rfl
            | flat => rfl
          · cases dx with
            | tup _ => exact absurd rfl e
            | lst => exact absurd rfl e
            | flat => exact absurd rfl e
            | str w =>
              cases hx with
              | str hw =>
              refine ⟨_, rfl, p, _, rfl, SqT.of hp, rfl, _, _, rfl, _, _, rfl, rfl, ?_⟩
              have yes : (w = sMaybe ∨ w = sMany) → ∀ p, H p = none → Q (.ref p) (upd H p (.tup [y])) := fun c p hp => q _ _ (same_upd hp) (by
                rw [inner_pair, innerPair, if_pos c]
                exact ⟨p, [y], rfl, upd_same, .cons (hy.pers (Pers.new hp)) .nil⟩)
              refine ⟨_, rfl, rfl, _, rfl, ite2 (fun e1 => iteT ?_) (fun e1 => ?_)⟩
              · exact ⟨_, rfl, by show 1 ≤ sizeLine; decide, yes (.inl (vstr e1))⟩
              refine ⟨_, rfl, rfl, _, rfl, ite2 (fun e2 => ?_) (fun e2 => ?_)⟩
              · exact ⟨_, rfl, by show 1 ≤ sizeLine; decide, yes (.inr (vstr e2))⟩
              have no1 : ¬ (w = sMaybe ∨ w = sMany) := fun c => c.elim (vstrN e1) (vstrN e2)
              have hfl : w = sJoin ∨ w = sOr → rowFlat dy = true := fun c => by
                cases hF with
                | tup h _ => exact h _ _ rfl c
              have row : (w = sJoin ∨ w = sOr) → ∀ H', Same H H' → (rowOk w dy = true → Q y H') ∧ (¬ rowOk w dy = true → Q .non H') := fun c H' hs => ⟨fun r => q _ _ hs (by
                rw [inner_pair, innerPair, if_neg no1, if_pos ⟨c, r⟩]
                cases dy with
                | tup ds =>
                  obtain ⟨p, xs, rfl, hp, hz, hX⟩ := hy.untup
                  exact ⟨p, xs, rfl, hs _ _ hp, Rep.pers2 (Pers.same hs) hX⟩
                | str z => cases r
                | lst => cases r
                | flat => cases r), fun r => q _ _ hs (by rw [inner_pair, innerPair, if_neg no1, if_neg fun z => r z.2] <;> rfl)⟩
              refine ⟨_, rfl, rfl, _, rfl, ite2 (fun e3 => iteT ?_) (fun e3 => ?_)⟩
              · have c : w = sJoin ∨ w = sOr := .inl (vstr e3)
                refine ⟨_, rfl, _, rfl, y, w, dy, rfl, hy, hfl c, fun H' hs => ⟨_, rfl, ite2 (fun e4 => ?_) (fun e4 => ?_)⟩⟩
                · exact ⟨_, rfl, (row c H' hs).1 e4⟩
                · exact (row c H' hs).2 e4
              refine ⟨_, rfl, rfl, _, rfl, ite2 (fun e4 => ?_) (fun e4 => ?_)⟩
              · have c : w = sJoin ∨ w = sOr := .inr (vstr e4)
                refine ⟨_, rfl, _, rfl, y, w, dy, rfl, hy, hfl c, fun H' hs => ⟨_, rfl, ite2 (fun e4 => ?_) (fun e4 => ?_)⟩⟩
                · exact ⟨_, rfl, (row c H' hs).1 e4⟩
                · exact (row c H' hs).2 e4
              · refine iteF (none_ ?_)
                rw [inner_pair, innerPair, if_neg no1, if_neg fun z => z.1.elim (vstrN e3) (vstrN e4)]
def StkRep (H : Hp) (x : V) (p : D × Nat) : Prop := ∃ t y, x = .ref t ∧ H t = some (.tup [y, .int p.2]) ∧ Rep H y p.1
theorem StkRep.pers {H H' : Hp} (k : Pers H H') {x : V} {p : D × Nat} (h : StkRep H x p) : StkRep H' x p := by
  obtain ⟨t, y, rfl, h1, h2⟩ := h
  exact ⟨t, y, rfl, k.tup _ _ h1, h2.pers k⟩
theorem fl_inner {d : D} {ys : List D} (h : Fl d) (hi : inner d = some ys) : ∀ y ∈ ys, Fl y := by
  intro y hy
  unfold inner at hi
  split at hi
  · split at hi
    · cases hi; cases hy
    · cases hi
  · rename_i w z
    have hz : Fl z := by
      cases h with
      | tup _ k => exact k z (by simp)
    unfold innerPair at hi
    split at hi
    · cases hi
      rw [List.mem_singleton] at hy
      subst hy
      exact hz
    · split at hi
      · cases hz with
        | tup _ k => cases hi; exact k y hy
        | str => cases hi
        | lst => cases hi
        | flat => cases hi
      · cases hi
  · cases hi
theorem len_msr (st : List (D × Nat)) : st.length ≤ msr st := by
  induction st with
  | nil => exact Nat.le_refl _
  | cons p st ih =>
    have := size_pos p.1
    unfold msr at ih ⊢
    rw [List.map_cons, List.sum_cons, List.length_cons]
    omega
structure Loop (H : Hp) (B : Bnd) (d : D) (v : V) (b wt : Addr) (n : Nat) (st : List (D × Nat)) (a : Bnd) (σ : L2.St) (H' : Hp) : Prop where
  sl : ∃ x9 x10 x11, σ = [some v, some (.ref b), some (.int B.1), some (.int B.2.1), some (.int B.2.2), some (.int a.1), some (.int a.2.1), some (.int a.2.2), some (.ref wt), x9, x10, x11, none]
  same : Same H H'
  new : H wt = none
  stk : ∃ xs, H' wt = some (.lst xs) ∧ Two (StkRep H') xs st.reverse
  fl : ∀ p ∈ st, Fl p.1
  ms : msr st < n
  le : msr st ≤ d.size
  eq : look B n st a = sizesOf B d
abbrev N_sizes_within : List Str := ["value", "bounds", "most_places", "most_deep", "most_parts", "many_places", "deepest", "many_parts", "waiting", "part", "deep", "inner", "each"]
theorem sc_sizes_within : FnScope ["value", "bounds", "most_places", "most_deep", "most_parts", "many_places", "deepest", "many_parts", "waiting", "part", "deep", "inner", "each"] ["value", "bounds"] (defScope s_sizes_within) := ⟨rfl, rfl, rfl, by decide +kernel, rfl, by decide +kernel, by decide +kernel⟩
theorem ok_sizes {f : Addr} {fd : FuncData} (Bt : Bt K mg a_BOUNDS a_LONG_BOUNDS tL tM) (D : Df K mg "sizes_within" s_sizes_within ["value", "bounds"] f fd) (G_parts_of : Cl P w K mg base 3 "_parts_of" ["value"] spPartsOf) : FnOk P w K mg base CX0 4 f fd ["value", "bounds"] (spSizes K) := by
  refine D.F.ok sc_sizes_within (fun vs H Q E h => ?_) (fun cdv A outer s H vs Q E hr h => ?_)
  · obtain ⟨v, d, b, B, rfl, _⟩ := h
    rfl
  obtain ⟨v, d, b, ⟨b1, b2, b3⟩, rfl, hR, hF, hZ, hB, q⟩ := h
  have B := Bt
  refine ⟨_, (pss_cons (ps_asg (pv 1) (pg_tup rfl (pgs_cons (pg_name (i := 2) sc_sizes_within.nd rfl (Or.inl rfl)) (pgs_cons (pg_name (i := 3) sc_sizes_within.nd rfl (Or.inl rfl)) (pgs_cons (pg_name (i := 4) sc_sizes_within.nd rfl (Or.inl rfl)) pgs_nil)))))
    (pss_cons (ps_asg (pe_tup (pa_cons pe_int (pa_cons pe_int (pa_cons pe_int pa_nil)))) (pg_tup rfl (pgs_cons (pg_name (i := 5) sc_sizes_within.nd rfl (Or.inl rfl)) (pgs_cons (pg_name (i := 6) sc_sizes_within.nd rfl (Or.inl rfl)) (pgs_cons (pg_name (i := 7) sc_sizes_within.nd rfl (Or.inl rfl)) pgs_nil)))))
    (pss_cons (ps_set (i := 8) sc_sizes_within.nd rfl (Or.inl rfl) (pe_lst (pa_cons (pe_tup (pa_cons (pv 0) (pa_cons pe_int pa_nil))) pa_nil)))
    (pss_cons (ps_while PassesOwn.never (pt_truth (pv 8) (by intro _; rfl)) (pss_cons (ps_asg (pe_bm0 PySem.F.plainAttrs_list PySem.F.slot_list_pop PySem.F.type_list_pop mt_pop (pv 8)) (pg_tup rfl (pgs_cons (pg_name (i := 9) sc_sizes_within.nd rfl (Or.inl rfl)) (pgs_cons (pg_name (i := 10) sc_sizes_within.nd rfl (Or.inr rfl)) pgs_nil))))
    (pss_cons (ps_set (i := 11) sc_sizes_within.nd rfl (Or.inl rfl) (pe_cl G_parts_of (hr.mono (by omega)) rfl (pa_cons (pv 9) pa_nil)))
    (pss_cons (ps_if (pt_cmpR op_isN (pv 11) pe_non (nomark _)) (pss_one (ps_ret pe_non)) pss_nil)
    (C8.pss_cut (ps_if (pt_val (pe_callB call_isi rfl B.b_isinstance boot_isinstance (pa_cons (pv 9) (pa_cons (pe_bltn (v := .ty "str") rfl B.b_str boot_str rfl) pa_nil)))) (pss_one (ps_aug (i := 5) sc_sizes_within.nd rfl (Or.inl rfl) (pe_callB call_len rfl B.b_len boot_len (pa_cons (pv 9) pa_nil)) ip_add)) pss_nil)
    (pss_cons (ps_set (i := 6) sc_sizes_within.nd rfl (Or.inl rfl) (pe_callB (call_max2 rfl) rfl B.b_max boot_max (pa_cons (pv 6) (pa_cons (pv 10) pa_nil))))
    (pss_cons (ps_aug (i := 7) sc_sizes_within.nd rfl (Or.inl rfl) (pe_callB call_len rfl B.b_len boot_len (pa_cons (pv 11) pa_nil)) ip_add)
    (pss_cons (ps_if (PW.pt (pw_or (pt_cmpR op_gt (pv 5) (pv 2) (nomark _)) (pw_or (pt_cmpR op_gt (pv 6) (pv 3) (nomark _)) (pw_or1 (pt_cmpR op_gt (pv 7) (pv 4) (nomark _)))))) (pss_one (ps_ret pe_non)) pss_nil)
    (pss_one (ps_expr (pe_bm PySem.F.plainAttrs_list PySem.F.slot_list_extend PySem.F.type_list_extend mt_extend (pv 8) (pa_cons (pe_lc (own := [("each", 12)]) (g := gName 12) (tt := tYes) rfl sc_sizes_within.nd (pi_tup (pv 11)) (blkOk_by (N := N_sizes_within) (sc := defScope s_sizes_within) (by decide +kernel)) (fun _ _ _ _ _ => pg_name (i := 12) sc_sizes_within.nd rfl (Or.inl rfl)) (fun _ _ _ _ _ => pts_nil) (fun _ _ _ _ _ => (pe_tup (pa_cons (pv 12) (pa_cons (pe_op op_add (pv 10) pe_int) pa_nil))))) pa_nil))))))))))))
    (pss_one (ps_ret (pe_tup (pa_cons (pv 5) (pa_cons (pv 6) (pa_cons (pv 7) pa_nil)))))))))), ?_⟩
  refine ⟨_, rfl, b, _, rfl, hB, rfl, _, _, rfl, _, _, rfl, _, _, rfl, rfl, (by show 3 ≤ sizeLine; decide), fun t0 ht0 => ⟨t0, _, rfl, SqT.of upd_same, rfl, _, _, rfl, _, _, rfl, _, _, rfl, rfl, ?_⟩⟩
  refine ⟨_, rfl, (by show 2 ≤ sizeLine; decide), fun t ht => ⟨(by show 1 ≤ sizeLine; decide), fun wt hwt => ?_⟩⟩
  have ntw : t ≠ wt := fun e => by
    rw [← e, upd_same] at hwt
    cases hwt
  have s1 : Same H (upd (upd (upd H t0 _) t (.tup [v, .int 0])) wt (.lst [.ref t])) := (same_upd ht0).trans ((same_upd ht).trans (same_upd hwt))
  refine ⟨fun n σ' H' => ∃ st a, Loop H (b1, b2, b3) d v b wt n st a σ' H', ⟨d.size + 1, [(d, 0)], (0, 0, 1), ⟨none, none, none, rfl⟩, s1, ((same_upd ht0).trans (same_upd ht)).free hwt, ⟨_, upd_same, ?_⟩, ?_, ?_, ?_, rfl⟩, ?_⟩
  · exact .cons ⟨t, v, rfl, by rw [upd_ne ntw, upd_same] <;> rfl, hR.pers (Pers.same s1)⟩ .nil
  · intro p hp
    rw [List.mem_singleton] at hp
    subst hp
    exact hF
  · show msr [(d, 0)] < d.size + 1
    unfold msr
    simp
  · show msr [(d, 0)] ≤ d.size
    unfold msr
    simp
  rintro n σ' H' ⟨st, a, ⟨x9, x10, x11, rfl⟩, sm, new, ⟨xs, hw, hX⟩, fl, ms, le, eq⟩
  have hlX := hX.len
  refine ⟨_, rfl, _, .inl ⟨_, SqL.of hw, rfl⟩, ite2 (fun e => ?_) (fun e => ?_)⟩
  · -- a turn
    cases st with
    | nil =>
      cases xs with
      | nil => cases e
      | cons x r => cases hX
    | cons p st =>
    obtain ⟨dp, k⟩ := p
    rw [List.reverse_cons] at hX
    obtain ⟨xs', x, rfl, hX', t1, y, rfl, ht1, hy⟩ := hX.unsnoc
    cases n with
    | zero => exact absurd ms (Nat.not_lt_zero _)
    | succ n =>
    have hFd : Fl dp := fl (dp, k) (List.mem_cons_self ..)
    have nt1 : t1 ≠ wt := fun e => by
      rw [e, hw] at ht1
      cases ht1
    refine ⟨fun σ2 H2 => ∃ st a, Loop H (b1, b2, b3) d v b wt n st a σ2 H2, fun σ2 H2 h => ⟨n, Nat.lt_succ_self n, h⟩, ?_⟩
    -- part, deep = waiting.pop()
    have hpop : (xs' ++ [V.ref t1])[(xs' ++ [V.ref t1]).length - 1]? = some (.ref t1) := by
      rw [List.length_append, List.length_singleton, Nat.add_sub_cancel, List.getElem?_append_right (Nat.le_refl _), Nat.sub_self]
      rfl
    have hdrop : (xs' ++ [V.ref t1]).dropLast = xs' := List.dropLast_concat ..
    refine ⟨_, rfl, .inl ⟨rfl, _, SqL.of hw⟩, wt, _, _, rfl, rfl, hw, hpop, t1, _, rfl, SqT.of (by rw [upd_ne nt1]; exact ht1), rfl, _, _, rfl, _, _, rfl, rfl, ?_⟩
    rw [hdrop]
    have P1 : Pers H' (upd H' wt (.lst xs')) := Pers.store hw
    -- inner = _parts_of(part)
    refine ⟨_, rfl, y, dp, rfl, hy.pers P1, hFd, fun r H2 s2 hr2 => ?_⟩
    have P2 : Pers H' H2 := P1.trans (Pers.same s2)
    have hw2 : H2 wt = some (.lst xs') := s2 _ _ upd_same
    have sm2 : Same H H2 := fun b o e => s2 _ _ (by rw [upd_ne (ne_of_none e new)]; exact sm b o e)
    have lk : look (b1, b2, b3) (n + 1) ((dp, k) :: st) a = (match inner dp with | none => none | some ys => if within (b1, b2, b3) (a.1 + places1 dp, max a.2.1 k, a.2.2 + ys.length) = true then look (b1, b2, b3) n ((ys.map fun y => (y, k + 1)).reverse ++ st) (a.1 + places1 dp, max a.2.1 k, a.2.2 + ys.length) else none) := rfl
    rw [eq] at lk
    cases hi : inner dp with
    | none =>
      rw [hi] at lk hr2
      have hr3 : r = .non := hr2
      subst hr3
      refine ⟨_, rfl, rfl, _, rfl, iteT (q _ _ sm2 ?_)⟩
      rw [lk]
      rfl
    | some ys =>
      rw [hi] at lk hr2
      obtain ⟨p, vs, rfl, hp, hV⟩ := hr2
      have hl := hV.len
      have hsz := inner_size hi
      have mst : msr ((dp, k) :: st) = dp.size + msr st := by
        unfold msr
        rw [List.map_cons, List.sum_cons]
      refine ⟨_, rfl, rfl, _, rfl, iteF ?_⟩
      -- if isinstance(part, str): many_places += len(part)
      obtain ⟨ty, hty, k1, _⟩ := (hy.pers P2).ty (K := K)
      refine ⟨fun σ3 H3 => σ3 = [some v, some (.ref b), some (.int b1), some (.int b2), some (.int b3), some (.int ((a.1 + places1 dp : Nat) : Int)), some (.int a.2.1), some (.int a.2.2), some (.ref wt), some y, some (.int k), some (.ref p), none] ∧ H3 = H2, ?_, ?_⟩
      · refine ⟨_, rfl, _, _, _, _, _, rfl, .ty _, hty, k1, _, rfl, ite2 (fun e => ?_) (fun e => ?_)⟩
        · cases dp with
          | str z =>
            cases hy with
            | str hz => exact ⟨_, rfl, _, rfl, _, _, rfl, ⟨Nat.le_trans hz (by decide), rfl⟩, _, _, rfl, rfl, rfl, rfl⟩
          | tup _ => cases e
          | lst => cases e
          | flat => cases e
        · cases dp with
          | str z => exact absurd rfl e
          | tup _ => exact ⟨rfl, rfl⟩
          | lst => exact ⟨rfl, rfl⟩
          | flat => exact ⟨rfl, rfl⟩
      rintro σ3 H3 ⟨rfl, rfl⟩
      -- deepest = max(deepest, deep); many_parts += len(inner)
      refine ⟨_, rfl, _, rfl, _, _, rfl, ?_⟩
      have emax : (if (k : Int) > (a.2.1 : Int) then (k : Int) else (a.2.1 : Int)) = ((max a.2.1 k : Nat) : Int) := by
        split <;> omega
      rw [emax]
      refine ⟨_, rfl, _, rfl, _, ys.length, rfl, .inr ⟨_, SqT.of hp, hl.symm⟩, _, _, rfl, rfl, ?_⟩
      have bad : ¬ within (b1, b2, b3) (a.1 + places1 dp, max a.2.1 k, a.2.2 + ys.length) = true → Q .non H3 := fun c => q _ _ sm2 (by
        rw [lk]
        show SizeR H3 .non (if within (b1, b2, b3) (a.1 + places1 dp, max a.2.1 k, a.2.2 + ys.length) = true then _ else none)
        rw [if_neg c]
        rfl)
      refine ⟨_, rfl, _, rfl, _, _, rfl, rfl, _, rfl, ite2 (fun e1 => ?_) (fun e1 => ?_)⟩
      · refine iteT (bad fun c => ?_)
        have := (within_iff.mp c).1
        have e2 : ((b1 : Nat) : Int) < ((a.1 + places1 dp : Nat) : Int) := of_decide_eq_true e1
        have e3 : a.1 + places1 dp ≤ b1 := this
        omega
      refine ⟨_, rfl, _, rfl, _, _, rfl, rfl, _, rfl, ite2 (fun e2 => ?_) (fun e2 => ?_)⟩
      · refine iteT (bad fun c => ?_)
        have e3 : max a.2.1 k ≤ b2 := (within_iff.mp c).2.1
        have e4 : ((b2 : Nat) : Int) < ((max a.2.1 k : Nat) : Int) := of_decide_eq_true e2
        omega
      refine ⟨_, rfl, _, rfl, _, _, rfl, rfl, _, rfl, ite2 (fun e3 => ?_) (fun e3 => ?_)⟩
      · refine bad fun c => ?_
        have e4 : a.2.2 + ys.length ≤ b3 := (within_iff.mp c).2.2
        have e5 : ((b3 : Nat) : Int) < ((a.2.2 + ys.length : Nat) : Int) := of_decide_eq_true e3
        omega
      have win : within (b1, b2, b3) (a.1 + places1 dp, max a.2.1 k, a.2.2 + ys.length) = true := by
        refine within_iff.mpr ⟨?_, ?_, ?_⟩
        · have e4 : ¬ ((b1 : Nat) : Int) < ((a.1 + places1 dp : Nat) : Int) := fun h => e1 (decide_eq_true h)
          show a.1 + places1 dp ≤ b1
          omega
        · have e4 : ¬ ((b2 : Nat) : Int) < ((max a.2.1 k : Nat) : Int) := fun h => e2 (decide_eq_true h)
          show max a.2.1 k ≤ b2
          omega
        · have e4 : ¬ ((b3 : Nat) : Int) < ((a.2.2 + ys.length : Nat) : Int) := fun h => e3 (decide_eq_true h)
          show a.2.2 + ys.length ≤ b3
          omega
      have lk2 : look (b1, b2, b3) n ((ys.map fun y => (y, k + 1)).reverse ++ st) (a.1 + places1 dp, max a.2.1 k, a.2.2 + ys.length) = sizesOf (b1, b2, b3) d := by
        have lk3 : sizesOf (b1, b2, b3) d = (if within (b1, b2, b3) (a.1 + places1 dp, max a.2.1 k, a.2.2 + ys.length) = true then look (b1, b2, b3) n ((ys.map fun y => (y, k + 1)).reverse ++ st) (a.1 + places1 dp, max a.2.1 k, a.2.2 + ys.length) else none) := lk
        rw [if_pos win] at lk3
        exact lk3.symm
      have ms2 := msr_step (k := k) (st := st) hi
      have lsz : ys.length ≤ (ys.map My.D.size).sum := by
        have := len_msr (ys.map fun y => (y, k + 1))
        unfold msr at this
        rw [List.length_map, List.map_map] at this
        exact this
      -- waiting.extend([(each, deep + 1) for each in inner])
      refine ⟨_, rfl, .inl ⟨rfl, _, SqL.of hw2⟩, _, rfl, p, rfl, ⟨_, SqT.of hp⟩, fun L hL => ?_⟩
      have nL : wt ≠ L := ne_of_none hw2 hL
      refine lc_tup (K := K) (a := p) (xs := vs) (fun i H4 => Same H3 H4 ∧ ∃ zs, H4 L = some (.lst zs) ∧ Two (StkRep H4) zs ((ys.take i).map fun y => (y, k + 1))) ⟨same_upd hL, [], upd_same, .nil⟩ (fun i H4 _ h => SqT.of (h.1 _ _ hp)) (fun i x H4 hx h => ?_) (fun H4 h => ?_)
      · obtain ⟨h1, zs, h2, h3⟩ := h
        obtain ⟨dy, hd, hxd⟩ := hV.get hx
        have hlz := h3.len
        rw [List.length_map, List.length_take] at hlz
        refine ⟨rfl, tyes ⟨_, rfl, _, rfl, _, _, rfl, rfl, (by show 2 ≤ sizeLine; decide), fun t ht => ⟨zs, ?_, ?_, ?_, ?_⟩⟩⟩
        · rw [upd_ne (ne_of_none h2 ht)]
          exact h2
        · have : zs.length ≤ 1000000 := by omega
          exact Nat.lt_of_le_of_lt this (by decide)
        · intro b o e
          rw [upd_ne (ne_of_none e hL), upd_ne (ne_of_none (h1 _ _ e) ht)]
          exact h1 _ _ e
        · refine ⟨_, upd_same, ?_⟩
          have P4 : Pers H4 (upd (upd H4 t (.tup [x, .int ((k : Int) + 1)])) L (.lst (zs ++ [.ref t]))) := (Pers.new ht).trans (Pers.store (by rw [upd_ne (ne_of_none h2 ht)]; exact h2))
          rw [List.take_add_one, hd, List.map_append]
          refine (h3.mono fun _ _ => StkRep.pers P4).app (.cons ⟨t, x, rfl, ?_, hxd.pers ((Pers.same h1).trans P4)⟩ .nil)
          have nt : t ≠ L := fun e => by
            rw [e] at ht
            rw [h2] at ht
            cases ht
          rw [upd_ne nt, upd_same]
          rfl
      · obtain ⟨h1, zs, h2, h3⟩ := h
        rw [hl, List.take_length] at h3
        have hlz := h3.len
        rw [List.length_map] at hlz
        have hw4 := h1 _ _ hw2
        have hlx := hX'.len
        have lst := len_msr st
        rw [List.length_reverse] at hlx
        refine ⟨wt, L, _, _, rfl, rfl, hw4, h2, ?_, ?_⟩
        · have : xs'.length + zs.length ≤ 1000000 := by omega
          exact Nat.le_trans this (by decide)
        · have P4 : Pers H4 (upd H4 wt (.lst (xs' ++ zs))) := Pers.store hw4
          refine ⟨_, _, ⟨_, _, _, rfl⟩, fun b o e => by rw [upd_ne (ne_of_none e new)]; exact h1 _ _ (sm2 b o e), new, ⟨_, upd_same, ?_⟩, ?_, ?_, ?_, lk2⟩
          · rw [List.reverse_append, List.reverse_reverse]
            exact (hX'.mono fun _ _ => StkRep.pers (P2.trans ((Pers.same h1).trans P4))).app (h3.mono fun _ _ => StkRep.pers P4)
          · intro q hq
            rcases List.mem_append.mp hq with hq | hq
            · rw [List.mem_reverse, List.mem_map] at hq
              obtain ⟨y, hy, rfl⟩ := hq
              exact fl_inner hFd hi y hy
            · exact fl q (List.mem_cons_of_mem _ hq)
          · omega
          · omega
  · -- the end
    have e1 : st = [] := by
      cases xs with
      | nil =>
        have : st.reverse.length = 0 := hlX.symm
        rw [List.length_reverse] at this
        exact List.eq_nil_of_length_eq_zero this
      | cons x r => exact absurd rfl e
    subst e1
    have e2 : sizesOf (b1, b2, b3) d = some a := by
      cases n with
      | zero => exact absurd ms (Nat.not_lt_zero _)
      | succ n => exact eq.symm
    refine ⟨_, rfl, _, rfl, _, rfl, (by show 3 ≤ sizeLine; decide), fun p hp => q _ _ (sm.trans (same_upd hp)) ?_⟩
    rw [e2]
    exact ⟨p, rfl, upd_same⟩
abbrev N_is_long : List Str := ["value"]
theorem sc_is_long : FnScope ["value"] ["value"] (defScope s_is_long) := ⟨rfl, rfl, rfl, by decide +kernel, rfl, by decide +kernel, by decide +kernel⟩
theorem ok_islong {f : Addr} {fd : FuncData} (B : Bt K mg a_BOUNDS a_LONG_BOUNDS tL tM) (D : Df K mg "is_long" s_is_long ["value"] f fd) (Gsizes_within : Cl P w K mg base 4 "sizes_within" ["value", "bounds"] (spSizes K)) : FnOk P w K mg base CX0 5 f fd ["value"] (spIs (40, 40, 200)) := by
  refine D.F.ok sc_is_long (fun vs H Q E h => ?_) (fun cdv A outer s H vs Q E hr h => ?_)
  · obtain ⟨v, d, rfl, _⟩ := h
    rfl
  obtain ⟨v, d, rfl, hR, hF, hZ, q⟩ := h
  refine ⟨_, (pss_one (ps_ret (pe_cmpR op_notN (pe_cl Gsizes_within (hr.mono (by omega)) rfl (pa_cons (pv 0) (pa_cons (pe_glob (v := .ref a_LONG_BOUNDS) rfl B.g_LONG_BOUNDS rfl) pa_nil))) pe_non (nomark _)))), ?_⟩
  refine ⟨_, rfl, v, d, a_LONG_BOUNDS, (40, 40, 200), rfl, hR, hF, hZ, B.tG _, fun r H' hs hr2 => ⟨rfl, ?_⟩⟩
  have e : (!decide (r = V.non)) = (sizesOf (40, 40, 200) d).isSome := by
    cases h : sizesOf (40, 40, 200) d with
    | none =>
      rw [h] at hr2
      have : r = .non := hr2
      subst this
      rfl
    | some a =>
      rw [h] at hr2
      obtain ⟨p, rfl, _⟩ := hr2
      rfl
  rw [e]
  exact q _ hs
def isTextD (m : Nat) : My.D → Bool
  | .str z => decide (z.length ≤ m) && z.cps.toList.all (fun c => decide (c ∈ (Str.ofString "abcd").cps.toList))
  | _ => false
def isWord (d : My.D) : Bool := isTextD 24 d
def spIsText : Sp := fun vs H Q _ => ∃ (v : V) (d : My.D) (m : Nat), vs = [v, .int m] ∧ Rep H v d ∧ ∀ H', Same H H' → Q (.bl (isTextD m d)) H'
def spIsWord : Sp := fun vs H Q _ => ∃ (v : V) (d : My.D), vs = [v] ∧ Rep H v d ∧ ∀ H', Same H H' → Q (.bl (isWord d)) H'
end
end My
namespace My
open PySem PySem.Spec PyProof.Rows L2
def spCheck : Sp := fun vs H Q _ => ∃ (v : V) (d : My.D), vs = [v] ∧ Rep H v d ∧ Fl d ∧ d.size ≤ 1000000 ∧ (sizesOf (40, 40, 200) d).isSome = true ∧ ∀ H', Same H H' → Q .non H'
section
variable {P : Program} {w : World} {K : PySem.W.Frag} {mg : Str → Option Value} {base : Heap} {a_BOUNDS a_LONG_BOUNDS : Addr} {tL tM : Tok}
/-- what stands at an expression that is no letter -/
theorem node_of {H : Hp} {v : V} {e : E} (hok : e.ok = true) (hR : Rep H v e.toD) (hs : ¬ isStr e.toD = true) : ∃ (w : Str) (y : My.D) (p : Addr) (x : V), w.length ≤ 1000 ∧ v = .ref p ∧ H p = some (.tup [.str w, x]) ∧ Rep H x y ∧
    (((w = sMaybe ∧ ∃ k, e = .maybe k ∧ y = k.toD) ∨ (w = sMany ∧ ∃ k, e = .many k ∧ y = k.toD)) ∨ ((w = sJoin ∧ ∃ es, e = .join es ∧ 2 ≤ es.length ∧ y = .tup (es.map E.toD)) ∨ (w = sOr ∧ ∃ es, e = .alt es ∧ 2 ≤ es.length ∧ y = .tup (es.map E.toD)))) := by
  have two : ∀ (w : Str) (y : My.D), e.toD = .tup [.str w, y] → ∃ p x, w.length ≤ 1000 ∧ v = .ref p ∧ H p = some (.tup [.str w, x]) ∧ Rep H x y := fun w y c => by
    rw [c] at hR
    obtain ⟨p, xs, rfl, hp, hz, hX⟩ := hR.untup
    match xs, hX with
    | [_, x], .cons (.str h) (.cons hx .nil) => exact ⟨p, x, h, rfl, hp, hx⟩
  cases e with
  | eps => exact absurd (by rw [E.toD]; rfl) hs
  | sym c => exact absurd (by rw [E.toD]; rfl) hs
  | maybe k =>
    obtain ⟨p, x, h0, h1, h2, h3⟩ := two sMaybe k.toD (by rw [E.toD])
    exact ⟨_, _, p, x, h0, h1, h2, h3, .inl (.inl ⟨rfl, k, rfl, rfl⟩)⟩
  | many k =>
    obtain ⟨p, x, h0, h1, h2, h3⟩ := two sMany k.toD (by rw [E.toD])
    exact ⟨_, _, p, x, h0, h1, h2, h3, .inl (.inr ⟨rfl, k, rfl, rfl⟩)⟩
  | join es =>
    rw [E.ok, oks_eq] at hok
    simp only [Bool.and_eq_true, decide_eq_true_eq] at hok
    obtain ⟨p, x, h0, h1, h2, h3⟩ := two sJoin (.tup (es.map E.toD)) (by rw [E.toD, toDs_eq])
    exact ⟨_, _, p, x, h0, h1, h2, h3, .inr (.inl ⟨rfl, es, rfl, hok.1.1, rfl⟩)⟩
  | alt es =>
    rw [E.ok, oks_eq] at hok
    simp only [Bool.and_eq_true, decide_eq_true_eq] at hok
    obtain ⟨p, x, h0, h1, h2, h3⟩ := two sOr (.tup (es.map E.toD)) (by rw [E.toD, toDs_eq])
    exact ⟨_, _, p, x, h0, h1, h2, h3, .inr (.inr ⟨rfl, es, rfl, hok.1.1, rfl⟩)⟩
abbrev N_check_long : List Str := ["value"]
theorem sc_check_long : FnScope ["value"] ["value"] (defScope s_check_long) := ⟨rfl, rfl, rfl, by decide +kernel, rfl, by decide +kernel, by decide +kernel⟩
theorem ok_checklong {f : Addr} {fd : FuncData} (B : Bt K mg a_BOUNDS a_LONG_BOUNDS tL tM) (Dd : Df K mg "check_long" s_check_long ["value"] f fd) (Gis_long : Cl P w K mg base 5 "is_long" ["value"] (spIs (40, 40, 200))) : FnOk P w K mg base CX0 6 f fd ["value"] spCheck := by
  refine Dd.F.ok sc_check_long (fun vs H Q Ex h => ?_) (fun cdv A outer s H vs Q Ex hr h => ?_)
  · obtain ⟨v, d, rfl, _⟩ := h
    rfl
  obtain ⟨v, d, rfl, hR, hF, hz, hs, q⟩ := h
  refine ⟨_, (pss_one (ps_if (pt_not (pt_val (pe_cl Gis_long (hr.mono (by omega)) rfl (pa_cons (pv 0) pa_nil)))) (pss_one ps_never) pss_nil)), ?_⟩
  refine ⟨_, rfl, v, d, rfl, hR, hF, hz, fun H1 s1 => ?_⟩
  rw [hs]
  exact ⟨_, rfl, iteF (q H1 s1)⟩
end
end My
namespace My
open PySem PySem.Spec PyProof.Rows L2
def natsV (xs : List Nat) : List V := xs.map fun (i : Nat) => V.int (i : Int)
def LetAt (H : Hp) (la : Addr) (cs : List Nat) : Prop := H la = some (.lst (cs.map fun c => V.str ⟨#[c]⟩))
abbrev Rl := Nat → Nat → Prop
structure RowsAt (H0 H : Hp) (ra : Addr) (n : Nat) (F : Rl) : Prop where
  ex : ∃ ds : List Addr, H ra = some (.lst (ds.map V.ref)) ∧ ds.length = n ∧ ds.Nodup ∧ ∀ i d, ds[i]? = some d → ∃ ms : List Int, H d = some (.dK (keysD ms)) ∧ ms.Nodup ∧ ∀ x, x ∈ ms ↔ ∃ j : Nat, x = (j : Int) ∧ F i j
  bd : ∀ i j, F i j → j < 40
  dm : ∀ i j, F i j → i < n
  nw : ∀ ds : List Addr, H ra = some (.lst (ds.map V.ref)) → ∀ d ∈ ds, H0 d = none
/-- all but the two lists and the dicts is as it was -/
def Fr (la ra : Addr) (H H' : Hp) : Prop := ∀ b o, H b = some o → b ≠ la → b ≠ ra → (∀ kvs, o ≠ .dK kvs) → H' b = some o
theorem Fr.refl (la ra : Addr) (H : Hp) : Fr la ra H H := fun _ _ h _ _ _ => h
theorem Fr.trans {la ra : Addr} {H H1 H2 : Hp} (x : Fr la ra H H1) (y : Fr la ra H1 H2) : Fr la ra H H2 := fun b o h h1 h2 h3 => y b o (x b o h h1 h2 h3) h1 h2 h3
theorem Fr.same {la ra : Addr} {H H' : Hp} (s : Same H H') : Fr la ra H H' := fun b o h _ _ _ => s b o h
theorem RowsAt.eqv {H0 H : Hp} {ra : Addr} {n : Nat} {F F' : Rl} (h : RowsAt H0 H ra n F) (e : ∀ i j, F i j ↔ F' i j) : RowsAt H0 H ra n F' where
  ex := by
    obtain ⟨ds, h1, h2, h3, h4⟩ := h.ex
    refine ⟨ds, h1, h2, h3, fun i d hd => ?_⟩
    obtain ⟨ms, a, b, c⟩ := h4 i d hd
    exact ⟨ms, a, b, fun x => (c x).trans (exists_congr fun j => and_congr_right fun _ => e i j)⟩
  bd i j hf := h.bd i j ((e i j).mpr hf)
  dm i j hf := h.dm i j ((e i j).mpr hf)
  nw := h.nw
theorem RowsAt.same {H0 H H' : Hp} {ra : Addr} {n : Nat} {F : Rl} (h : RowsAt H0 H ra n F) (s : Same H H') : RowsAt H0 H' ra n F where
  ex := by
    obtain ⟨ds, h1, h2, h3, h4⟩ := h.ex
    refine ⟨ds, s _ _ h1, h2, h3, fun i d hd => ?_⟩
    obtain ⟨ms, a, b⟩ := h4 i d hd
    exact ⟨ms, s _ _ a, b⟩
  bd := h.bd
  dm := h.dm
  nw ds hds := by
    obtain ⟨ds', h1, _⟩ := h.ex
    have e := (s _ _ h1).symm.trans hds
    refine h.nw ds ?_
    rw [h1, Option.some.inj e]
theorem keysD_ne {ms : List Int} {H : Hp} {d b : Addr} (h : H d = some (.dK (keysD ms))) {o : HO} (hb : H b = some o) (n : ∀ kvs, o ≠ .dK kvs) : b ≠ d := fun e => by
  rw [e, h] at hb
  cases hb
  exact n _ rfl
/-- one more key in one row -/
theorem RowsAt.put {H0 H : Hp} {ra : Addr} {n : Nat} {F : Rl} (h : RowsAt H0 H ra n F) {i j : Nat} (hi : i < n) (hj : j < 40) : ∃ (ds : List Addr) (d : Addr) (ms : List Int), H ra = some (.lst (ds.map V.ref)) ∧ ds[i]? = some d ∧ H d = some (.dK (keysD ms)) ∧ (keysD ms).length < sizeLine ∧
    RowsAt H0 (upd H d (.dK (putK (keysD ms) (Sum.inl (j : Int) : Key) (V.bl true)))) ra n (fun a b => F a b ∨ (a = i ∧ b = j)) ∧ (∀ b o, H b = some o → (∀ kvs, o ≠ .dK kvs) → (upd H d (.dK (putK (keysD ms) (Sum.inl (j : Int) : Key) (V.bl true)))) b = some o) ∧ H0 d = none := by
  obtain ⟨ds, h1, h2, h3, h4⟩ := h.ex
  have hd : ds[i]? = some ds[i] := List.getElem?_eq_getElem (by omega)
  obtain ⟨ms, a, b, c⟩ := h4 i _ hd
  have hlen : ms.length ≤ 40 := nodup_len 40 ms b fun x hx => by
    obtain ⟨j', rfl, hf⟩ := (c x).mp hx
    have := h.bd i j' hf
    omega
  refine ⟨ds, ds[i], ms, h1, hd, a, by rw [keysD_len]; exact Nat.lt_of_le_of_lt hlen (by decide), ⟨⟨ds, ?_, h2, h3, fun i' d' hd' => ?_⟩, fun i' j' hf => ?_, fun i' j' hf => ?_, fun ds2 hds2 => ?_⟩, fun b' o hb hn => ?_, h.nw ds h1 _ (List.getElem_mem _)⟩
  · rw [upd_ne (keysD_ne a h1 fun kvs e => by cases e)]
    exact h1
  · by_cases e : i' = i
    · subst e
      have e2 : d' = ds[i'] := Option.some.inj (hd'.symm.trans hd)
      subst e2
      refine ⟨addK ms j, by rw [upd_same, putK_keys]; rfl, nodup_addK b, fun x => ?_⟩
      rw [mem_addK, c]
      constructor
      · rintro (⟨j', rfl, hf⟩ | rfl)
        · exact ⟨j', rfl, .inl hf⟩
        · exact ⟨j, rfl, .inr ⟨rfl, rfl⟩⟩
      · rintro ⟨j', rfl, hf | ⟨_, rfl⟩⟩
        · exact .inl ⟨j', rfl, hf⟩
        · exact .inr rfl
    · have n' : d' ≠ ds[i] := fun z => e (nd_ix h3 hd' (by rw [z]; exact hd))
      obtain ⟨ms', a', b', c'⟩ := h4 i' d' hd'
      refine ⟨ms', by rw [upd_ne n']; exact a', b', fun x => (c' x).trans ?_⟩
      constructor
      · rintro ⟨j', rfl, hf⟩
        exact ⟨j', rfl, .inl hf⟩
      · rintro ⟨j', rfl, hf | ⟨z, _⟩⟩
        · exact ⟨j', rfl, hf⟩
        · exact absurd z e
  · rcases hf with hf | ⟨_, rfl⟩
    · exact h.bd i' j' hf
    · exact hj
  · rcases hf with hf | ⟨rfl, _⟩
    · exact h.dm i' j' hf
    · exact hi
  · rw [upd_ne (keysD_ne a h1 fun kvs e => by cases e)] at hds2
    exact h.nw ds2 hds2
  · rw [upd_ne (keysD_ne a hb hn)]
    exact hb
def spLink (K : PySem.W.Frag) : Sp := fun vs H Q _ => ∃ (H0 : Hp) (ra f g : Addr) (n : Nat) (F : Rl) (xs ys : List Nat), vs = [.ref ra, .ref f, .ref g] ∧ RowsAt H0 H ra n F ∧ H f = some (.lst (natsV xs)) ∧ H g = some (.lst (natsV ys)) ∧ (∀ i ∈ xs, i < n) ∧ (∀ j ∈ ys, j < 40) ∧
  ∀ H', (∀ b o, H b = some o → (∀ kvs, o ≠ .dK kvs) → H' b = some o) → (∀ b o, H0 b = some o → H b = some o → H' b = some o) → RowsAt H0 H' ra n (fun i j => F i j ∨ (i ∈ xs ∧ j ∈ ys)) → Q .non H'
theorem mem_take_nat {xs : List Nat} {i z : Nat} (h : xs[i]? = some z) (x : Nat) : x ∈ xs.take (i + 1) ↔ x ∈ xs.take i ∨ x = z := by
  rw [take_snoc h, List.mem_append, List.mem_singleton]
section
variable {P : Program} {w : World} {K : PySem.W.Frag} {mg : Str → Option Value} {base : Heap} {a_BOUNDS a_LONG_BOUNDS : Addr} {tL tM : Tok}
end
end My
namespace My
open PySem PySem.Spec PyProof.Rows L2
theorem map_ref_inj : ∀ {as bs : List Addr}, as.map V.ref = bs.map V.ref → as = bs
  | [], [], _ => rfl
  | [], _ :: _, h => by cases h
  | _ :: _, [], h => by cases h
  | a :: as, b :: bs, h => by
    rw [List.map_cons, List.map_cons] at h
    have h1 := List.cons.inj h
    rw [V.ref.inj h1.1, map_ref_inj h1.2]
structure EndsR (H0 H H' : Hp) (la ra : Addr) (cs ls : List Nat) (pl : Nat) (F : Rl) (g : Gl) (f l : Addr) : Prop where
  fr : Fr la ra H H'
  le : LetAt H' la (cs ++ ls)
  k0 : Same H0 H'
  rw : RowsAt H0 H' ra (cs.length + pl) (fun i j => F i j ∨ (i, j) ∈ g.fol)
  fst : H' f = some (.lst (natsV g.fst))
  lst : H' l = some (.lst (natsV g.lst))
  f1 : f ≠ la
  f2 : f ≠ ra
  l1 : l ≠ la
  l2 : l ≠ ra
theorem EndsR.eqv {H0 H H' : Hp} {la ra : Addr} {cs ls : List Nat} {pl : Nat} {F : Rl} {g g' : Gl} {f l : Addr} (e : Eqv g g') (h : EndsR H0 H H' la ra cs ls pl F g f l) : EndsR H0 H H' la ra cs ls pl F g' f l :=
  ⟨h.fr, h.le, h.k0, h.rw.eqv fun i j => or_congr Iff.rfl (e.fol (i, j)), by rw [← e.fst]; exact h.fst, by rw [← e.lst]; exact h.lst, h.f1, h.f2, h.l1, h.l2⟩
theorem EndsR.same {H0 H H' H'' : Hp} {la ra : Addr} {cs ls : List Nat} {pl : Nat} {F : Rl} {g : Gl} {f l : Addr} (s : Same H' H'') (h : EndsR H0 H H' la ra cs ls pl F g f l) : EndsR H0 H H'' la ra cs ls pl F g f l :=
  ⟨h.fr.trans (Fr.same s), s _ _ h.le, h.k0.trans s, h.rw.same s, s _ _ h.fst, s _ _ h.lst, h.f1, h.f2, h.l1, h.l2⟩
theorem Fr.pers {la ra : Addr} {H H' : Hp} (x : Fr la ra H H') (h1 : ∃ xs, H la = some (.lst xs)) (h2 : ∃ xs, H ra = some (.lst xs)) (h3 : ∃ xs, H' la = some (.lst xs)) (h4 : ∃ xs, H' ra = some (.lst xs)) : Pers H H' := by
  obtain ⟨x1, h1⟩ := h1
  obtain ⟨x2, h2⟩ := h2
  refine ⟨fun b xs h => x b _ h (fun e => ?_) (fun e => ?_) (fun kvs e => by cases e), fun b xs h => ?_⟩
  · rw [e, h1] at h
    cases h
  · rw [e, h2] at h
    cases h
  · by_cases e1 : b = la
    · subst e1
      exact h3
    · by_cases e2 : b = ra
      · subst e2
        exact h4
      · exact ⟨xs, x b _ h e1 e2 fun kvs e => by cases e⟩
theorem RowsAt.isl {H0 H : Hp} {ra : Addr} {n : Nat} {F : Rl} (h : RowsAt H0 H ra n F) : ∃ xs, H ra = some (.lst xs) := by
  obtain ⟨ds, h1, _⟩ := h.ex
  exact ⟨_, h1⟩
theorem natsV_app (xs ys : List Nat) : natsV xs ++ natsV ys = natsV (xs ++ ys) := List.map_append.symm
theorem natsV_len (xs : List Nat) : (natsV xs).length = xs.length := List.length_map _
/-- what the three ask and promise -/
structure EndsP (H0 H : Hp) (la ra : Addr) (cs : List Nat) (F : Rl) (n : Nat) : Prop where
  ne : la ≠ ra
  le : LetAt H la cs
  rw : RowsAt H0 H ra cs.length F
  k0 : Same H0 H
  nl : H0 la = none
  nr : H0 ra = none
  sz : cs.length + n ≤ 40
def spEnds (n : Nat) : Sp := fun vs H Q _ => ∃ (H0 : Hp) (v : V) (la ra : Addr) (e : E) (cs : List Nat) (F : Rl), vs = [v, .ref la, .ref ra] ∧ e.ok = true ∧ e.depth < n ∧ Rep H v e.toD ∧ EndsP H0 H la ra cs F e.places ∧
  ∀ (t f l : Addr) (H' : Hp), H' t = some (.tup [.bl (gl e cs.length).nul, .ref f, .ref l]) → EndsR H0 H H' la ra cs e.letters e.places F (gl e cs.length) f l → Q (.ref t) H'
def spLeaf : Sp := fun vs H Q _ => ∃ (H0 : Hp) (z : Str) (la ra : Addr) (e : E) (cs : List Nat) (F : Rl), vs = [.str z, .ref la, .ref ra] ∧ ((z = sNo ∧ e = .eps) ∨ ∃ c, z = ⟨#[c]⟩ ∧ e = .sym c) ∧ EndsP H0 H la ra cs F e.places ∧
  ∀ (t f l : Addr) (H' : Hp), H' t = some (.tup [.bl (gl e cs.length).nul, .ref f, .ref l]) → EndsR H0 H H' la ra cs e.letters e.places F (gl e cs.length) f l → Q (.ref t) H'
def spRow (n : Nat) (G : List E → Nat → Gl) : Sp := fun vs H Q _ => ∃ (H0 : Hp) (p la ra : Addr) (xs : List V) (es : List E) (cs : List Nat) (F : Rl), vs = [.ref p, .ref la, .ref ra] ∧ H p = some (.tup xs) ∧ Two (Rep H) xs (es.map E.toD) ∧ (∀ e ∈ es, e.ok = true ∧ e.depth < n) ∧ EndsP H0 H la ra cs F (E.places.placess es) ∧
  ∀ (t f l : Addr) (H' : Hp), H' t = some (.tup [.bl (G es cs.length).nul, .ref f, .ref l]) → EndsR H0 H H' la ra cs (E.letters.letterss es) (E.places.placess es) F (G es cs.length) f l → Q (.ref t) H'
section
variable {P : Program} {w : World} {K : PySem.W.Frag} {mg : Str → Option Value} {base : Heap} {a_BOUNDS a_LONG_BOUNDS : Addr} {tL tM : Tok}
end
end My
namespace My
open PySem PySem.Spec PyProof.Rows L2
theorem placess_snoc (es : List E) (e : E) : E.places.placess (es ++ [e]) = E.places.placess es + e.places := by
  rw [placess_eq, placess_eq, List.map_append, List.sum_append]
  show _ + (e.places + 0) = _
  omega
theorem placess_take (es : List E) (i : Nat) : E.places.placess (es.take i) ≤ E.places.placess es := by
  have e := List.take_append_drop i es
  have : E.places.placess es = E.places.placess (es.take i) + E.places.placess (es.drop i) := by
    rw [placess_eq, placess_eq, placess_eq, ← List.sum_append, ← List.map_append, e]
  omega
section
variable {P : Program} {w : World} {K : PySem.W.Frag} {mg : Str → Option Value} {base : Heap} {a_BOUNDS a_LONG_BOUNDS : Addr} {tL tM : Tok}
end
end My
namespace My
open PySem PySem.Spec PyProof.Rows L2
theorem boot_sorted : bootBuiltins "sorted" = some (.builtin "sorted") := by decide +kernel
def rTupOf (K : PySem.W.Frag) : List V → Hp → VK → Prop := fun xs H Q => ∃ p ys, xs = [.ref p] ∧ ((SqL K H p ys ∧ ∀ l, H l = none → Q (.ref l) (upd H l (.tup ys))) ∨ (SqT K H p ys ∧ Q (.ref p) H))
theorem call_tuple_ofK {X : Cx} : CallR X (.type "tuple") (rTupOf X.K) := call_tuple_of
theorem len_toList2 (z : Str) : z.cps.toList.length = z.length := Array.length_toList
theorem join_flat2 (ys : List Str) : (Txt.join sNo ys).cps.toList = (ys.map fun z => z.cps.toList).flatten := by
  rw [TL.join_eq]
  have e := TL.tl_join sNo ys
  have j : ∀ ps : List (List Nat), TL.joinL [] ps = ps.flatten := by
    intro ps
    induction ps with
    | nil => rfl
    | cons p ps ih =>
      cases ps with
      | nil => show p = (p :: []).flatten; simp
      | cons q r =>
        show p ++ ([] ++ TL.joinL [] (q :: r)) = _
        rw [ih]
        rfl
  have n : TL.tl sNo = [] := by decide +kernel
  rw [n, j] at e
  exact e
/-! ### a class's calls -/
structure Ck (P : Program) (w : World) (K : PySem.W.Frag) (mg : Str → Option Value) (base : Heap) (k : Nat) (x : Str) (ps : List Str) (sp : Sp) (C : Addr) : Prop where
  ex : ∃ (f : Addr) (fd : FuncData), Mk K C f ∧ FnOk P w K mg base CX0 k f fd ps sp ∧ Binds K fd ps [] ∧ mg x = some (.ref C)
theorem pe_mk {X : Cx} {k : Nat} {x : Str} {ps : List Str} {sp : Sp} {C : Addr} {p pos : Pos} {e : Expr} {es : List Expr} {t : TA} (h : Ck X.prog X.w X.K X.mg X.base k x ps sp C) (hr : Room (k + 1) X.A) (hg : L2.Gl X x) (ha : PA X (e :: es) t)
    (hdb : (x == ("__debug__" : Str)) = false := by decide) (he : starEach (e :: es) X.env = (false, eval e X.env) :: starEach es X.env := by rfl) (hpl : (backTo pos (starEach es X.env)).any (·.1) = false := by rfl) :
    PE X (.Call (.Name x p) (e :: es) [] pos) (tMake C sp [] E0 t) := by
  obtain ⟨f, fd, M, F, b, m⟩ := h.ex
  exact pe_make M F hr hg m b .nil pass0 ha hdb he hpl
/-! ### the object that tells the steps -/
theorem n1 : ¬ (("letters" : Str) = "empty") := by decide +kernel
theorem n2 : ¬ (("letters" : Str) = "first") := by decide +kernel
theorem n3 : ¬ (("letters" : Str) = "last") := by decide +kernel
theorem n4 : ¬ (("letters" : Str) = "following") := by decide +kernel
theorem n5 : ¬ (("empty" : Str) = "first") := by decide +kernel
theorem n6 : ¬ (("empty" : Str) = "last") := by decide +kernel
theorem n7 : ¬ (("empty" : Str) = "following") := by decide +kernel
theorem n8 : ¬ (("first" : Str) = "last") := by decide +kernel
theorem n9 : ¬ (("first" : Str) = "following") := by decide +kernel
theorem n0 : ¬ (("last" : Str) = "following") := by decide +kernel
def stF (z b f l o : V) : List (Str × V) := putF "following" o (putF "last" l (putF "first" f (putF "empty" b (putF "letters" z []))))
theorem stF_letters (z b f l o : V) : (stF z b f l o).lookup ("letters" : Str) = some z := by
  unfold stF
  rw [lookup_putF, if_neg n4, lookup_putF, if_neg n3, lookup_putF, if_neg n2, lookup_putF, if_neg n1, lookup_putF, if_pos rfl]
theorem stF_first (z b f l o : V) : (stF z b f l o).lookup ("first" : Str) = some f := by
  unfold stF
  rw [lookup_putF, if_neg n9, lookup_putF, if_neg n8, lookup_putF, if_pos rfl]
theorem stF_last (z b f l o : V) : (stF z b f l o).lookup ("last" : Str) = some l := by
  unfold stF
  rw [lookup_putF, if_neg n0, lookup_putF, if_pos rfl]
theorem stF_following (z b f l o : V) : (stF z b f l o).lookup ("following" : Str) = some o := by
  unfold stF
  rw [lookup_putF, if_pos rfl]
theorem putF_len (f : Str) (v : V) : ∀ fs : List (Str × V), (putF f v fs).length ≤ fs.length + 1
  | [] => Nat.le_refl _
  | (g, x) :: r => by
    have := putF_len f v r
    unfold putF
    split
    · exact Nat.le_succ _
    · rw [List.length_cons, List.length_cons]; omega
structure StTxt (K : PySem.W.Frag) (C : Addr) : Prop where
  cl : Cls K C
  a1 : NoAttr K C "letters"
  a2 : NoAttr K C "empty"
  a3 : NoAttr K C "first"
  a4 : NoAttr K C "last"
  a5 : NoAttr K C "following"
def spInit (C : Addr) : Sp := fun vs H Q _ => ∃ (p dx : Addr) (z b f l o : V), vs = [.ref p, z, b, f, l, o] ∧ H p = some (.ins C dx []) ∧ ∀ H' : Hp, H' p = some (.ins C dx (stF z b f l o)) → (∀ q u, H q = some u → q ≠ p → H' q = some u) → Q .non H'
def folAt (e : E) (i : Nat) : List Nat := (List.range e.places).filter fun j => decide ((i, j) ∈ (gl e 0).fol)
structure StepsAt (C : Addr) (H : Hp) (p : Addr) (e : E) : Prop where
  ex : ∃ (dx f l o : Addr) (z : Str) (ts : List V), H p = some (.ins C dx (stF (.str z) (.bl (gl e 0).nul) (.ref f) (.ref l) (.ref o))) ∧ z.cps.toList = e.letters ∧ H f = some (.tup (natsV (gl e 0).fst)) ∧ H l = some (.tup (natsV (gl e 0).lst)) ∧ H o = some (.lst ts) ∧ ts.length = e.places ∧
    ∀ i t, ts[i]? = some t → ∃ q, t = .ref q ∧ H q = some (.tup (natsV (folAt e i)))
theorem StepsAt.same {C : Addr} {H H' : Hp} {p : Addr} {e : E} (s : Same H H') (h : StepsAt C H p e) : StepsAt C H' p e := by
  obtain ⟨dx, f, l, o, z, ts, h1, h2, h3, h4, h5, h6, h7⟩ := h.ex
  refine ⟨dx, f, l, o, z, ts, s _ _ h1, h2, s _ _ h3, s _ _ h4, s _ _ h5, h6, fun i t ht => ?_⟩
  obtain ⟨q, a, b⟩ := h7 i t ht
  exact ⟨q, a, s _ _ b⟩
def spSteps (C : Addr) : Sp := fun vs H Q _ => ∃ (v : V) (e : E), vs = [v] ∧ e.ok = true ∧ e.depth < 42 ∧ e.places ≤ 40 ∧ Rep H v e.toD ∧ ∀ p H', Same H H' → StepsAt C H' p e → Q (.ref p) H'
/-- strictly rising lists with the same members -/
theorem eq_of_rise : ∀ (a b : List Int), a.Pairwise (· < ·) → b.Pairwise (· < ·) → (∀ x, x ∈ a ↔ x ∈ b) → a = b
  | [], [], _, _, _ => rfl
  | [], y :: b, _, _, h => by have := (h y).mpr (List.mem_cons_self ..); cases this
  | x :: a, [], _, _, h => by have := (h x).mp (List.mem_cons_self ..); cases this
  | x :: a, y :: b, ha, hb, h => by
    rw [List.pairwise_cons] at ha hb
    have e : x = y := by
      rcases List.mem_cons.mp ((h x).mp (List.mem_cons_self ..)) with c | c
      · exact c
      · rcases List.mem_cons.mp ((h y).mpr (List.mem_cons_self ..)) with d | d
        · exact d.symm
        · have := hb.1 x c
          have := ha.1 y d
          omega
    subst e
    rw [eq_of_rise a b ha.2 hb.2 fun z => ?_]
    constructor
    · intro hz
      rcases List.mem_cons.mp ((h z).mp (List.mem_cons_of_mem _ hz)) with c | c
      · have := ha.1 z hz
        omega
      · exact c
    · intro hz
      rcases List.mem_cons.mp ((h z).mpr (List.mem_cons_of_mem _ hz)) with c | c
      · have := hb.1 z hz
        omega
      · exact c
theorem rise_of {ks ys : List Int} (h : ys.Perm ks) (s : ys.Pairwise (· ≤ ·)) (n : ks.Nodup) : ys.Pairwise (· < ·) := by
  have n' : ys.Nodup := h.nodup_iff.mpr n
  exact (s.and n').imp fun ⟨a, b⟩ => by omega
theorem fol_rise (e : E) (i : Nat) : ((folAt e i).map fun (j : Nat) => (j : Int)).Pairwise (· < ·) := by
  rw [List.pairwise_map]
  unfold folAt
  refine (List.pairwise_lt_range.filter _).imp fun h => by omega
theorem natsV_int (xs : List Nat) : natsV xs = (xs.map fun (j : Nat) => (j : Int)).map V.int := by
  unfold natsV
  rw [List.map_map]
  rfl
section
variable {P : Program} {w : World} {K : PySem.W.Frag} {mg : Str → Option Value} {base : Heap} {a_BOUNDS a_LONG_BOUNDS : Addr} {tL tM : Tok}
end
end My
namespace My
open PySem PySem.Spec PyProof.Rows L2
theorem boot_set : bootBuiltins "set" = some (.type "set") := by decide +kernel
theorem boot_sorted2 : bootBuiltins "sorted" = some (.builtin "sorted") := by decide +kernel
def spBehind (C : Addr) : Sp := fun vs H Q _ => ∃ (p r : Addr) (e : E) (xs : List Nat), vs = [.ref p, .ref r] ∧ StepsAt C H p e ∧ e.places ≤ 40 ∧ H r = some (.tup (natsV xs)) ∧ (∀ x ∈ xs, x < e.places) ∧ xs.length ≤ 1000 ∧
  ∀ (q : Addr) (ys : List Nat) H', Same H H' → H q = none → H' q = some (.lst (natsV ys)) → ys.Pairwise (· < ·) → (∀ y, y ∈ ys ↔ ∃ x ∈ xs, (x, y) ∈ (gl e 0).fol) → Q (.ref q) H'
/-- a set of places, told by a list of its members -/
def SetM (w : World) (H : Hp) (S : Addr) (ms : List Int) : Prop := ∃ (Sf : Int → Bool) (n : Nat), H S = some (SetO w S Sf n) ∧ (∀ k, Sf k = decide (k ∈ ms)) ∧ n = ms.length ∧ ms.Nodup
theorem mem_fol (e : E) (x y : Nat) : y ∈ folAt e x ↔ (x, y) ∈ (gl e 0).fol := by
  unfold folAt
  rw [List.mem_filter, List.mem_range, decide_eq_true_eq]
  exact ⟨fun h => h.2, fun h => ⟨by have := ((gl_within e 0).fol x y h).2; omega, h⟩⟩
theorem natsV_getB {xs : List Nat} {m : Nat} {y : V} (h : (natsV xs)[m]? = some y) : ∃ i, xs[m]? = some i ∧ y = .int (i : Int) := by
  unfold natsV at h
  rw [List.getElem?_map] at h
  obtain ⟨i, h1, rfl⟩ := Option.map_eq_some_iff.mp h
  exact ⟨i, h1, rfl⟩
section
variable {P : Program} {w : World} {K : PySem.W.Frag} {mg : Str → Option Value} {base : Heap} {a_BOUNDS a_LONG_BOUNDS : Addr} {tL tM : Tok}
end
end My
namespace My
open PySem PySem.Spec PyProof.Rows L2
theorem for_strB {z : Str} {g : TG} {tb : TS} {D : Ends} {σ : L2.St} {H : Hp} (Pv : Nat → L2.St → Hp → Prop) (h0 : Pv 0 σ H)
    (hs : ∀ i c σ H, z.cps[i]? = some c → Pv i σ H → g (.str ⟨#[c]⟩) σ H fun σ2 H2 => tb { D with nx := Pv (i + 1), ct := Pv (i + 1), bk := D.nx } σ2 H2) (hd : ∀ σ H, Pv z.cps.size σ H → D.nx σ H) :
    ∃ W : Nat → Nat → L2.St → Hp → Prop, (∃ m, W 0 m σ H) ∧ ∀ i m σ H, W i m σ H →
      ((Its z).stop i H ∧ D.nx σ H) ∨ ((Its z).go i H ∧ ∃ N : L2.St → Hp → Prop, (∀ σ' H', N σ' H' → ∃ m', m' < m ∧ W (i + 1) m' σ' H') ∧ ∀ x H', (Its z).yld i H x H' → g x σ H' fun σ2 H2 => tb { D with nx := N, ct := N, bk := D.nx } σ2 H2) := by
  refine ⟨fun i m σ H => m = z.cps.size - i ∧ i ≤ z.cps.size ∧ Pv i σ H, ⟨z.cps.size, by simp, Nat.zero_le _, h0⟩, ?_⟩
  rintro i m σ H ⟨rfl, hi, p⟩
  by_cases hlt : i < z.cps.size
  · refine .inr ⟨hlt, Pv (i + 1), fun σ' H' p' => ⟨z.cps.size - (i + 1), by omega, rfl, hlt, p'⟩, fun x H' y => ?_⟩
    obtain ⟨rfl, c, hc, rfl⟩ := y
    exact hs i c σ _ hc p
  · have e : i = z.cps.size := by omega
    subst e
    exact .inl ⟨Nat.le_refl _, hd σ H p⟩
theorem pe_fldB {X : Cx} {K : PySem.W.Frag} {o : Expr} {f : Str} {pos : Pos} {ta : TE} (hK : X.K = K) (ha : PE X o ta) (hb : attributeBase o f X.env (eval o X.env) = eval o X.env) : PE X (.Attribute o f pos) (tFld K ta f) := by
  subst hK
  exact pe_fld ha hb
/-- over a list or a tuple -/
def iSeqB (K : PySem.W.Frag) (tl : TE) : L2.TI := fun σ H R => iList K tl σ H R ∨ iTup K tl σ H R
theorem pi_seqB {X : Cx} {tg l : Expr} {tl : TE} (hl : PE X l tl) : PI X tg l (iSeqB X.K tl) := by
  refine ⟨fun pins s σ H R I h => ?_⟩
  rcases h with h | h
  · exact (pi_list hl).run pins s σ H R I h
  · exact (pi_tup hl).run pins s σ H R I h
/-! ### the candidates of a word -/
def behindL (e : E) (row : List Nat) : List Nat := (List.range e.places).filter fun y => row.any fun x => decide ((x, y) ∈ (gl e 0).fol)
def rowL (e : E) (near : List Nat) (c : Nat) : List Nat := near.filter fun i => decide (e.letters[i]? = some c)
def cstep (e : E) (s : List Nat × List (List Nat)) (c : Nat) : List Nat × List (List Nat) := (behindL e (rowL e s.1 c), s.2 ++ [rowL e s.1 c])
def cRun (e : E) (ws : List Nat) : List Nat × List (List Nat) := ws.foldl (cstep e) ((gl e 0).fst, [])
theorem cRun_snoc (e : E) (ws : List Nat) (c : Nat) : cRun e (ws ++ [c]) = cstep e (cRun e ws) c := by
  unfold cRun
  rw [List.foldl_append]
  rfl
def spCands (C : Addr) : Sp := fun vs H Q _ => ∃ (p : Addr) (z : Str) (e : E), vs = [.ref p, .str z] ∧ StepsAt C H p e ∧ e.places ≤ 40 ∧ z.length ≤ 1000 ∧
  ∀ (q : Addr) (ts : List V) H', Same H H' → H q = none → H' q = some (.lst ts) → Two (fun t row => ∃ a, t = V.ref a ∧ H' a = some (.tup (natsV row))) ts (cRun e z.cps.toList).2 → Q (.ref q) H'
theorem eq_of_riseN {a b : List Nat} (ha : a.Pairwise (· < ·)) (hb : b.Pairwise (· < ·)) (h : ∀ x, x ∈ a ↔ x ∈ b) : a = b := by
  have up : ∀ l : List Nat, l.Pairwise (· < ·) → (l.map fun (j : Nat) => (j : Int)).Pairwise (· < ·) := fun l hl => by
    rw [List.pairwise_map]
    exact hl.imp fun h => by omega
  have e := eq_of_rise _ _ (up a ha) (up b hb) fun x => by
    constructor
    · intro hx
      obtain ⟨y, hy, rfl⟩ := List.mem_map.mp hx
      exact List.mem_map.mpr ⟨y, (h y).mp hy, rfl⟩
    · intro hx
      obtain ⟨y, hy, rfl⟩ := List.mem_map.mp hx
      exact List.mem_map.mpr ⟨y, (h y).mpr hy, rfl⟩
  have e2 := congrArg (List.map Int.toNat) e
  rw [List.map_map, List.map_map] at e2
  have e3 : (Int.toNat ∘ fun (j : Nat) => (j : Int)) = id := funext fun j => rfl
  rw [e3, List.map_id, List.map_id] at e2
  exact e2
theorem behindL_mem (e : E) (row : List Nat) (y : Nat) : y ∈ behindL e row ↔ ∃ x ∈ row, (x, y) ∈ (gl e 0).fol := by
  unfold behindL
  rw [List.mem_filter, List.mem_range, List.any_eq_true]
  constructor
  · rintro ⟨_, x, hx, hf⟩
    exact ⟨x, hx, of_decide_eq_true hf⟩
  · rintro ⟨x, hx, hf⟩
    exact ⟨by have := ((gl_within e 0).fol x y hf).2; omega, x, hx, decide_eq_true hf⟩
section
variable {P : Program} {w : World} {K : PySem.W.Frag} {mg : Str → Option Value} {base : Heap} {a_BOUNDS a_LONG_BOUNDS : Addr} {tL tM : Tok}
end
end My
namespace My
open PySem PySem.Spec PyProof.Rows L2
/-- the word is right: all of it is read and the last place is a last place -/
def rightL (e : E) (ws : List Nat) : Bool := match (cRun e ws).2.getLast? with
  | none => (gl e 0).nul
  | some row => row.any fun x => decide (x ∈ (gl e 0).lst)
theorem stF_empty (z b f l o : V) : (stF z b f l o).lookup ("empty" : Str) = some b := by
  unfold stF
  rw [lookup_putF, if_neg n7, lookup_putF, if_neg n6, lookup_putF, if_neg n5, lookup_putF, if_pos rfl]
theorem at_last {xs : List V} {v : V} (h : xs.getLast? = some v) : atI xs (-1) = some v := by
  rw [List.getLast?_eq_getElem?] at h
  have hl := (List.getElem?_eq_some_iff.mp h).1
  have e : ixN xs.length (-1) = some (xs.length - 1) := by
    unfold ixN
    have h1 : ¬ (0 : Int) ≤ -1 := by omega
    rw [if_neg h1]
    have h2 : -(xs.length : Int) ≤ -1 := by omega
    rw [if_pos h2]
    congr 1
    omega
  unfold atI
  rw [e]
  exact h
theorem Two.last {α β : Type} {R : α → β → Prop} {as : List α} {bs : List β} (h : Two R as bs) {b : β} (hb : bs.getLast? = some b) : ∃ a, as.getLast? = some a ∧ R a b := by
  rw [List.getLast?_eq_getElem?] at hb
  have hl := (List.getElem?_eq_some_iff.mp hb).1
  have he := h.len
  obtain ⟨a, ha⟩ : ∃ a, as[as.length - 1]? = some a := ⟨_, List.getElem?_eq_getElem (by omega)⟩
  refine ⟨a, by rw [List.getLast?_eq_getElem?]; exact ha, h.get2 ha (by rw [he]; exact hb)⟩
theorem in_nats (x : Nat) (ys : List Nat) : inV (V.int (x : Int)) (natsV ys) = decide (x ∈ ys) := by
  unfold inV natsV
  rw [Bool.eq_iff_iff]
  simp [eqV]
  constructor
  · rintro ⟨y, hy, h⟩
    have e : y = x := by omega
    rw [← e]
    exact hy
  · exact fun h => ⟨x, h, rfl⟩
theorem near_len (e : E) (ws : List Nat) : (cRun e ws).1.length ≤ e.places := by
  rcases List.eq_nil_or_concat ws with h | ⟨vs, c, h⟩
  · rw [h]
    exact (gl_len e 0).fst
  · rw [h, List.concat_eq_append, cRun_snoc]
    show (behindL e _).length ≤ _
    unfold behindL
    exact Nat.le_trans (List.length_filter_le _ _) (by rw [List.length_range]; exact Nat.le_refl _)
theorem flat_nats (ys : List Nat) : (natsV ys).all flatV = true := by
  rw [List.all_eq_true]
  intro v hv
  obtain ⟨i, _, rfl⟩ := List.mem_map.mp hv
  rfl
def rInB (K : PySem.W.Frag) : R2 := rIn K false
theorem op_in_seqB {X : Cx} {K : PySem.W.Frag} (hK : X.K = K) : OpR X (compareOp .In) (rInB K) := by
  subst hK
  exact op_in_seq
def spRight (C : Addr) : Sp := fun vs H Q _ => ∃ (p : Addr) (z : Str) (e : E), vs = [.ref p, .str z] ∧ StepsAt C H p e ∧ e.places ≤ 40 ∧ z.length ≤ 1000 ∧
  ∀ H', Same H H' → Q (.bl (rightL e z.cps.toList)) H'
section
variable {P : Program} {w : World} {K : PySem.W.Frag} {mg : Str → Option Value} {base : Heap} {a_BOUNDS a_LONG_BOUNDS : Addr} {tL tM : Tok}
end
end My
namespace My
open PySem PySem.Spec PyProof.Rows L2
/-! ### a word is read right exactly if it is right -/
theorem chn_snoc {F : List (Nat × Nat)} {y : Nat} : ∀ (us : List Nat) (x : Nat), chn F x (us ++ [y]) ↔ chn F x us ∧ (lastN x us, y) ∈ F
  | [], x => by
    show ((x, y) ∈ F ∧ True) ↔ True ∧ (x, y) ∈ F
    rw [and_true, true_and]
  | u :: us, x => by
    show ((x, u) ∈ F ∧ chn F u (us ++ [y])) ↔ ((x, u) ∈ F ∧ chn F u us) ∧ (lastN u us, y) ∈ F
    rw [chn_snoc us u, and_assoc]
theorem lastN_snoc (us : List Nat) (x y : Nat) : lastN x (us ++ [y]) = y := lastN_app us x y []
/-- a way that begins at a first place, with these letters, up to a place -/
def Way (e : E) (ws : List Nat) (x : Nat) : Prop := ∃ p ps, p ∈ (gl e 0).fst ∧ chn (gl e 0).fol p ps ∧ lastN p ps = x ∧ (p :: ps).map (fun p => e.letters[p]?) = ws.map some
theorem row_mem (e : E) (near : List Nat) (c x : Nat) : x ∈ rowL e near c ↔ x ∈ near ∧ e.letters[x]? = some c := by
  unfold rowL
  rw [List.mem_filter]
  exact and_congr Iff.rfl ⟨of_decide_eq_true, decide_eq_true⟩
theorem map_snoc_inv {ps : List Nat} {f : Nat → Option Nat} {ws : List Nat} {c : Nat} (h : ps.map f = (ws ++ [c]).map some) : ∃ qs x, ps = qs ++ [x] ∧ qs.map f = ws.map some ∧ f x = some c := by
  rw [List.map_append] at h
  obtain ⟨p1, p2, rfl, h1, h2⟩ := map_split h
  have hl : p2.length = 1 := by
    have := congrArg List.length h2
    rw [List.length_map] at this
    exact this
  obtain ⟨x, rfl⟩ := List.length_eq_one_iff.mp hl
  exact ⟨p1, x, rfl, h1, (List.cons.inj h2).1⟩
/-- the places that come next -/
def Near (e : E) (ws : List Nat) (y : Nat) : Prop := (ws = [] ∧ y ∈ (gl e 0).fst) ∨ (ws ≠ [] ∧ ∃ x, Way e ws x ∧ (x, y) ∈ (gl e 0).fol)
theorem way_snoc (e : E) (ws : List Nat) (c x : Nat) : Way e (ws ++ [c]) x ↔ Near e ws x ∧ e.letters[x]? = some c := by
  constructor
  · rintro ⟨p, ps, h1, h2, h3, h4⟩
    obtain ⟨qs, y, e1, e2, e3⟩ := map_snoc_inv h4
    cases qs with
    | nil =>
      have e1' : p :: ps = [y] := e1
      cases e1'
      have h3' : p = x := h3
      subst h3'
      have : ws = [] := by
        cases ws with
        | nil => rfl
        | cons a b => cases e2
      exact ⟨.inl ⟨this, h1⟩, e3⟩
    | cons q qs =>
      have e1' : p :: ps = q :: (qs ++ [y]) := e1
      obtain ⟨rfl, rfl⟩ := List.cons.inj e1'
      rw [lastN_snoc] at h3
      subst h3
      rw [chn_snoc] at h2
      refine ⟨.inr ⟨fun c => ?_, _, ⟨p, qs, h1, h2.1, rfl, e2⟩, h2.2⟩, e3⟩
      subst c
      cases e2
  · rintro ⟨⟨rfl, h⟩ | ⟨hn, y, ⟨p, ps, h1, h2, h3, h4⟩, hy⟩, hc⟩
    · refine ⟨x, [], h, trivial, rfl, ?_⟩
      show [e.letters[x]?] = [some c]
      rw [hc]
    · subst h3
      refine ⟨p, ps ++ [x], h1, chn_snoc ps p |>.mpr ⟨h2, hy⟩, lastN_snoc ps p x, ?_⟩
      show (p :: ps ++ [x]).map _ = _
      rw [List.map_append, h4, List.map_append, List.map_singleton, List.map_singleton, hc]
theorem near_iff (e : E) (ws : List Nat) : ∀ y, y ∈ (cRun e ws).1 ↔ Near e ws y := by
  rcases List.eq_nil_or_concat ws with h | ⟨vs, c, h⟩
  · subst h
    intro y
    show y ∈ (gl e 0).fst ↔ _
    unfold Near
    simp
  · rw [List.concat_eq_append] at h
    subst h
    intro y
    have ih := near_iff e vs
    rw [cRun_snoc]
    show y ∈ behindL e (rowL e (cRun e vs).1 c) ↔ _
    rw [behindL_mem]
    constructor
    · rintro ⟨x, hx, hf⟩
      rw [row_mem, ih] at hx
      exact .inr ⟨by simp, x, (way_snoc e vs c x).mpr hx, hf⟩
    · rintro (⟨h, _⟩ | ⟨_, x, hw, hf⟩)
      · simp at h
      · refine ⟨x, ?_, hf⟩
        rw [row_mem, ih]
        exact (way_snoc e vs c x).mp hw
termination_by ws.length
decreasing_by
  subst h
  simp
theorem right_iff (e : E) (ws : List Nat) : rightL e ws = true ↔ MW e ws := by
  rw [mw_acc]
  rcases List.eq_nil_or_concat ws with h | ⟨vs, c, h⟩
  · subst h
    show (gl e 0).nul = true ↔ _
    constructor
    · intro h
      exact ⟨[], h, rfl⟩
    · rintro ⟨ps, h, e⟩
      cases ps with
      | nil => exact h
      | cons x xs => cases e
  · rw [List.concat_eq_append] at h
    subst h
    have hl : (cRun e (vs ++ [c])).2.getLast? = some (rowL e (cRun e vs).1 c) := by
      rw [cRun_snoc]
      show ((cRun e vs).2 ++ [rowL e (cRun e vs).1 c]).getLast? = _
      simp
    unfold rightL
    rw [hl]
    show (rowL e (cRun e vs).1 c).any _ = true ↔ _
    rw [List.any_eq_true]
    constructor
    · rintro ⟨x, hx, hd⟩
      rw [row_mem, near_iff] at hx
      obtain ⟨p, ps, h1, h2, h3, h4⟩ := (way_snoc e vs c x).mpr hx
      refine ⟨p :: ps, ⟨h1, h2, ?_⟩, h4⟩
      rw [h3]
      exact of_decide_eq_true hd
    · rintro ⟨ps, ha, hm⟩
      cases ps with
      | nil => simp at hm
      | cons p ps =>
        refine ⟨lastN p ps, ?_, decide_eq_true ha.2.2⟩
        rw [row_mem, near_iff]
        exact (way_snoc e vs c _).mp ⟨p, ps, ha.1, ha.2.1, rfl, hm⟩
end My
namespace My
open PySem PySem.Spec PyProof.Rows L2
/-! ### drawn expressions -/
def outS : Option Bool → Str
  | none => sNo
  | some false => sJoin
  | some true => sOr
def rowOf : E → Option Bool
  | .join _ => some false
  | .alt _ => some true
  | _ => none
/-- the parts that a drawn expression of such a depth has at most -/
def pb : Nat → Nat
  | 0 => 1
  | n + 1 => 1 + 3 * pb n
theorem pb_mono {m n : Nat} (h : m ≤ n) : pb m ≤ pb n := by
  induction h with
  | refl => exact Nat.le_refl _
  | step _ ih =>
    refine Nat.le_trans ih ?_
    rw [pb]
    omega
structure Drawn (e : E) (room deep : Nat) (outer : Option Bool) : Prop where
  ok : e.ok = true
  pl : e.places ≤ room
  dp : e.depth ≤ deep
  pt : e.parts ≤ 1 + 3 * (room * deep) ∧ e.parts ≤ 4 + 3 * (room * (deep - 1))
  hd : rowOf e = none ∨ rowOf e ≠ outer
def Lets (z : Str) : Prop := 0 < z.length ∧ z.length ≤ 100 ∧ ∀ c ∈ z.cps.toList, 97 ≤ c ∧ c ≤ 100
def spGrown (n : Nat) : Sp := fun vs H Q _ => ∃ (a : Addr) (z : Str) (room deep : Nat) (outer : Option Bool), vs = [.ref a, .str z, .int room, .int deep, .str (outS outer)] ∧ Strm H a ∧ Lets z ∧ room ≤ 100 ∧ deep < n ∧
  ∀ v H' e, Go a H H' → Rep H' v e.toD → Drawn e room deep outer → Q v H'
section
variable {P : Program} {w : World} {K : PySem.W.Frag} {mg : Str → Option Value} {base : Heap} {a_BOUNDS a_LONG_BOUNDS : Addr} {tL tM : Tok}
theorem none_left {f : Addr} {fd : FuncData} {k : Nat} {ps : List Str} {sp : Sp} (no : ∀ vs H Q E, ¬ sp vs H Q E) : FnOk P w K mg base CX0 k f fd ps sp :=
  ⟨fun vs H Q E h => absurd h (no vs H Q E), fun A outer s H args us vs Q E _ _ _ _ h => absurd h (no vs H Q E)⟩
theorem mem_signs {v : V} {z : Str} (h : v ∈ signsV z) : ∃ c ∈ z.cps.toList, v = .str ⟨#[c]⟩ := by
  unfold signsV at h
  rw [List.mem_map] at h
  obtain ⟨c, hc, rfl⟩ := h
  exact ⟨c, hc, rfl⟩
theorem rep_sym {H : Hp} (c : Nat) : Rep H (.str ⟨#[c]⟩) (E.sym c).toD := by
  rw [E.toD]
  exact .str (by show 1 ≤ 1000; decide)
theorem rep_eps {H : Hp} : Rep H (.str sNo) E.eps.toD := by
  rw [E.toD]
  exact .str (by rw [lE]; decide)
theorem drawn_sym {c room deep : Nat} {outer : Option Bool} (h : 97 ≤ c ∧ c ≤ 100) (hr : 0 < room) : Drawn (.sym c) room deep outer where
  ok := by
    rw [E.ok, decide_eq_true h.1, decide_eq_true h.2]
    rfl
  pl := by rw [E.places]; omega
  dp := by rw [E.depth]; omega
  pt := by rw [E.parts]; exact ⟨Nat.le_add_right _ _, by omega⟩
  hd := .inl rfl
theorem drawn_eps {room deep : Nat} {outer : Option Bool} : Drawn .eps room deep outer where
  ok := rfl
  pl := by rw [E.places]; omega
  dp := by rw [E.depth]; omega
  pt := by rw [E.parts]; exact ⟨Nat.le_add_right _ _, by omega⟩
  hd := .inl rfl
theorem signs_len (z : Str) : (signsV z).length = z.length := by
  unfold signsV
  rw [List.length_map, Array.length_toList]
  rfl
theorem outS_inj {x y : Option Bool} (h : outS x = outS y) : x = y := by
  match x, y, h with
  | none, none, _ => rfl
  | none, some false, h => exact absurd h.symm je
  | none, some true, h => exact absurd h.symm oe
  | some false, none, h => exact absurd h je
  | some true, none, h => exact absurd h oe
  | some false, some false, _ => rfl
  | some true, some true, _ => rfl
  | some false, some true, h => exact absurd h jo
  | some true, some false, h => exact absurd h.symm jo
theorem any_no {α : Type} {p : α → Bool} {xs : List α} (h : ∀ x ∈ xs, p x = false) : xs.any p = false := by
  rw [List.any_eq_false]
  intro x hx c
  rw [h x hx] at c
  cases c
theorem sum_le_mul {es : List E} {f : E → Nat} {n : Nat} (h : ∀ e ∈ es, f e ≤ n) : (es.map f).sum ≤ es.length * n := by
  induction es with
  | nil => exact Nat.zero_le _
  | cons e es ih =>
    have h1 := h e (List.mem_cons_self ..)
    have h2 := ih fun x hx => h x (List.mem_cons_of_mem _ hx)
    rw [List.map_cons, List.sum_cons, List.length_cons, Nat.succ_mul]
    omega
abbrev N__law_grown : List Str := ["stream", "letters", "room", "deep", "outer", "pick", "word", "many", "left", "parts", "k", "share"]
theorem sc__law_grown : FnScope ["stream", "letters", "room", "deep", "outer", "pick", "word", "many", "left", "parts", "k", "share"] ["stream", "letters", "room", "deep", "outer"] (defScope s__law_grown) := ⟨rfl, rfl, rfl, by decide +kernel, rfl, by decide +kernel, by decide +kernel⟩
theorem ok_grown_step {f : Addr} {fd : FuncData} (B : Bt K mg a_BOUNDS a_LONG_BOUNDS tL tM) (Dd : Df K mg "_law_grown" s__law_grown ["stream", "letters", "room", "deep", "outer"] f fd) (G_law_next : Cl P w K mg base 1 "_law_next" ["stream", "many"] spNext) (G_law_pick : Cl P w K mg base 2 "_law_pick" ["stream", "rows"] (spPick K)) (n : Nat)
    (G_law_grown : Cl P w K mg base (n + 2) "_law_grown" ["stream", "letters", "room", "deep", "outer"] (spGrown n)) : FnOk P w K mg base CX0 (n + 3) f fd ["stream", "letters", "room", "deep", "outer"] (spGrown (n + 1)) := by
  refine Dd.F.ok sc__law_grown (fun vs H Q Ex h => ?_) (fun cdv A outer s H vs Q Ex hr h => ?_)
  · obtain ⟨a, z, room, deep, outer, rfl, _⟩ := h
    rfl
  obtain ⟨a, z, room, deep, outer, rfl, hS, hz, hroom, hdeep, q⟩ := h
  refine ⟨_, (pss_cons (ps_set (i := 5) sc__law_grown.nd rfl (Or.inl rfl) (pe_cl G_law_next (hr.mono (by omega)) rfl (pa_cons (pv 0) (pa_cons pe_int pa_nil))))
    (pss_cons (ps_if (PW.pt (pw_or (pt_cmpR op_eq (pv 3) pe_int (nomark _)) (pw_or (pt_cmpR op_eq (pv 2) pe_int (nomark _)) (pw_or1 (pt_cmpR op_eq (pv 5) pe_int (nomark _)))))) (pss_one (ps_ret (pe_ifExp (PW.pt (pw_and (pt_cmpR op_gt (pv 2) pe_int (nomark _)) (pw_and1 (pt_cmpR op_gt (pe_cl G_law_next (hr.mono (by omega)) rfl (pa_cons (pv 0) (pa_cons pe_int pa_nil))) pe_int (nomark _))))) (pe_cl G_law_pick (hr.mono (by omega)) rfl (pa_cons (pv 0) (pa_cons (pe_callTy (call_list_text rfl) rfl B.b_list boot_list (pa_cons (pv 1) pa_nil)) pa_nil))) pe_str))) pss_nil)
    (pss_cons (ps_if (pt_cmpR op_lt (pv 5) pe_int (nomark _)) (pss_one (ps_ret (pe_tup (pa_cons (pe_cl G_law_pick (hr.mono (by omega)) rfl (pa_cons (pv 0) (pa_cons (pe_lst (pa_cons pe_str (pa_cons pe_str pa_nil))) pa_nil))) (pa_cons (pe_cl G_law_grown (hr.mono (by omega)) rfl (pa_cons (pv 0) (pa_cons (pv 1) (pa_cons (pv 2) (pa_cons (pe_op op_sub (pv 3) pe_int) (pa_cons pe_str pa_nil)))))) pa_nil))))) pss_nil)
    (pss_cons (ps_set (i := 6) sc__law_grown.nd rfl (Or.inl rfl) (pe_cl G_law_pick (hr.mono (by omega)) rfl (pa_cons (pv 0) (pa_cons (pe_lst (pa_cons pe_str (pa_cons pe_str pa_nil))) pa_nil))))
    (C8.pss_cut (ps_if (pt_cmpR op_eq (pv 6) (pv 4) (nomark _)) (pss_one (ps_set (i := 6) sc__law_grown.nd rfl (Or.inl rfl) (pe_ifExp (pt_cmpR op_eq (pv 4) pe_str (nomark _)) pe_str pe_str))) pss_nil)
    (pss_cons (ps_set (i := 7) sc__law_grown.nd rfl (Or.inl rfl) (pe_op op_add pe_int (pe_cl G_law_next (hr.mono (by omega)) rfl (pa_cons (pv 0) (pa_cons pe_int pa_nil)))))
    (pss_cons (ps_set (i := 8) sc__law_grown.nd rfl (Or.inl rfl) (pv 2))
    (pss_cons (ps_set (i := 9) sc__law_grown.nd rfl (Or.inl rfl) (pe_lst pa_nil))
    (pss_cons (ps_for PassesOwn.never rfl (pi_range1 rfl B.b_range (pa_cons (pv 7) pa_nil)) (pg_name (i := 10) sc__law_grown.nd rfl (Or.inl rfl)) (C8.pss_cut (ps_set (i := 11) sc__law_grown.nd rfl (Or.inl rfl) (pe_ifExp (pt_cmpR op_eq (pe_op op_add (pv 10) pe_int) (pv 7) (nomark _)) (pv 8) (pe_cl G_law_next (hr.mono (by omega)) rfl (pa_cons (pv 0) (pa_cons (pe_op op_add (pv 8) pe_int) pa_nil)))))
    (pss_cons (ps_set (i := 8) sc__law_grown.nd rfl (Or.inl rfl) (pe_op op_sub (pv 8) (pv 11)))
    (pss_one (ps_expr (pe_bm PySem.F.plainAttrs_list PySem.F.slot_list_append PySem.F.type_list_append mt_append (pv 9) (pa_cons (pe_cl G_law_grown (hr.mono (by omega)) rfl (pa_cons (pv 0) (pa_cons (pv 1) (pa_cons (pv 11) (pa_cons (pe_op op_sub (pv 3) pe_int) (pa_cons (pv 6) pa_nil)))))) pa_nil)))))))
    (pss_one (ps_ret (pe_tup (pa_cons (pv 6) (pa_cons (pe_callTy call_tuple_of rfl B.b_tuple boot_tuple (pa_cons (pv 9) pa_nil)) pa_nil)))))))))))))), ?_⟩
  -- pick
  refine ⟨_, rfl, a, 8, rfl, hS, by decide, by decide, fun d H1 d0 d1 g1 => ?_⟩
  refine ⟨_, rfl, rfl, _, rfl, ite2 (fun e1 => iteT ?_) (fun e1 => ⟨_, rfl, rfl, _, rfl, ite2 (fun e2 => iteT ?_) (fun e2 => ⟨_, rfl, rfl, _, rfl, ite2 (fun e3 => ?_) (fun e3 => ?rest)⟩)⟩)⟩
  case rest =>
    have hd1 : ¬ (deep : Int) = 0 := fun c => e1 (decide_eq_true (congrArg V.int c))
    obtain ⟨m, rfl⟩ : ∃ m, deep = m + 1 := ⟨deep - 1, by omega⟩
    have em : ((m + 1 : Nat) : Int) - 1 = (m : Int) := by omega
    have hr1 : 1 ≤ room := by
      have : ¬ (room : Int) = 0 := fun c => e2 (decide_eq_true (congrArg V.int c))
      omega
    have hrm : room * (m + 1) = room * m + room := Nat.mul_succ room m
    refine ⟨_, rfl, _, _, rfl, rfl, _, rfl, ite2 (fun e4 => ?_) (fun e4 => ?_)⟩
    · -- a maybe, a many
      refine ⟨_, rfl, (by show 2 ≤ sizeLine; decide), fun l hl => ⟨a, l, _, rfl, g1.st.same (same_upd hl), SqL.of upd_same, (g1.st.ne hl).symm, by decide, by decide, fun v H2 hv g2 => ?_⟩⟩
      refine ⟨_, rfl, _, rfl, _, rfl, _, rfl, _, _, rfl, rfl, a, z, room, m, none, congrArg (fun i => [V.ref a, V.str z, V.int room, V.int i, V.str sNo]) em, g2.st, hz, hroom, by omega, fun v' H3 e' g3 r3 d3 => ⟨(by show 2 ≤ sizeLine; decide), fun p hp => ?_⟩⟩
      have G : Go a H (upd H3 p (.tup [v, v'])) := g1.trans ((Go.new g1.st hl).trans (g2.trans (g3.trans (Go.new g3.st hp))))
      have hP : v = .str sMaybe ∨ v = .str sMany := by simpa using hv
      have pbm : e'.parts + 1 ≤ 1 + 3 * (room * (m + 1)) ∧ e'.parts + 1 ≤ 4 + 3 * (room * (m + 1 - 1)) := by
        have := d3.pt.1
        rw [hrm, Nat.add_sub_cancel]
        omega
      have R : Rep (upd H3 p (.tup [v, v'])) v' e'.toD := r3.pers (Pers.new hp)
      rcases hP with rfl | rfl
      · refine q _ _ (.maybe e') G ?_ ⟨by rw [E.ok]; exact d3.ok, by rw [E.places]; exact d3.pl, by rw [E.depth]; exact Nat.succ_le_succ d3.dp, by rw [E.parts]; exact pbm, .inl rfl⟩
        rw [E.toD]
        exact Rep.tup2 upd_same (by show 2 ≤ 100000; decide) (.cons (.str (by rw [lM]; decide)) (.cons R .nil))
      · refine q _ _ (.many e') G ?_ ⟨by rw [E.ok]; exact d3.ok, by rw [E.places]; exact d3.pl, by rw [E.depth]; exact Nat.succ_le_succ d3.dp, by rw [E.parts]; exact pbm, .inl rfl⟩
        rw [E.toD]
        exact Rep.tup2 upd_same (by show 2 ≤ 100000; decide) (.cons (.str (by rw [lN]; decide)) (.cons R .nil))
    · -- a row
      refine ⟨_, rfl, (by show 2 ≤ sizeLine; decide), fun l hl => ⟨a, l, _, rfl, g1.st.same (same_upd hl), SqL.of upd_same, (g1.st.ne hl).symm, by decide, by decide, fun v H2 hv g2 => ?_⟩⟩
      have G2 : Go a H H2 := g1.trans ((Go.new g1.st hl).trans g2)
      obtain ⟨wb, rfl⟩ : ∃ wb : Bool, v = .str (outS (some wb)) := by
        have hP : v = .str sJoin ∨ v = .str sOr := by simpa using hv
        rcases hP with rfl | rfl
        · exact ⟨false, rfl⟩
        · exact ⟨true, rfl⟩
      refine ⟨fun σ' H' => ∃ wb : Bool, some wb ≠ outer ∧ σ' = [some (.ref a), some (.str z), some (.int room), some (.int ((m + 1 : Nat) : Int)), some (.str (outS outer)), some (.int d), some (.str (outS (some wb))), none, none, none, none, none] ∧ H' = H2, ?_, ?_⟩
      · refine ⟨_, rfl, _, rfl, rfl, _, rfl, ite2 (fun e5 => ?_) (fun e5 => ?_)⟩
        · have e6 := outS_inj (vstr e5)
          subst e6
          refine ⟨_, rfl, rfl, _, rfl, ite2 (fun e7 => ?_) (fun e7 => ?_)⟩
          · have e8 : outS (some wb) = outS (some false) := vstr e7
            have e9 := outS_inj e8
            refine ⟨true, fun c => ?_, rfl, rfl⟩
            rw [← c] at e9
            cases e9
          · have e8 : ¬ outS (some wb) = outS (some false) := vstrN e7
            refine ⟨false, fun c => ?_, rfl, rfl⟩
            rw [c] at e8
            exact e8 rfl
        · exact ⟨wb, fun c => vstrN e5 (congrArg outS c), rfl, rfl⟩
      · clear wb hv
        rintro σ' H' ⟨wb, hwo, rfl, rfl⟩
        refine ⟨_, rfl, a, 2, rfl, G2.st, by decide, by decide, fun d2 H3 d20 d21 g3 => ⟨_, _, rfl, rfl, _, rfl, (by show 0 ≤ sizeLine; decide), fun pl hpl => ?_⟩⟩
        have hpa : pl ≠ a := (g3.st.ne hpl).symm
        have G3 : Go a H (upd H3 pl (.lst [])) := G2.trans (g3.trans (Go.new g3.st hpl))
        have nH : H pl = none := by
          cases c : H pl with
          | none => rfl
          | some o =>
            have := (G2.trans g3).keep _ _ c hpa
            rw [hpl] at this
            cases this
        refine ⟨_, rfl, _, rfl, by omega, by omega, for_range (lo := 0) (n := (2 + d2).toNat) (fun i σ' H' => ∃ (left : Int) (xs : List V) (es : List E) (kk sh : Option V), σ' = [some (.ref a), some (.str z), some (.int room), some (.int ((m + 1 : Nat) : Int)), some (.str (outS outer)), some (.int d), some (.str (outS (some wb))), some (.int (2 + d2)), some (.int left), some (.ref pl), kk, sh] ∧ Go a H H' ∧ H' pl = some (.lst xs) ∧ Two (Rep H') xs (es.map E.toD) ∧ es.length = i ∧ 0 ≤ left ∧ left + ((es.map E.places).sum : Nat) ≤ room ∧ (((es.map E.parts).sum : Nat) : Int) + 3 * (left * m) ≤ es.length + 3 * ((room : Int) * m) ∧ ∀ e ∈ es, e.ok = true ∧ e.depth ≤ m ∧ (rowOf e = none ∨ rowOf e ≠ some wb)) ?_ ?_ ?_⟩
        · exact ⟨room, [], [], none, none, rfl, G3, upd_same, .nil, rfl, by omega, by show (room : Int) + ((0 : Nat) : Int) ≤ room; omega, by show ((0 : Nat) : Int) + 3 * ((room : Int) * m) ≤ ((0 : Nat) : Int) + 3 * ((room : Int) * m); omega, fun e he => by cases he⟩
        · rintro i σ' H4 hi ⟨left, xs, es, kk, sh, rfl, G4, h4, hX, hle, hl0, hls, hpp, hdr⟩
          refine ⟨fun σ' H' => ∃ share : Int, 0 ≤ share ∧ share ≤ left ∧ σ' = [some (.ref a), some (.str z), some (.int room), some (.int ((m + 1 : Nat) : Int)), some (.str (outS outer)), some (.int d), some (.str (outS (some wb))), some (.int (2 + d2)), some (.int left), some (.ref pl), some (.int (0 + i)), some (.int share)] ∧ Go a H4 H', ?_, ?_⟩
          · refine ⟨_, rfl, _, _, rfl, rfl, _, rfl, rfl, _, rfl, ite2 (fun e5 => ?_) (fun e5 => ?_)⟩
            · exact ⟨_, rfl, left, hl0, Int.le_refl _, rfl, Go.refl G4.st⟩
            · exact ⟨_, rfl, _, rfl, _, _, rfl, rfl, a, left + 1, rfl, G4.st, by omega, by omega, fun d5 H5 d50 d51 g5 => ⟨d5, d50, by omega, rfl, g5⟩⟩
          · rintro σ' H5 ⟨share, hs0, hs1, rfl, g5⟩
            have h5 := g5.keep _ _ h4 hpa
            refine ⟨_, rfl, _, rfl, _, _, rfl, rfl, _, rfl, .inl ⟨rfl, _, SqL.of h5⟩, _, rfl, _, rfl, _, rfl, _, rfl, _, _, rfl, rfl, _, rfl, a, z, share.toNat, m, some wb, ?_, g5.st, hz, by omega, by omega, fun v6 H6 e6 g6 r6 dr6 => ?_⟩
            · have e1 : share = ((share.toNat : Nat) : Int) := by omega
              have e2 : ∀ i j i' j' : Int, i = i' → j = j' → ([V.ref a, V.str z, V.int i, V.int j, V.str (outS (some wb))] : List V) = [V.ref a, V.str z, V.int i', V.int j', V.str (outS (some wb))] := fun i j i' j' h h' => by rw [h, h']
              exact e2 _ _ _ _ e1 em
            · have h6 := g6.keep _ _ h5 hpa
              have hlx := hX.len
              rw [List.length_map] at hlx
              have P6 : Pers H4 (upd H6 pl (.lst (xs ++ [v6]))) := (g5.pers.trans g6.pers).trans (Pers.store h6)
              refine ⟨pl, xs, v6, rfl, rfl, h6, Nat.lt_of_le_of_lt (m := 100) (by omega) (by decide), ?_⟩
              refine ⟨left - share, _, es ++ [e6], _, _, rfl, ?_, upd_same, ?_, ?_, by omega, ?_, ?_, ?_⟩
              · exact (G4.trans (g5.trans g6)).loc nH
              · rw [List.map_append]
                exact (Rep.pers2 P6 hX).app (.cons (r6.pers (Pers.store h6)) .nil)
              · rw [List.length_append, hle]
                rfl
              · rw [List.map_append, List.sum_append]
                have := dr6.pl
                show left - share + (((es.map E.places).sum + (e6.places + 0) : Nat) : Int) ≤ room
                omega
              · rw [List.map_append, List.sum_append, List.length_append]
                have h1 := dr6.pt.1
                have h2 : ((share.toNat * m : Nat) : Int) = share * m := by rw [Int.natCast_mul, Int.toNat_of_nonneg hs0]
                show (((es.map E.parts).sum + (e6.parts + 0) : Nat) : Int) + 3 * ((left - share) * m) ≤ ((es.length + 1 : Nat) : Int) + 3 * ((room : Int) * m)
                rw [Int.sub_mul]
                omega
              · intro e he
                rcases List.mem_append.mp he with he | he
                · exact hdr e he
                · rw [List.mem_singleton] at he
                  subst he
                  exact ⟨dr6.ok, dr6.dp, dr6.hd⟩
        · rintro σ' H4 ⟨left, xs, es, kk, sh, rfl, G4, h4, hX, hle, hl0, hls, hpp, hdr⟩
          refine ⟨_, rfl, _, rfl, pl, xs, rfl, .inl ⟨SqL.of h4, fun l hl => ⟨(by show 2 ≤ sizeLine; decide), fun p hp => ?_⟩⟩⟩
          have G : Go a H (upd (upd H4 l (.tup xs)) p (.tup [.str (outS (some wb)), .ref l])) := G4.trans ((Go.new G4.st hl).trans (Go.new (G4.st.same (same_upd hl)) hp))
          have hln : l ≠ p := fun c => by
            rw [← c, upd_same] at hp
            cases hp
          have hlx := hX.len
          rw [List.length_map] at hlx
          have R : Rep (upd (upd H4 l (.tup xs)) p (.tup [.str (outS (some wb)), .ref l])) (.ref l) (.tup (es.map E.toD)) := Rep.tup2 (by rw [upd_ne hln]; exact upd_same) (by omega) (Rep.pers2 ((Pers.new hl).trans (Pers.new hp)) hX)
          have hsum : (es.map E.places).sum ≤ room := by omega
          have hdep : E.depth.depths es ≤ m := depths_le fun e he => (hdr e he).2.1
          have hpar : (es.map E.parts).sum + 1 ≤ 1 + 3 * (room * (m + 1)) ∧ (es.map E.parts).sum + 1 ≤ 4 + 3 * (room * (m + 1 - 1)) := by
            have h1 : 0 ≤ left * m := Int.mul_nonneg hl0 (Int.natCast_nonneg m)
            have l3 : es.length ≤ 3 := by omega
            have h2 : ((room * m : Nat) : Int) = (room : Int) * m := Int.natCast_mul room m
            rw [hrm, Nat.add_sub_cancel]
            omega
          have hok : es.all E.ok = true := List.all_eq_true.mpr fun e he => (hdr e he).1
          have h2 : decide (2 ≤ es.length) = true := decide_eq_true (by omega)
          cases wb with
          | false =>
            refine q _ _ (.join es) G ?_ ⟨?_, by rw [E.places, placess_eq]; exact hsum, by rw [E.depth]; exact Nat.succ_le_succ hdep, by rw [E.parts, partss_eq]; exact hpar, .inr hwo⟩
            · rw [E.toD, toDs_eq]
              exact Rep.tup2 upd_same (by show 2 ≤ 100000; decide) (.cons (.str (by show sJoin.length ≤ 1000; rw [lJ]; decide)) (.cons R .nil))
            · have : es.any isJoin = false := any_no fun e he => by
                have := (hdr e he).2.2
                cases e <;> first | rfl | exact absurd (this.resolve_left (by intro c; cases c)) (fun c => c rfl)
              rw [E.ok, oks_eq, h2, hok, this]
              rfl
          | true =>
            refine q _ _ (.alt es) G ?_ ⟨?_, by rw [E.places, placess_eq]; exact hsum, by rw [E.depth]; exact Nat.succ_le_succ hdep, by rw [E.parts, partss_eq]; exact hpar, .inr hwo⟩
            · rw [E.toD, toDs_eq]
              exact Rep.tup2 upd_same (by show 2 ≤ 100000; decide) (.cons (.str (by show sOr.length ≤ 1000; rw [lO]; decide)) (.cons R .nil))
            · have : es.any isAlt = false := any_no fun e he => by
                have := (hdr e he).2.2
                cases e <;> first | rfl | exact absurd (this.resolve_left (by intro c; cases c)) (fun c => c rfl)
              rw [E.ok, oks_eq, h2, hok, this]
              rfl
  all_goals
    refine ⟨_, rfl, _, _, rfl, rfl, _, rfl, ite2 (fun e5 => ?_) (fun e5 => ?_)⟩
    · have hr0 : 0 < room := by
        have : (0 : Int) < (room : Int) := of_decide_eq_true e5
        omega
      refine ⟨_, rfl, a, 8, rfl, g1.st, by decide, by decide, fun d2 H2 d20 d21 g2 => ⟨_, _, rfl, rfl, _, rfl, ite2 (fun e6 => ?_) (fun e6 => ?_)⟩⟩
      · refine ⟨_, rfl, _, rfl, z, rfl, Nat.le_trans hz.2.1 (by decide), fun l hl => ⟨a, l, signsV z, rfl, g2.st.same (same_upd hl), SqL.of upd_same, (g2.st.ne hl).symm, ?_, ?_, fun v H3 hv g3 => ?_⟩⟩
        · rw [signs_len]
          exact hz.1
        · rw [signs_len]
          exact Nat.lt_of_le_of_lt hz.2.1 (by decide)
        · obtain ⟨c, hc, rfl⟩ := mem_signs hv
          exact q _ _ (.sym c) (g1.trans (g2.trans ((Go.new g2.st hl).trans g3))) (rep_sym c) (drawn_sym (hz.2.2 c hc) hr0)
      · exact q _ _ .eps (g1.trans g2) rep_eps drawn_eps
    · exact iteF (q _ _ .eps g1 rep_eps drawn_eps)
end
end My
namespace My
open PySem PySem.Spec PyProof.Rows L2
def spExpr : Sp := fun vs H Q _ => ∃ (a : Addr) (most : Nat), vs = [.ref a, .int most] ∧ Strm H a ∧ 1 ≤ most ∧ most ≤ 50 ∧ ∀ v H' e, Go a H H' → Rep H' v e.toD → Drawn e most 4 none → Q v H'
def spEqual (n : Nat) : Sp := fun vs H Q _ => ∃ (x y : V) (j : J) (k : Nat), vs = [x, y] ∧ k < n ∧ RepJ H x j k ∧ RepJ H y j k ∧ ∀ H', Same H H' → Q (.bl true) H'
def spInside : Sp := fun vs H Q _ => ∃ (v : V) (e : E), vs = [v] ∧ e.ok = true ∧ Rep H v e.toD ∧ ∀ p xs H', Same H H' → H' p = some (.tup xs) → xs.length ≤ 100000 → Two (Rep H') xs (e.kids.map E.toD) → Q (.ref p) H'
def spCount (n : Nat) : Sp := fun vs H Q _ => ∃ (v : V) (e : E), vs = [v] ∧ e.ok = true ∧ e.depth < n ∧ Rep H v e.toD ∧ ∀ H', Same H H' → Q (.int e.parts) H'
section
variable {P : Program} {w : World} {K : PySem.W.Frag} {mg : Str → Option Value} {base : Heap} {a_BOUNDS a_LONG_BOUNDS : Addr} {tL tM : Tok}
theorem Drawn.mono {e : E} {r r' d d' : Nat} {o : Option Bool} (h : Drawn e r d o) (hr : r ≤ r') (hd : d ≤ d') : Drawn e r' d' none where
  ok := h.ok
  pl := Nat.le_trans h.pl hr
  dp := Nat.le_trans h.dp hd
  pt := ⟨Nat.le_trans h.pt.1 (by have := Nat.mul_le_mul hr hd; omega), Nat.le_trans h.pt.2 (by have := Nat.mul_le_mul hr (Nat.sub_le_sub_right hd 1); omega)⟩
  hd := by
    cases e with
    | join es => exact .inr fun c => by cases c
    | alt es => exact .inr fun c => by cases c
    | _ => exact .inl rfl
theorem lets_by {z : Str} (h : (decide (0 < z.length) && decide (z.length ≤ 100) && z.cps.toList.all fun c => decide (97 ≤ c) && decide (c ≤ 100)) = true) : Lets z := by
  simp only [Bool.and_eq_true, decide_eq_true_eq, List.all_eq_true] at h
  exact ⟨h.1.1, h.1.2, h.2⟩
abbrev N__law_expression : List Str := ["stream", "most", "letters"]
theorem sc__law_expression : FnScope ["stream", "most", "letters"] ["stream", "most"] (defScope s__law_expression) := ⟨rfl, rfl, rfl, by decide +kernel, rfl, by decide +kernel, by decide +kernel⟩
theorem ok_expr {f : Addr} {fd : FuncData} (B : Bt K mg a_BOUNDS a_LONG_BOUNDS tL tM) (Dd : Df K mg "_law_expression" s__law_expression ["stream", "most"] f fd) (G_law_next : Cl P w K mg base 1 "_law_next" ["stream", "many"] spNext) (G_law_pick : Cl P w K mg base 2 "_law_pick" ["stream", "rows"] (spPick K))
    (G_law_grown : Cl P w K mg base 7 "_law_grown" ["stream", "letters", "room", "deep", "outer"] (spGrown 5)) : FnOk P w K mg base CX0 8 f fd ["stream", "most"] spExpr := by
  refine Dd.F.ok sc__law_expression (fun vs H Q Ex h => ?_) (fun cdv A outer s H vs Q Ex hr h => ?_)
  · obtain ⟨a, most, rfl, _⟩ := h
    rfl
  obtain ⟨a, most, rfl, hS, hm1, hm2, q⟩ := h
  refine ⟨_, (pss_cons (ps_set (i := 2) sc__law_expression.nd rfl (Or.inl rfl) (pe_cl G_law_pick (hr.mono (by omega)) rfl (pa_cons (pv 0) (pa_cons (pe_lst (pa_cons pe_str (pa_cons pe_str (pa_cons pe_str (pa_cons pe_str (pa_cons pe_str (pa_cons pe_str pa_nil))))))) pa_nil))))
    (pss_one (ps_ret (pe_cl G_law_grown (hr.mono (by omega)) rfl (pa_cons (pv 0) (pa_cons (pv 2) (pa_cons (pe_op op_add pe_int (pe_cl G_law_next (hr.mono (by omega)) rfl (pa_cons (pv 0) (pa_cons (pv 1) pa_nil)))) (pa_cons (pe_op op_add pe_int (pe_cl G_law_next (hr.mono (by omega)) rfl (pa_cons (pv 0) (pa_cons pe_int pa_nil)))) (pa_cons pe_str pa_nil))))))))), ?_⟩
  refine ⟨_, rfl, (by show 6 ≤ sizeLine; decide), fun l hl => ⟨a, l, _, rfl, hS.same (same_upd hl), SqL.of upd_same, (hS.ne hl).symm, by decide, by decide, fun v H1 hv g1 => ?_⟩⟩
  have G1 : Go a H H1 := (Go.new hS hl).trans g1
  obtain ⟨z, rfl, hz⟩ : ∃ z, v = .str z ∧ Lets z := by
    simp only [List.mem_cons, List.not_mem_nil, or_false] at hv
    rcases hv with rfl | rfl | rfl | rfl | rfl | rfl <;> exact ⟨_, rfl, lets_by (by decide +kernel)⟩
  refine ⟨_, rfl, _, rfl, _, rfl, _, rfl, a, most, rfl, G1.st, by omega, by omega, fun d H2 d0 d1 g2 => ⟨_, _, rfl, rfl, _, rfl, a, 4, rfl, g2.st, by decide, by decide, fun d' H3 d0' d1' g3 => ⟨_, _, rfl, rfl, a, z, (1 + d).toNat, (1 + d').toNat, none, ?_, g3.st, hz, by omega, by omega, fun v' H4 e g4 r4 dr => ?_⟩⟩⟩
  · have e1 : 1 + d = (((1 + d).toNat : Nat) : Int) := by omega
    have e2 : 1 + d' = (((1 + d').toNat : Nat) : Int) := by omega
    have e3 : ∀ i j i' j' : Int, i = i' → j = j' → ([V.ref a, V.str z, V.int i, V.int j, V.str sNo] : List V) = [V.ref a, V.str z, V.int i', V.int j', V.str sNo] := fun i j i' j' h h' => by rw [h, h']
    exact e3 _ _ _ _ e1 e2
  · exact q v' H4 e (G1.trans (g2.trans (g3.trans g4))) r4 (dr.mono (by omega) (by omega))
theorem sum_cast (es : List E) (f : E → Nat) : (es.map fun k => ((f k : Nat) : Int)).sum = (((es.map f).sum : Nat) : Int) := by
  induction es with
  | nil => rfl
  | cons e es ih =>
    rw [List.map_cons, List.sum_cons, List.map_cons, List.sum_cons, ih]
    omega
abbrev N__law_inside : List Str := ["expression"]
theorem sc__law_inside : FnScope ["expression"] ["expression"] (defScope s__law_inside) := ⟨rfl, rfl, rfl, by decide +kernel, rfl, by decide +kernel, by decide +kernel⟩
theorem ok_inside {f : Addr} {fd : FuncData} (B : Bt K mg a_BOUNDS a_LONG_BOUNDS tL tM) (Dd : Df K mg "_law_inside" s__law_inside ["expression"] f fd) : FnOk P w K mg base CX0 1 f fd ["expression"] spInside := by
  refine Dd.F.ok sc__law_inside (fun vs H Q Ex h => ?_) (fun cdv A outer s H vs Q Ex hr h => ?_)
  · obtain ⟨v, e, rfl, _⟩ := h
    rfl
  obtain ⟨v, e, rfl, hok, hR, q⟩ := h
  refine ⟨_, (pss_cons (ps_if (pt_val (pe_callB call_isi rfl B.b_isinstance boot_isinstance (pa_cons (pv 0) (pa_cons (pe_bltn (v := .ty "str") rfl B.b_str boot_str rfl) pa_nil)))) (pss_one (ps_ret (pe_tup pa_nil))) pss_nil)
    (pss_one (ps_ret (pe_ifExp (pt_cmpR op_in_seq (pe_ix (r := rIxT K) ix_tup (pv 0) pe_int (fun _ _ => rfl)) (pe_lst (pa_cons pe_str (pa_cons pe_str pa_nil))) rfl) (pe_tup (pa_cons (pe_ix (r := rIxT K) ix_tup (pv 0) pe_int (fun _ _ => rfl)) pa_nil)) (pe_ix (r := rIxT K) ix_tup (pv 0) pe_int (fun _ _ => rfl)))))), ?_⟩
  obtain ⟨t, ht, k1, _⟩ := hR.ty (K := K)
  refine ⟨_, rfl, _, _, _, _, _, rfl, .ty _, ht, k1, _, rfl, ite2 (fun e1 => ?_) (fun e1 => ?_)⟩
  · refine ⟨(by decide), fun p hp => ?_⟩
    have : e.kids = [] := by
      cases e <;> first | rfl | (rw [E.toD] at e1; exact absurd e1 (by intro c; cases c))
    refine q p [] _ (same_upd hp) upd_same (by decide) ?_
    rw [this]
    exact .nil
  · obtain ⟨w, y, hc, hk⟩ : ∃ w y, e.toD = .tup [.str w, y] ∧ ((inV (V.str w) [V.str sMaybe, V.str sMany] = true ∧ e.kids.map E.toD = [y]) ∨ (inV (V.str w) [V.str sMaybe, V.str sMany] = false ∧ y = .tup (e.kids.map E.toD))) := by
      cases e with
      | eps => exact absurd (by rw [E.toD]; rfl) e1
      | sym c => exact absurd (by rw [E.toD]; rfl) e1
      | maybe k => exact ⟨sMaybe, k.toD, by rw [E.toD], .inl ⟨by decide +kernel, rfl⟩⟩
      | many k => exact ⟨sMany, k.toD, by rw [E.toD], .inl ⟨by decide +kernel, rfl⟩⟩
      | join es => exact ⟨sJoin, .tup (es.map E.toD), by rw [E.toD, toDs_eq], .inr ⟨by decide +kernel, rfl⟩⟩
      | alt es => exact ⟨sOr, .tup (es.map E.toD), by rw [E.toD, toDs_eq], .inr ⟨by decide +kernel, rfl⟩⟩
    rw [hc] at hR
    obtain ⟨p, xs, rfl, hp, hz, hX⟩ := hR.untup
    match xs, hX with
    | [_, x], .cons (.str _) (.cons hx .nil) =>
    refine ⟨_, rfl, p, _, 0, _, rfl, rfl, SqT.of hp, at_zero, (by show 2 ≤ sizeLine; decide), fun l hl => ⟨l, _, rfl, .inl (SqL.of upd_same), rfl, rfl, _, rfl, ?_⟩⟩
    have hp2 : (upd H l (.lst [V.str sMaybe, V.str sMany])) p = some (.tup [.str w, x]) := by rw [upd_ne (ne_of_none hp hl)]; exact hp
    refine ite2 (fun e2 => ?_) (fun e2 => ?_)
    · have h1 := hk.resolve_right fun c => by
        have e3 : inV (V.str w) [V.str sMaybe, V.str sMany] = true := e2
        rw [c.1] at e3
        cases e3
      refine ⟨_, rfl, p, _, 1, x, rfl, rfl, SqT.of hp2, at_one, (by show 1 ≤ sizeLine; decide), fun p3 hp3 => ?_⟩
      refine q p3 [x] _ ((same_upd hl).trans (same_upd hp3)) upd_same (by show 1 ≤ 100000; decide) ?_
      rw [h1.2]
      exact .cons (hx.pers ((Pers.new hl).trans (Pers.new hp3))) .nil
    · have h1 := hk.resolve_left fun c => e2 c.1
      refine ⟨_, rfl, p, _, 1, x, rfl, rfl, SqT.of hp2, at_one, ?_⟩
      rw [h1.2] at hx
      obtain ⟨p2, xs, rfl, h2, hz, hX⟩ := hx.untup
      exact q p2 xs _ (same_upd hl) (by rw [upd_ne (ne_of_none h2 hl)]; exact h2) hz (Rep.pers2 (Pers.new hl) hX)
abbrev N__law_count : List Str := ["expression", "part"]
theorem sc__law_count : FnScope ["expression", "part"] ["expression"] (defScope s__law_count) := ⟨rfl, rfl, rfl, by decide +kernel, rfl, by decide +kernel, by decide +kernel⟩
theorem ok_count_step {f : Addr} {fd : FuncData} (B : Bt K mg a_BOUNDS a_LONG_BOUNDS tL tM) (Dd : Df K mg "_law_count" s__law_count ["expression"] f fd) (G_law_inside : Cl P w K mg base 1 "_law_inside" ["expression"] spInside) (n : Nat)
    (G_law_count : Cl P w K mg base (n + 1) "_law_count" ["expression"] (spCount n)) : FnOk P w K mg base CX0 (n + 2) f fd ["expression"] (spCount (n + 1)) := by
  refine Dd.F.ok sc__law_count (fun vs H Q Ex h => ?_) (fun cdv A outer s H vs Q Ex hr h => ?_)
  · obtain ⟨v, e, rfl, _⟩ := h
    rfl
  obtain ⟨v, e, rfl, hok, hd, hR, q⟩ := h
  refine ⟨_, (pss_one (ps_ret (pe_op op_add pe_int (pe_callB (cr_sum rfl) rfl B.b_sum boot_sum (pa_cons (pe_lc (own := [("part", 1)]) (g := gName 1) (tt := tYes) rfl sc__law_count.nd (pi_tup (pe_cl G_law_inside (hr.mono (by omega)) rfl (pa_cons (pv 0) pa_nil))) (blkOk_by (N := N__law_count) (sc := defScope s__law_count) (by decide +kernel)) (fun _ _ _ _ _ => pg_name (i := 1) sc__law_count.nd rfl (Or.inl rfl)) (fun _ _ _ _ _ => pts_nil) (fun _ _ _ _ _ => (pe_cl G_law_count (hr.mono (by omega)) rfl (pa_cons (pv 1) pa_nil)))) pa_nil))))), ?_⟩
  refine ⟨_, rfl, v, e, rfl, hok, hR, fun p xs H1 s1 hp hz hX => ⟨p, rfl, ⟨_, SqT.of hp⟩, fun L hL => ?_⟩⟩
  have hl := hX.len
  rw [List.length_map] at hl
  refine lc_tup (K := K) (a := p) (xs := xs) (fun i H2 => Same H1 H2 ∧ H2 L = some (.lst (((e.kids.take i).map fun k => (k.parts : Int)).map V.int))) ⟨same_upd hL, upd_same⟩ (fun i H2 _ h => SqT.of (h.1 _ _ hp)) (fun i x H2 hx h => ?_) (fun H2 h => ?_)
  · obtain ⟨d, hd1, hxd⟩ := hX.get hx
    rw [List.getElem?_map] at hd1
    obtain ⟨k, hk, rfl⟩ := Option.map_eq_some_iff.mp hd1
    have hmem := List.mem_of_getElem? hk
    refine ⟨rfl, tyes ⟨_, rfl, x, k, rfl, ok_kids hok k hmem, ?_, hxd.pers (Pers.same h.1), fun H3 s3 => ⟨_, s3 _ _ h.2, ?_, ?_, ?_⟩⟩⟩
    · have := depth_kids e k hmem
      omega
    · have : i < xs.length := (List.getElem?_eq_some_iff.mp hx).1
      rw [List.length_map, List.length_map, List.length_take]
      exact Nat.lt_of_le_of_lt (m := 100000) (by omega) (by decide)
    · exact fun b o e => by rw [upd_ne (ne_of_none e hL)]; exact s3 _ _ (h.1 b o e)
    · rw [upd_same, List.take_add_one, hk, List.map_append, List.map_append]
      rfl
  · obtain ⟨h1, h2⟩ := h
    rw [hl, List.take_length] at h2
    refine ⟨L, _, rfl, SqL.of h2, _, _, rfl, rfl, ?_⟩
    have e1 : (1 : Int) + (e.kids.map fun k => (k.parts : Int)).sum = (e.parts : Int) := by
      rw [parts_kids, sum_cast]
      omega
    have r := q _ (s1.trans h1)
    rw [← e1] at r
    exact r
/-! ### the law's own comparison, of equal data -/
def SeqV (K : PySem.W.Frag) (H : Hp) (p : Addr) (xs : List V) : Prop := SqL K H p xs ∨ SqT K H p xs
theorem SeqV.len {K : PySem.W.Frag} {H : Hp} {p : Addr} {xs : List V} (h : SeqV K H p xs) {n : Nat} (e : n = xs.length) : LenV K (.ref p) H n := by
  rcases h with h | h
  · exact .inl ⟨xs, h, e⟩
  · exact .inr ⟨xs, h, e⟩
theorem SeqV.ix {K : PySem.W.Frag} {H : Hp} {p : Addr} {xs : List V} (h : SeqV K H p xs) {i : Int} {v : V} {Q : VK} (hi : atI xs i = some v) (q : Q v H) : rIx K (.ref p) (.int i) H Q := by
  rcases h with h | h
  · exact .inl ⟨p, xs, i, v, rfl, rfl, h, hi, q⟩
  · exact .inr (.inl ⟨p, xs, i, v, rfl, rfl, h, hi, q⟩)
theorem SeqV.same {K : PySem.W.Frag} {H H' : Hp} {p : Addr} {xs : List V} (s : Same H H') (h : SeqV K H p xs) : SeqV K H' p xs := by
  rcases h with h | h
  · exact .inl (s.seq h)
  · rcases h with (h | ⟨o, h⟩) | h
    · exact .inr (.inl (.inl (s _ _ h)))
    · exact .inr (.inl (.inr ⟨o, s _ _ h⟩))
    · exact .inr (.inr h)
theorem RepJ.both {K : PySem.W.Frag} {H : Hp} {x y : V} {j : J} {k : Nat} (hx : RepJ H x j k) (hy : RepJ H y j k) : (x = .non ∧ y = .non) ∨ (∃ b, x = .bl b ∧ y = .bl b) ∨ (∃ i, x = .int i ∧ y = .int i) ∨ (∃ z, x = .str z ∧ y = .str z) ∨
    ∃ (isT : Bool) (p q : Addr) (xs ys : List V) (js : List J) (k' : Nat), k = k' + 1 ∧ x = .ref p ∧ y = .ref q ∧ TyX K H x (.type (if isT then "tuple" else "list")) ∧ TyX K H y (.type (if isT then "tuple" else "list")) ∧ SeqV K H p xs ∧ SeqV K H q ys ∧ xs.length ≤ 100000 ∧ xs.length = js.length ∧ ys.length = js.length ∧
      (∀ (i : Nat) (x : V) (j : J), xs[i]? = some x → js[i]? = some j → RepJ H x j k') ∧ (∀ (i : Nat) (x : V) (j : J), ys[i]? = some x → js[i]? = some j → RepJ H x j k') := by
  cases hx with
  | non => cases hy; exact .inl ⟨rfl, rfl⟩
  | bl b => cases hy; exact .inr (.inl ⟨b, rfl, rfl⟩)
  | int i => cases hy; exact .inr (.inr (.inl ⟨i, rfl, rfl⟩))
  | str z => cases hy; exact .inr (.inr (.inr (.inl ⟨z, rfl, rfl⟩)))
  | @tup n p xs js h z l r =>
    cases hy with
    | @tup _ q ys _ h' z' l' r' => exact .inr (.inr (.inr (.inr ⟨true, p, q, xs, ys, js, n, rfl, rfl, rfl, .base (.tup h), .base (.tup h'), .inr (SqT.of h), .inr (SqT.of h'), z, l, l', r, r'⟩)))
  | @lst n p xs js h z l r =>
    cases hy with
    | @lst _ q ys _ h' z' l' r' => exact .inr (.inr (.inr (.inr ⟨false, p, q, xs, ys, js, n, rfl, rfl, rfl, .base (.lst h), .base (.lst h'), .inl (SqL.of h), .inl (SqL.of h'), z, l, l', r, r'⟩)))
def spIsInt : Sp := fun vs H Q _ => ∃ i : Int, vs = [.int i] ∧ Q (.bl true) H
abbrev N__law_is_integer : List Str := ["actual"]
theorem sc__law_is_integer : FnScope ["actual"] ["actual"] (defScope s__law_is_integer) := ⟨rfl, rfl, rfl, by decide +kernel, rfl, by decide +kernel, by decide +kernel⟩
theorem ok_isint {f : Addr} {fd : FuncData} (B : Bt K mg a_BOUNDS a_LONG_BOUNDS tL tM) (Dd : Df K mg "_law_is_integer" s__law_is_integer ["actual"] f fd) : FnOk P w K mg base CX0 1 f fd ["actual"] spIsInt := by
  refine Dd.F.ok sc__law_is_integer (fun vs H Q Ex h => ?_) (fun cdv A outer s H vs Q Ex hr h => ?_)
  · obtain ⟨i, rfl, _⟩ := h
    rfl
  obtain ⟨i, rfl, q⟩ := h
  refine ⟨_, (pss_one (ps_ret (pe_and (pe_callB call_isi rfl B.b_isinstance boot_isinstance (pa_cons (pv 0) (pa_cons (pe_bltn (v := .ty "int") rfl B.b_int boot_int rfl) pa_nil))) (pe_one (pe_not (pe_callB call_isi rfl B.b_isinstance boot_isinstance (pa_cons (pv 0) (pa_cons (pe_bltn (v := .ty "bool") rfl B.b_bool boot_bool rfl) pa_nil)))))))), ?_⟩
  have T : TyX K H (.int i) (.type "int") := .base (.int i)
  exact ⟨_, rfl, _, _, _, _, _, rfl, .ty _, T, kit_ty (r := true) (by decide +kernel), _, rfl, iteT ⟨_, rfl, _, _, _, _, _, rfl, .ty _, T, kit_ty (r := false) (by decide +kernel), _, rfl, q⟩⟩
abbrev N__law_equal : List Str := ["actual", "due", "at"]
theorem sc__law_equal : FnScope ["actual", "due", "at"] ["actual", "due"] (defScope s__law_equal) := ⟨rfl, rfl, rfl, by decide +kernel, rfl, by decide +kernel, by decide +kernel⟩
theorem ok_equal_step {f : Addr} {fd : FuncData} (B : Bt K mg a_BOUNDS a_LONG_BOUNDS tL tM) (Dd : Df K mg "_law_equal" s__law_equal ["actual", "due"] f fd) (G_law_is_integer : Cl P w K mg base 1 "_law_is_integer" ["actual"] spIsInt) (n : Nat)
    (G_law_equal : Cl P w K mg base (n + 1) "_law_equal" ["actual", "due"] (spEqual n)) : FnOk P w K mg base CX0 (n + 2) f fd ["actual", "due"] (spEqual (n + 1)) := by
  refine Dd.F.ok sc__law_equal (fun vs H Q Ex h => ?_) (fun cdv A outer s H vs Q Ex hr h => ?_)
  · obtain ⟨x, y, j, k, rfl, _⟩ := h
    rfl
  obtain ⟨x, y, j, k, rfl, hk, hx, hy, q⟩ := h
  refine ⟨_, (pss_cons (ps_if (pt_cmpR op_isN (pv 1) pe_non (nomark _)) (pss_one (ps_ret (pe_cmpR op_isN (pv 0) pe_non (nomark _)))) pss_nil)
    (pss_cons (ps_if (pt_val (pe_callB call_isi rfl B.b_isinstance boot_isinstance (pa_cons (pv 1) (pa_cons (pe_bltn (v := .ty "bool") rfl B.b_bool boot_bool rfl) pa_nil)))) (pss_one (ps_ret (pe_and (pe_callB call_isi rfl B.b_isinstance boot_isinstance (pa_cons (pv 0) (pa_cons (pe_bltn (v := .ty "bool") rfl B.b_bool boot_bool rfl) pa_nil))) (pe_one (pe_cmpR op_eq (pv 0) (pv 1) (nomark _)))))) pss_nil)
    (pss_cons (ps_if (pt_val (pe_callB call_isi rfl B.b_isinstance boot_isinstance (pa_cons (pv 1) (pa_cons (pe_bltn (v := .ty "int") rfl B.b_int boot_int rfl) pa_nil)))) (pss_one (ps_ret (pe_and (pe_cl G_law_is_integer (hr.mono (by omega)) rfl (pa_cons (pv 0) pa_nil)) (pe_one (pe_cmpR op_eq (pv 0) (pv 1) (nomark _)))))) pss_nil)
    (pss_cons (ps_if (pt_val (pe_callB call_isi rfl B.b_isinstance boot_isinstance (pa_cons (pv 1) (pa_cons (pe_bltn (v := .ty "str") rfl B.b_str boot_str rfl) pa_nil)))) (pss_one (ps_ret (pe_and (pe_callB call_isi rfl B.b_isinstance boot_isinstance (pa_cons (pv 0) (pa_cons (pe_bltn (v := .ty "str") rfl B.b_str boot_str rfl) pa_nil))) (pe_one (pe_cmpR op_eq (pv 0) (pv 1) (nomark _)))))) pss_nil)
    (C8.pss_cut (ps_if (PW.pt (pw_and (pt_val (pe_callB call_isi rfl B.b_isinstance boot_isinstance (pa_cons (pv 1) (pa_cons (pe_bltn (v := .ty "tuple") rfl B.b_tuple boot_tuple rfl) pa_nil)))) (pw_and1 (pt_not (pt_val (pe_callB call_isi rfl B.b_isinstance boot_isinstance (pa_cons (pv 0) (pa_cons (pe_bltn (v := .ty "tuple") rfl B.b_tuple boot_tuple rfl) pa_nil)))))))) (pss_one (ps_ret pe_bl)) pss_nil)
    (C8.pss_cut (ps_if (PW.pt (pw_and (pt_val (pe_callB call_isi rfl B.b_isinstance boot_isinstance (pa_cons (pv 1) (pa_cons (pe_bltn (v := .ty "list") rfl B.b_list boot_list rfl) pa_nil)))) (pw_and1 (pt_not (pt_val (pe_callB call_isi rfl B.b_isinstance boot_isinstance (pa_cons (pv 0) (pa_cons (pe_bltn (v := .ty "list") rfl B.b_list boot_list rfl) pa_nil)))))))) (pss_one (ps_ret pe_bl)) pss_nil)
    (pss_cons (ps_if (pt_cmpR op_ne (pe_callB call_len rfl B.b_len boot_len (pa_cons (pv 0) pa_nil)) (pe_callB call_len rfl B.b_len boot_len (pa_cons (pv 1) pa_nil)) (nomark _)) (pss_one (ps_ret pe_bl)) pss_nil)
    (pss_one (ps_ret (pe_callB (cr_all rfl) rfl B.b_all boot_all (pa_cons (pe_lc (own := [("at", 2)]) (g := gName 2) (tt := tYes) rfl sc__law_equal.nd (pi_range1 rfl B.b_range (pa_cons (pe_callB call_len rfl B.b_len boot_len (pa_cons (pv 1) pa_nil)) pa_nil)) (blkOk_by (N := N__law_equal) (sc := defScope s__law_equal) (by decide +kernel)) (fun _ _ _ _ _ => pg_name (i := 2) sc__law_equal.nd rfl (Or.inl rfl)) (fun _ _ _ _ _ => pts_nil) (fun _ _ _ _ _ => (pe_cl G_law_equal (hr.mono (by omega)) rfl (pa_cons (pe_ix (r := rIx K) ix_seq (pv 0) (pv 2) (fun _ _ => rfl)) (pa_cons (pe_ix (r := rIx K) ix_seq (pv 1) (pv 2) (fun _ _ => rfl)) pa_nil))))) pa_nil))))))))))), ?_⟩
  rcases hx.both (K := K) hy with ⟨rfl, rfl⟩ | ⟨b, rfl, rfl⟩ | ⟨i, rfl, rfl⟩ | ⟨z, rfl, rfl⟩ | ⟨isT, p, p', xs, ys, js, k', rfl, rfl, rfl, T, T', S, S', hz, l, l', r, r'⟩
  · exact ⟨_, rfl, rfl, _, rfl, iteT ⟨_, rfl, rfl, q _ (Same.refl _)⟩⟩
  · have T : TyX K H (.bl b) (.type "bool") := .base (.bl b)
    refine ⟨_, rfl, rfl, _, rfl, iteF ⟨_, rfl, _, _, _, _, _, rfl, .ty _, T, kit_ty (r := true) (by decide +kernel), _, rfl, iteT ⟨_, rfl, _, _, _, _, _, rfl, .ty _, T, kit_ty (r := true) (by decide +kernel), _, rfl, iteT ⟨_, rfl, _, rfl, rfl, ?_⟩⟩⟩⟩
    rw [decide_eq_true rfl]
    exact q _ (Same.refl _)
  · have T : TyX K H (.int i) (.type "int") := .base (.int i)
    refine ⟨_, rfl, rfl, _, rfl, iteF ⟨_, rfl, _, _, _, _, _, rfl, .ty _, T, kit_ty (r := false) (by decide +kernel), _, rfl, iteF ⟨_, rfl, _, _, _, _, _, rfl, .ty _, T, kit_ty (r := true) (by decide +kernel), _, rfl, iteT ⟨_, rfl, i, rfl, _, rfl, iteT ⟨_, rfl, _, rfl, rfl, ?_⟩⟩⟩⟩⟩
    rw [decide_eq_true rfl]
    exact q _ (Same.refl _)
  · have T : TyX K H (.str z) (.type "str") := .base (.str z)
    refine ⟨_, rfl, rfl, _, rfl, iteF ⟨_, rfl, _, _, _, _, _, rfl, .ty _, T, kit_ty (r := false) (by decide +kernel), _, rfl, iteF ⟨_, rfl, _, _, _, _, _, rfl, .ty _, T, kit_ty (r := false) (by decide +kernel), _, rfl, iteF ⟨_, rfl, _, _, _, _, _, rfl, .ty _, T, kit_ty (r := true) (by decide +kernel), _, rfl,
      iteT ⟨_, rfl, _, _, _, _, _, rfl, .ty _, T, kit_ty (r := true) (by decide +kernel), _, rfl, iteT ⟨_, rfl, _, rfl, rfl, ?_⟩⟩⟩⟩⟩⟩
    rw [decide_eq_true rfl]
    exact q _ (Same.refl _)
  · have kb : PySem.W.kitOne K (.type (if isT then "tuple" else "list")) (.type "bool") = some false := by cases isT <;> exact kit_ty (r := false) (by decide +kernel)
    have ki : PySem.W.kitOne K (.type (if isT then "tuple" else "list")) (.type "int") = some false := by cases isT <;> exact kit_ty (r := false) (by decide +kernel)
    have ks : PySem.W.kitOne K (.type (if isT then "tuple" else "list")) (.type "str") = some false := by cases isT <;> exact kit_ty (r := false) (by decide +kernel)
    have kt : PySem.W.kitOne K (.type (if isT then "tuple" else "list")) (.type "tuple") = some isT := by
      cases isT
      · exact kit_ty (r := false) (by decide +kernel)
      · exact kit_ty (r := true) (by decide +kernel)
    have kl : PySem.W.kitOne K (.type (if isT then "tuple" else "list")) (.type "list") = some (!isT) := by
      cases isT
      · exact kit_ty (r := true) (by decide +kernel)
      · exact kit_ty (r := false) (by decide +kernel)
    refine ⟨_, rfl, rfl, _, rfl, iteF ⟨_, rfl, _, _, _, _, _, rfl, .ty _, T', kb, _, rfl, iteF ⟨_, rfl, _, _, _, _, _, rfl, .ty _, T', ki, _, rfl, iteF ⟨_, rfl, _, _, _, _, _, rfl, .ty _, T', ks, _, rfl, iteF ?_⟩⟩⟩⟩
    refine ⟨fun σ' H' => σ' = [some (.ref p), some (.ref p'), none] ∧ H = H', ?_, ?_⟩
    · refine ⟨_, rfl, _, _, _, _, _, rfl, .ty _, T', kt, _, rfl, ite2 (fun e => ?_) (fun e => iteF ⟨rfl, rfl⟩)⟩
      refine ⟨_, rfl, _, _, _, _, _, rfl, .ty _, T, kt, _, rfl, ?_⟩
      rw [e]
      exact iteF ⟨rfl, rfl⟩
    rintro σ' H' ⟨rfl, rfl⟩
    refine ⟨fun σ' H' => σ' = [some (.ref p), some (.ref p'), none] ∧ H = H', ?_, ?_⟩
    · refine ⟨_, rfl, _, _, _, _, _, rfl, .ty _, T', kl, _, rfl, ite2 (fun e => ?_) (fun e => iteF ⟨rfl, rfl⟩)⟩
      refine ⟨_, rfl, _, _, _, _, _, rfl, .ty _, T, kl, _, rfl, ?_⟩
      rw [e]
      exact iteF ⟨rfl, rfl⟩
    rintro σ' H' ⟨rfl, rfl⟩
    refine ⟨_, rfl, _, js.length, rfl, S.len l.symm, _, rfl, _, js.length, rfl, S'.len l'.symm, rfl, _, rfl, ?_⟩
    have e0 : (!decide (V.int ((js.length : Nat) : Int) = V.int ((js.length : Nat) : Int))) = false := by
      rw [decide_eq_true rfl]
      rfl
    refine ite2 (fun e => ?_) (fun _ => ?_)
    · have e1 : (!decide (V.int ((js.length : Nat) : Int) = V.int ((js.length : Nat) : Int))) = true := e
      rw [e0] at e1
      cases e1
    refine ⟨_, rfl, _, js.length, rfl, S'.len l'.symm, _, rfl, by omega, by omega, fun L hL => ?_⟩
    refine lc_range (lo := 0) (n := js.length) (fun i H2 => Same H H2 ∧ H2 L = some (.lst ((List.replicate i true).map V.bl))) ⟨same_upd hL, upd_same⟩ (fun i H2 hi h => ?_) (fun H2 h => ?_)
    · have ix : xs[i]? = some xs[i] := List.getElem?_eq_getElem (by omega)
      have iy : ys[i]? = some ys[i] := List.getElem?_eq_getElem (by omega)
      have ij : js[i]? = some js[i] := List.getElem?_eq_getElem hi
      refine ⟨rfl, tyes ⟨_, rfl, _, rfl, (S.same h.1).ix (at_of (j := i) (by omega) ix) ⟨_, rfl, _, rfl, (S'.same h.1).ix (at_of (j := i) (by omega) iy) ⟨_, _, _, _, rfl, by omega, (r i _ _ ix ij).same h.1, (r' i _ _ iy ij).same h.1, fun H3 s3 => ⟨_, s3 _ _ h.2, ?_, ?_, ?_⟩⟩⟩⟩⟩
      · rw [List.length_map, List.length_replicate]
        exact Nat.lt_of_le_of_lt (m := 100000) (by omega) (by decide)
      · exact fun b o e => by rw [upd_ne (ne_of_none e hL)]; exact s3 _ _ (h.1 b o e)
      · rw [upd_same, List.replicate_succ', List.map_append]
        rfl
    · obtain ⟨h1, h2⟩ := h
      refine ⟨L, _, rfl, SqL.of h2, ?_⟩
      have e1 : (List.replicate js.length true).all id = true := by
        rw [List.all_eq_true]
        intro x hx
        rw [(List.mem_replicate.mp hx).2]
        rfl
      rw [e1]
      exact q _ h1
end
end My
namespace My
open PySem PySem.Spec PyProof.Rows L2
def rLenOf (K : PySem.W.Frag) : List V → Hp → VK → Prop := fun xs H Q => ∃ x n, xs = [x] ∧ LenV K x H n ∧ Q (.int n) H
theorem call_lenK {X : Cx} : CallR X (.builtin "len") (rLenOf X.K) := call_len
/-- over a list or a text -/
def iLT (K : PySem.W.Frag) (tl : TE) : TI := fun σ H R => iList K tl σ H R ∨ iStr tl σ H R
theorem pi_lt {X : Cx} {tg l : Expr} {tl : TE} (hl : PE X l tl) : PI X tg l (iLT X.K tl) := by
  refine ⟨fun pins s σ H R I h => ?_⟩
  rcases h with h | h
  · exact (pi_list hl).run pins s σ H R I h
  · exact (pi_str hl).run pins s σ H R I h
theorem mem_takeA {α : Type} {ns : List α} {i : Nat} {z : α} (h : ns[i]? = some z) (x : α) : x ∈ ns.take (i + 1) ↔ x ∈ ns.take i ∨ x = z := by
  rw [List.take_add_one, h, List.mem_append]
  show _ ∨ x ∈ [z] ↔ _
  rw [List.mem_singleton]
def signsS (z : Str) : List Str := z.cps.toList.map fun c => ⟨#[c]⟩
def spPickB (K : PySem.W.Frag) : Sp := fun vs H Q _ => ∃ (a r : Addr) (xs : List V), vs = [.ref a, .ref r] ∧ Strm H a ∧ SqL K H r xs ∧ r ≠ a ∧ 0 < xs.length ∧ xs.length < 100000 ∧ ∀ v H', v ∈ xs → Go a H H' → Q v H'
def spOnceS : Sp := fun vs H Q _ => ∃ (v : V) (zs : List Str), vs = [v] ∧ ((∃ r, v = .ref r ∧ H r = some (.lst (zs.map V.str))) ∨ (∃ z, v = .str z ∧ zs = signsS z)) ∧ zs.length ≤ 16000000 ∧
  ∀ (p : Addr) (H' : Hp) (ms : List Str), Same H H' → H p = none → H' p = some (.lst (ms.map V.str)) → ms.Nodup → (∀ x, x ∈ ms ↔ x ∈ zs) → ms.length ≤ zs.length → Q (.ref p) H'
def spJoined : Sp := fun vs H Q _ => ∃ (r t : Addr) (xs ys : List Str) (most : Nat), vs = [.ref r, .ref t, .int most] ∧ H r = some (.lst (xs.map V.str)) ∧ H t = some (.lst (ys.map V.str)) ∧ xs.length ≤ 3125 ∧ ys.length ≤ 3125 ∧ (∀ x ∈ xs, x.length ≤ 100) ∧ (∀ x ∈ ys, x.length ≤ 100) ∧
  ∀ (p : Addr) (H' : Hp) (ms : List Str), Same H H' → H p = none → H' p = some (.lst (ms.map V.str)) → ms.Nodup → (∀ x, x ∈ ms ↔ ∃ a ∈ xs, ∃ b ∈ ys, a.length + b.length ≤ most ∧ x = a ++ b) → Q (.ref p) H'
def spLets (n : Nat) : Sp := fun vs H Q _ => ∃ (v : V) (e : E), vs = [v] ∧ e.ok = true ∧ e.depth < n ∧ e.places ≤ 100 ∧ Rep H v e.toD ∧ ∀ (z : Str) H', Same H H' → z.cps.toList = e.letters → Q (.str z) H'
theorem letterss_flat (es : List E) : E.letters.letterss es = (es.map E.letters).flatten := by
  induction es with
  | nil => rfl
  | cons e es ih => rw [E.letters.letterss, ih, List.map_cons, List.flatten_cons]
theorem letters_kids (e : E) (h : ¬ isStr e.toD = true) : e.letters = (e.kids.map E.letters).flatten := by
  cases e with
  | eps => exact absurd (by rw [E.toD]; rfl) h
  | sym c => exact absurd (by rw [E.toD]; rfl) h
  | maybe e => rw [E.letters, E.kids]; simp
  | many e => rw [E.letters, E.kids]; simp
  | join es => rw [E.letters, E.kids, letterss_flat]
  | alt es => rw [E.letters, E.kids, letterss_flat]
section
variable {P : Program} {w : World} {K : PySem.W.Frag} {mg : Str → Option Value} {base : Heap} {a_BOUNDS a_LONG_BOUNDS : Addr} {tL tM : Tok}
theorem ok_pickB {f : Addr} {fd : FuncData} (B : Bt K mg a_BOUNDS a_LONG_BOUNDS tL tM) (D : Df K mg "_law_pick" s__law_pick ["stream", "rows"] f fd) (G_law_next : Cl P w K mg base 1 "_law_next" ["stream", "many"] spNext) : FnOk P w K mg base CX0 2 f fd ["stream", "rows"] (spPickB K) := by
  refine D.F.ok sc__law_pick (fun vs H Q E h => ?_) (fun cdv A outer s H vs Q E hr h => ?_)
  · obtain ⟨a, r, xs, rfl, _⟩ := h
    rfl
  obtain ⟨a, r, xs, rfl, hS, hX, hra, h0, h1, q⟩ := h
  refine ⟨_, (pss_one (ps_ret (pe_ix (r := rIxL K) ix_list (pv 1) (pe_cl G_law_next (hr.mono (by omega)) rfl (pa_cons (pv 0) (pa_cons (pe_callB call_len rfl B.b_len boot_len (pa_cons (pv 1) pa_nil)) pa_nil))) (fun _ _ => rfl)))), ?_⟩
  refine ⟨_, rfl, _, rfl, _, rfl, _, _, rfl, .inl ⟨_, hX, rfl⟩, a, _, rfl, hS, by omega, by omega, fun d H' d0 d1 g => ?_⟩
  have hd : d.toNat < xs.length := by omega
  exact ⟨r, xs, d, xs[d.toNat], rfl, rfl, g.seq hra hX, at_of (j := d.toNat) (by omega) (List.getElem?_eq_getElem hd), q _ _ (List.getElem_mem hd) g⟩
abbrev N__law_once : List Str := ["rows", "seen", "row"]
theorem sc__law_once : FnScope ["rows", "seen", "row"] ["rows"] (defScope s__law_once) := ⟨rfl, rfl, rfl, by decide +kernel, rfl, by decide +kernel, by decide +kernel⟩
theorem ok_once {f : Addr} {fd : FuncData} (B : Bt K mg a_BOUNDS a_LONG_BOUNDS tL tM) (Dd : Df K mg "_law_once" s__law_once ["rows"] f fd) : FnOk P w K mg base CX0 1 f fd ["rows"] spOnceS := by
  refine Dd.F.ok sc__law_once (fun vs H Q Ex h => ?_) (fun cdv A outer s H vs Q Ex hr h => ?_)
  · obtain ⟨v, zs, rfl, _⟩ := h
    rfl
  obtain ⟨v, zs, rfl, hv, hz, q⟩ := h
  refine ⟨_, (pss_cons (ps_set (i := 1) sc__law_once.nd rfl (Or.inl rfl) pe_dnewK)
    (pss_cons (ps_for PassesOwn.never rfl (pi_lt (pv 0)) (pg_name (i := 2) sc__law_once.nd rfl (Or.inl rfl)) (pss_one (ps_dput (hu_of hr) (pv 1) (pv 2) pe_bl rfl)))
    (pss_one (ps_ret (pe_callTy (call_list_dK rfl) rfl B.b_list boot_list (pa_cons (pv 1) pa_nil)))))), ?_⟩
  intro d hd
  have fin : ∀ H' ms, Same H H' → H' d = some (.dK (keysS ms)) → ms.Nodup → ms.length ≤ zs.length → (∀ x, x ∈ ms ↔ x ∈ zs) → ∀ p, H' p = none → Q (.ref p) (upd H' p (.lst ((keysS ms).map fun kv => kV kv.1))) := fun H' ms h1 h2 h3 h4 h5 p hp => by
    rw [keysS_vals]
    exact q p _ ms (h1.trans (same_upd hp)) (h1.free hp) upd_same h3 h5 h4
  rcases hv with ⟨r, rfl, hH⟩ | ⟨z, rfl, rfl⟩
  · have nrd : r ≠ d := ne_of_none hH hd
    refine .inl ⟨_, rfl, r, rfl, ⟨_, SqL.of ((same_upd hd) _ _ hH)⟩, for_list (K := K) (a := r) (xs := zs.map V.str) (fun i σ' H' => ∃ (rw : Option V) (ms : List Str), σ' = [some (.ref r), some (.ref d), rw] ∧ Same H H' ∧ H' d = some (.dK (keysS ms)) ∧ ms.Nodup ∧ ms.length ≤ i ∧ ∀ x, x ∈ ms ↔ x ∈ zs.take i)
      ⟨none, [], rfl, same_upd hd, upd_same, List.nodup_nil, Nat.le_refl _, fun x => by simp⟩ (fun i σ' H' _ h => ?_) (fun i y σ' H' hi h => ?_) (fun σ' H' h => ?_)⟩
    · obtain ⟨_, _, _, h1, _⟩ := h
      exact SqL.of (h1 _ _ hH)
    · obtain ⟨rw0, ms, rfl, h1, h2, h3, h4, h5⟩ := h
      rw [List.getElem?_map] at hi
      obtain ⟨z, hz2, rfl⟩ := Option.map_eq_some_iff.mp hi
      have hlt := (List.getElem?_eq_some_iff.mp hz2).1
      refine ⟨_, rfl, _, rfl, d, _, rfl, DPut.k (k := Sum.inr z) h2 ?_, _, addA ms z, rfl, ?_, ?_, nodup_addA h3, ?_, fun x => ?_⟩
      · rw [keysS_len]
        exact Nat.lt_of_le_of_lt (m := 16000000) (by omega) (by decide)
      · exact fun b o e => by rw [upd_ne (ne_of_none e hd)]; exact h1 b o e
      · rw [upd_same, putK_keysS]
      · have := len_addA ms z
        omega
      · rw [mem_addA, h5, mem_takeA hz2]
    · obtain ⟨rw0, ms, rfl, h1, h2, h3, h4, h5⟩ := h
      rw [List.length_map, List.take_length] at h5
      rw [List.length_map] at h4
      exact ⟨_, rfl, d, _, rfl, h2, fin H' ms h1 h2 h3 h4 h5⟩
  · refine .inr ⟨_, rfl, z, rfl, for_strB (z := z) (fun i σ' H' => ∃ (rw : Option V) (ms : List Str), σ' = [some (.str z), some (.ref d), rw] ∧ Same H H' ∧ H' d = some (.dK (keysS ms)) ∧ ms.Nodup ∧ ms.length ≤ i ∧ ∀ x, x ∈ ms ↔ x ∈ (signsS z).take i)
      ⟨none, [], rfl, same_upd hd, upd_same, List.nodup_nil, Nat.le_refl _, fun x => by simp⟩ (fun i c σ' H' hi h => ?_) (fun σ' H' h => ?_)⟩
    · obtain ⟨rw0, ms, rfl, h1, h2, h3, h4, h5⟩ := h
      have hz2 : (signsS z)[i]? = some ⟨#[c]⟩ := by
        unfold signsS
        rw [List.getElem?_map, Array.getElem?_toList, hi]
        rfl
      have hlt := (List.getElem?_eq_some_iff.mp hz2).1
      refine ⟨_, rfl, _, rfl, d, _, rfl, DPut.k (k := Sum.inr ⟨#[c]⟩) h2 ?_, _, addA ms ⟨#[c]⟩, rfl, ?_, ?_, nodup_addA h3, ?_, fun x => ?_⟩
      · rw [keysS_len]
        exact Nat.lt_of_le_of_lt (m := 16000000) (by omega) (by decide)
      · exact fun b o e => by rw [upd_ne (ne_of_none e hd)]; exact h1 b o e
      · rw [upd_same, putK_keysS]
      · have := len_addA ms (⟨#[c]⟩ : Str)
        omega
      · rw [mem_addA, h5, mem_takeA hz2]
    · obtain ⟨rw0, ms, rfl, h1, h2, h3, h4, h5⟩ := h
      have hl : (signsS z).length = z.cps.size := by
        unfold signsS
        rw [List.length_map, Array.length_toList]
      rw [← hl, List.take_length] at h5
      rw [← hl] at h4
      exact ⟨_, rfl, d, _, rfl, h2, fin H' ms h1 h2 h3 h4 h5⟩
abbrev N__law_joined : List Str := ["first", "second", "most", "found", "one", "other"]
theorem sc__law_joined : FnScope ["first", "second", "most", "found", "one", "other"] ["first", "second", "most"] (defScope s__law_joined) := ⟨rfl, rfl, rfl, by decide +kernel, rfl, by decide +kernel, by decide +kernel⟩
theorem ok_joined {f : Addr} {fd : FuncData} (B : Bt K mg a_BOUNDS a_LONG_BOUNDS tL tM) (Dd : Df K mg "_law_joined" s__law_joined ["first", "second", "most"] f fd) (G_law_once : Cl P w K mg base 1 "_law_once" ["rows"] spOnceS) : FnOk P w K mg base CX0 2 f fd ["first", "second", "most"] spJoined := by
  refine Dd.F.ok sc__law_joined (fun vs H Q Ex h => ?_) (fun cdv A outer s H vs Q Ex hr h => ?_)
  · obtain ⟨r, t, xs, ys, most, rfl, _⟩ := h
    rfl
  obtain ⟨r, t, xs, ys, most, rfl, hX, hY, hx1, hy1, hx2, hy2, q⟩ := h
  refine ⟨_, (pss_cons (ps_set (i := 3) sc__law_joined.nd rfl (Or.inl rfl) (pe_lst pa_nil))
    (pss_cons (ps_for PassesOwn.never rfl (pi_list (pv 0)) (pg_name (i := 4) sc__law_joined.nd rfl (Or.inr rfl)) (pss_one (ps_expr (pe_bm PySem.F.plainAttrs_list PySem.F.slot_list_extend PySem.F.type_list_extend mt_extend (pv 3) (pa_cons (pe_lc (own := [("other", 5)]) (g := gName 5) rfl sc__law_joined.nd (pi_list (pv 1)) (blkOk_by (N := N__law_joined) (sc := defScope s__law_joined) (by decide +kernel)) (fun _ _ _ _ _ => pg_name (i := 5) sc__law_joined.nd rfl (Or.inl rfl)) (fun _ _ _ _ _ => pts_one (pt_cmpR op_le (pe_op op_add (pe_callB (r := rLenOf K) call_lenK rfl B.b_len boot_len (pa_cons (pv 4) pa_nil)) (pe_callB (r := rLenOf K) call_lenK rfl B.b_len boot_len (pa_cons (pv 5) pa_nil))) (pv 2) (nomark _))) (fun _ _ _ _ _ => (pe_op op_add_str (pv 4) (pv 5)))) pa_nil)))))
    (pss_one (ps_ret (pe_cl G_law_once (hr.mono (by omega)) rfl (pa_cons (pv 3) pa_nil)))))), ?_⟩
  refine ⟨Nat.zero_le _, fun f0 hf0 => ?_⟩
  refine ⟨_, rfl, r, rfl, ⟨_, SqL.of ((same_upd hf0) _ _ hX)⟩, for_list (K := K) (a := r) (xs := xs.map V.str) (fun i σ' H' => ∃ (o1 : Option V) (zs : List Str), σ' = [some (.ref r), some (.ref t), some (.int most), some (.ref f0), o1, none] ∧ Same H H' ∧ H' f0 = some (.lst (zs.map V.str)) ∧ zs.length ≤ i * 3125 ∧ ∀ x, x ∈ zs ↔ ∃ a ∈ xs.take i, ∃ b ∈ ys, a.length + b.length ≤ most ∧ x = a ++ b)
    ⟨none, [], rfl, same_upd hf0, upd_same, Nat.zero_le _, fun x => by simp⟩ (fun i σ' H' _ h => ?_) (fun i y σ' H' hi h => ?_) (fun σ' H' h => ?_)⟩
  · obtain ⟨_, _, _, h1, _⟩ := h
    exact SqL.of (h1 _ _ hX)
  · obtain ⟨o1, zs, rfl, h1, h2, h3, h4⟩ := h
    rw [List.getElem?_map] at hi
    obtain ⟨x0, hx0, rfl⟩ := Option.map_eq_some_iff.mp hi
    have hlt := (List.getElem?_eq_some_iff.mp hx0).1
    have hxl := hx2 x0 (List.mem_of_getElem? hx0)
    refine ⟨_, rfl, .inl ⟨rfl, _, SqL.of h2⟩, _, rfl, t, rfl, ⟨_, SqL.of (h1 _ _ hY)⟩, fun L hL => ?_⟩
    have nL : f0 ≠ L := ne_of_none h2 hL
    refine lc_list (K := K) (a := t) (xs := ys.map V.str) (fun j H3 => Same H' H3 ∧ ∃ us : List Str, H3 L = some (.lst (us.map V.str)) ∧ us.length ≤ j ∧ ∀ x, x ∈ us ↔ ∃ b ∈ ys.take j, x0.length + b.length ≤ most ∧ x = x0 ++ b) ⟨same_upd hL, [], upd_same, Nat.le_refl _, fun x => by simp⟩ (fun j H3 _ h => SqL.of (h.1 _ _ (h1 _ _ hY))) (fun j v H3 hv h => ?_) (fun H3 h => ?_)
    · obtain ⟨s3, us, g1, g2, g3⟩ := h
      rw [List.getElem?_map] at hv
      obtain ⟨y0, hy0, rfl⟩ := Option.map_eq_some_iff.mp hv
      have hyl := hy2 y0 (List.mem_of_getElem? hy0)
      have hlt2 := (List.getElem?_eq_some_iff.mp hy0).1
      refine ⟨rfl, _, rfl, _, x0.length, rfl, ⟨Nat.le_trans hxl (by decide), rfl⟩, _, rfl, _, y0.length, rfl, ⟨Nat.le_trans hyl (by decide), rfl⟩, _, _, rfl, rfl, _, rfl, _, _, rfl, rfl, _, rfl, ite2 (fun e => ?_) (fun e => ?_)⟩
      · have e1 : x0.length + y0.length ≤ most := by
          have := of_decide_eq_true e
          omega
        refine ⟨_, rfl, _, rfl, _, _, rfl, rfl, Nat.le_trans (m := 200) (by omega) (by decide), us.map V.str, g1, ?_, ?_, us ++ [x0 ++ y0], ?_, ?_, fun x => ?_⟩
        · rw [List.length_map]
          exact Nat.lt_of_le_of_lt (m := 3125) (by omega) (by decide)
        · exact fun b o hb => by rw [upd_ne (ne_of_none hb hL)]; exact s3 _ _ hb
        · rw [upd_same, List.map_append]
          rfl
        · rw [List.length_append]
          exact Nat.succ_le_succ g2
        · rw [List.mem_append, List.mem_singleton, g3]
          constructor
          · rintro (⟨b, hb, h⟩ | rfl)
            · exact ⟨b, (mem_takeA hy0 b).mpr (.inl hb), h⟩
            · exact ⟨y0, (mem_takeA hy0 y0).mpr (.inr rfl), e1, rfl⟩
          · rintro ⟨b, hb, h⟩
            rcases (mem_takeA hy0 b).mp hb with c | rfl
            · exact .inl ⟨b, c, h⟩
            · exact .inr h.2
      · have e1 : ¬ x0.length + y0.length ≤ most := fun h => e (decide_eq_true (by omega))
        refine ⟨s3, us, g1, Nat.le_succ_of_le g2, fun x => ?_⟩
        rw [g3]
        constructor
        · rintro ⟨b, hb, h⟩
          exact ⟨b, (mem_takeA hy0 b).mpr (.inl hb), h⟩
        · rintro ⟨b, hb, h⟩
          rcases (mem_takeA hy0 b).mp hb with c | rfl
          · exact ⟨b, c, h⟩
          · exact absurd h.1 e1
    · obtain ⟨s3, us, g1, g2, g3⟩ := h
      rw [List.length_map] at g2 g3
      rw [List.take_length] at g3
      have h23 := s3 _ _ h2
      refine ⟨f0, L, _, _, rfl, rfl, h23, g1, ?_, _, zs ++ us, rfl, ?_, ?_, ?_, fun x => ?_⟩
      · rw [List.length_map, List.length_map]
        have : zs.length + us.length ≤ 3125 * 3125 + 3125 := by
          have : i * 3125 ≤ 3125 * 3125 := Nat.mul_le_mul_right _ (by omega)
          omega
        exact Nat.le_trans this (by decide)
      · exact fun b o hb => by rw [upd_ne (ne_of_none hb hf0)]; exact s3 _ _ (h1 _ _ hb)
      · rw [upd_same, List.map_append]
      · rw [List.length_append, Nat.succ_mul]
        omega
      · rw [List.mem_append, h4, g3]
        constructor
        · rintro (⟨a, ha, h⟩ | h)
          · exact ⟨a, (mem_takeA hx0 a).mpr (.inl ha), h⟩
          · exact ⟨x0, (mem_takeA hx0 x0).mpr (.inr rfl), h⟩
        · rintro ⟨a, ha, h⟩
          rcases (mem_takeA hx0 a).mp ha with c | rfl
          · exact .inl ⟨a, c, h⟩
          · exact .inr h
  · obtain ⟨o1, zs, rfl, h1, h2, h3, h4⟩ := h
    rw [List.length_map] at h3 h4
    rw [List.take_length] at h4
    refine ⟨_, rfl, .ref f0, zs, rfl, .inl ⟨f0, rfl, h2⟩, ?_, fun p H2 ms s2 hp h5 h6 h7 h8 => q p H2 ms (h1.trans s2) (h1.free hp) h5 h6 fun x => by rw [h7, h4]⟩
    have : xs.length * 3125 ≤ 3125 * 3125 := Nat.mul_le_mul_right _ hx1
    omega
end
end My
namespace My
open PySem PySem.Spec PyProof.Rows L2
def ofL (l : List Nat) : Str := ⟨l.toArray⟩
theorem ofL_cps (l : List Nat) : (ofL l).cps.toList = l := by
  show l.toArray.toList = l
  simp
theorem ofL_len (l : List Nat) : (ofL l).length = l.length := by rw [len_cps, ofL_cps]
theorem words_one {L : List Nat → Prop} {z : Str} {most : Nat} (hL : ∀ w, L w ↔ w = z.cps.toList) (h : z.length ≤ most) : WordsOf L most [z] where
  nd := by simp
  mem x := by
    rw [List.mem_singleton, hL]
    constructor
    · rintro rfl
      exact ⟨h, rfl⟩
    · rintro ⟨_, h⟩
      exact str_ext h
theorem words_none {L : List Nat → Prop} {z : Str} {most : Nat} (hL : ∀ w, L w ↔ w = z.cps.toList) (h : ¬ z.length ≤ most) : WordsOf L most [] where
  nd := by simp
  mem x := by
    rw [hL]
    constructor
    · intro c
      cases c
    · rintro ⟨h1, h2⟩
      exact absurd ((str_ext h2) ▸ h1) h
theorem words_join {A B C : List Nat → Prop} {most : Nat} {xs ys ms : List Str} (hA : WordsOf A most xs) (hB : WordsOf B most ys) (nd : ms.Nodup) (hm : ∀ x, x ∈ ms ↔ ∃ a ∈ xs, ∃ b ∈ ys, a.length + b.length ≤ most ∧ x = a ++ b)
    (hC : ∀ w, C w ↔ ∃ u v, w = u ++ v ∧ A u ∧ B v) : WordsOf C most ms where
  nd := nd
  mem x := by
    rw [hm, hC]
    constructor
    · rintro ⟨a, ha, b, hb, hl, rfl⟩
      exact ⟨by rw [len_app]; exact hl, _, _, cps_app a b, ((hA.mem a).mp ha).2, ((hB.mem b).mp hb).2⟩
    · rintro ⟨hl, u, v, e, h1, h2⟩
      rw [len_cps, e, List.length_append] at hl
      refine ⟨ofL u, (hA.mem _).mpr ⟨by rw [ofL_len]; omega, by rw [ofL_cps]; exact h1⟩, ofL v, (hB.mem _).mpr ⟨by rw [ofL_len]; omega, by rw [ofL_cps]; exact h2⟩, by rw [ofL_len, ofL_len]; exact hl, str_ext ?_⟩
      rw [cps_app, ofL_cps, ofL_cps, e]
theorem words_pw1 {L : List Nat → Prop} {most : Nat} {xs ms : List Str} (h : WordsOf L most xs) (nd : ms.Nodup) (hm : ∀ x, x ∈ ms ↔ x = sNo ∨ x ∈ xs) : WordsOf (Pw L 1) most ms where
  nd := nd
  mem x := by
    rw [hm, h.mem]
    constructor
    · rintro (rfl | ⟨h1, h2⟩)
      · exact ⟨by rw [len_no]; exact Nat.zero_le _, .inl cps_no⟩
      · exact ⟨h1, .inr ⟨[], x.cps.toList, rfl, rfl, h2⟩⟩
    · rintro ⟨h1, h2 | ⟨u, v, e, hu, hv⟩⟩
      · exact .inl (no_of_cps h2)
      · have hu' : u = [] := hu
        subst hu'
        rw [List.nil_append] at e
        exact .inr ⟨h1, by rw [e]; exact hv⟩
theorem words_pw {L : List Nat → Prop} {most n : Nat} {xs ys us ms : List Str} (hA : WordsOf (Pw L n) most xs) (hB : WordsOf L most ys) (hu : ∀ x, x ∈ us ↔ ∃ a ∈ xs, ∃ b ∈ ys, a.length + b.length ≤ most ∧ x = a ++ b) (nd : ms.Nodup) (hm : ∀ x, x ∈ ms ↔ x ∈ xs ∨ x ∈ us) : WordsOf (Pw L (n + 1)) most ms where
  nd := nd
  mem x := by
    rw [hm, hA.mem, hu]
    constructor
    · rintro (⟨h1, h2⟩ | ⟨a, ha, b, hb, hl, rfl⟩)
      · exact ⟨h1, .inl h2⟩
      · exact ⟨by rw [len_app]; exact hl, .inr ⟨_, _, cps_app a b, ((hA.mem a).mp ha).2, ((hB.mem b).mp hb).2⟩⟩
    · rintro ⟨hl, h | ⟨u, v, e, h1, h2⟩⟩
      · exact .inl ⟨hl, h⟩
      · rw [len_cps, e, List.length_append] at hl
        refine .inr ⟨ofL u, (hA.mem _).mpr ⟨by rw [ofL_len]; omega, by rw [ofL_cps]; exact h1⟩, ofL v, (hB.mem _).mpr ⟨by rw [ofL_len]; omega, by rw [ofL_cps]; exact h2⟩, by rw [ofL_len, ofL_len]; exact hl, str_ext ?_⟩
        rw [cps_app, ofL_cps, ofL_cps, e]
theorem WordsOf.of {A C : List Nat → Prop} {most : Nat} {ms : List Str} (h : WordsOf A most ms) (k : ∀ w, w.length ≤ most → (A w ↔ C w)) : WordsOf C most ms where
  nd := h.nd
  mem x := by
    rw [h.mem]
    exact and_congr_right fun hl => k _ (by rw [← len_cps]; exact hl)
theorem WordsOf.short {L : List Nat → Prop} {most : Nat} {ms : List Str} (h : WordsOf L most ms) (hm : most ≤ 5) : ∀ x ∈ ms, x.length ≤ 100 := fun x hx => by
  have := ((h.mem x).mp hx).1
  omega
structure WordAt (L : Addr) (H : Hp) (most : Nat) (v : V) (k : E) : Prop where
  ex : ∃ (p : Addr) (ms : List Str), v = .ref p ∧ p ≠ L ∧ H p = some (.lst (ms.map V.str)) ∧ WordsOf (MW k) most ms
theorem WordAt.same {L : Addr} {H H' : Hp} (s : Same H H') {most : Nat} {v : V} {k : E} (h : WordAt L H most v k) : WordAt L H' most v k := by
  obtain ⟨p, ns, h1, h0, h2, h3⟩ := h.ex
  exact ⟨p, ns, h1, h0, s _ _ h2, h3⟩
theorem WordAt.store {L : Addr} {H : Hp} {o : HO} {most : Nat} {v : V} {k : E} (h : WordAt L H most v k) : WordAt L (upd H L o) most v k := by
  obtain ⟨p, ns, h1, h0, h2, h3⟩ := h.ex
  exact ⟨p, ns, h1, h0, by rw [upd_ne h0]; exact h2, h3⟩
def spWords (n : Nat) : Sp := fun vs H Q _ => ∃ (v : V) (e : E) (most : Nat), vs = [v, .int most] ∧ e.ok = true ∧ e.depth < n ∧ e.parts ≤ 400 ∧ most ≤ 5 ∧ Rep H v e.toD ∧ ∀ (p : Addr) (H' : Hp) (ms : List Str), Same H H' → H p = none → H' p = some (.lst (ms.map V.str)) → WordsOf (MW e) most ms → Q (.ref p) H'
theorem kid_parts {e k : E} (h : k ∈ e.kids) : k.parts ≤ e.parts ∧ e.kids.length ≤ e.parts := by
  have hp := parts_kids e
  have h1 : ∀ l : List E, k ∈ l → k.parts ≤ (l.map E.parts).sum ∧ l.length ≤ (l.map E.parts).sum := by
    have h2 : ∀ l : List E, l.length ≤ (l.map E.parts).sum := by
      intro l
      induction l with
      | nil => exact Nat.zero_le _
      | cons a l ih =>
        have := parts_pos a
        rw [List.map_cons, List.sum_cons, List.length_cons]
        omega
    intro l hl
    refine ⟨?_, h2 l⟩
    induction l with
    | nil => cases hl
    | cons a l ih =>
      rw [List.map_cons, List.sum_cons]
      rcases List.mem_cons.mp hl with rfl | hl
      · omega
      · have := ih hl
        omega
  have := h1 _ h
  omega
section
variable {P : Program} {w : World} {K : PySem.W.Frag} {mg : Str → Option Value} {base : Heap} {a_BOUNDS a_LONG_BOUNDS : Addr} {tL tM : Tok}
abbrev N__law_letters : List Str := ["expression", "part"]
theorem sc__law_letters : FnScope ["expression", "part"] ["expression"] (defScope s__law_letters) := ⟨rfl, rfl, rfl, by decide +kernel, rfl, by decide +kernel, by decide +kernel⟩
theorem ok_letters_step {f : Addr} {fd : FuncData} (B : Bt K mg a_BOUNDS a_LONG_BOUNDS tL tM) (Dd : Df K mg "_law_letters" s__law_letters ["expression"] f fd) (G_law_inside : Cl P w K mg base 1 "_law_inside" ["expression"] spInside) (n : Nat) (G_law_letters : Cl P w K mg base (n + 1) "_law_letters" ["expression"] (spLets n)) : FnOk P w K mg base CX0 (n + 2) f fd ["expression"] (spLets (n + 1)) := by
  refine Dd.F.ok sc__law_letters (fun vs H Q Ex h => ?_) (fun cdv A outer s H vs Q Ex hr h => ?_)
  · obtain ⟨v, e, rfl, _⟩ := h
    rfl
  obtain ⟨v, e, rfl, hok, hd, hpl, hR, q⟩ := h
  refine ⟨_, (pss_cons (ps_if (pt_val (pe_callB call_isi rfl B.b_isinstance boot_isinstance (pa_cons (pv 0) (pa_cons (pe_bltn (v := .ty "str") rfl B.b_str boot_str rfl) pa_nil)))) (pss_one (ps_ret (pv 0))) pss_nil)
    (pss_one (ps_ret (pe_join pe_str (pe_lc (own := [("part", 1)]) (g := gName 1) (tt := tYes) rfl sc__law_letters.nd (pi_tup (pe_cl G_law_inside (hr.mono (by omega)) rfl (pa_cons (pv 0) pa_nil))) (blkOk_by (N := N__law_letters) (sc := defScope s__law_letters) (by decide +kernel)) (fun _ _ _ _ _ => pg_name (i := 1) sc__law_letters.nd rfl (Or.inl rfl)) (fun _ _ _ _ _ => pts_nil) (fun _ _ _ _ _ => (pe_cl G_law_letters (hr.mono (by omega)) rfl (pa_cons (pv 1) pa_nil)))))))), ?_⟩
  obtain ⟨t, ht, k1, _⟩ := hR.ty (K := K)
  refine ⟨_, rfl, _, _, _, _, _, rfl, .ty _, ht, k1, _, rfl, ite2 (fun e1 => ?_) (fun e1 => ?_)⟩
  · cases e with
    | eps =>
      rw [E.toD] at hR
      cases hR with
      | str h => exact ⟨_, rfl, q _ H (Same.refl H) cps_no⟩
    | sym c =>
      rw [E.toD] at hR
      cases hR with
      | str h => exact ⟨_, rfl, q _ H (Same.refl H) rfl⟩
    | maybe k => exact absurd e1 (by rw [E.toD]; intro c; cases c)
    | many k => exact absurd e1 (by rw [E.toD]; intro c; cases c)
    | join es => exact absurd e1 (by rw [E.toD]; intro c; cases c)
    | alt es => exact absurd e1 (by rw [E.toD]; intro c; cases c)
  · refine ⟨⟨_, rfl⟩, _, rfl, v, e, rfl, hok, hR, fun p xs H1 s1 hp hz hX => ⟨p, rfl, ⟨_, SqT.of hp⟩, fun L hL => ?_⟩⟩
    have hl := hX.len
    rw [List.length_map] at hl
    refine lc_tup (K := K) (a := p) (xs := xs) (fun i H2 => Same H1 H2 ∧ ∃ zs : List Str, H2 L = some (.lst (zs.map V.str)) ∧ zs.map (fun z => z.cps.toList) = (e.kids.take i).map E.letters) ⟨same_upd hL, [], upd_same, rfl⟩ (fun i H2 _ h => SqT.of (h.1 _ _ hp)) (fun i x H2 hx h => ?_) (fun H2 h => ?_)
    · obtain ⟨h0, zs, h2, h3⟩ := h
      obtain ⟨d, hd1, hxd⟩ := hX.get hx
      rw [List.getElem?_map] at hd1
      obtain ⟨k, hk, rfl⟩ := Option.map_eq_some_iff.mp hd1
      have hmem := List.mem_of_getElem? hk
      have hzl := congrArg List.length h3
      rw [List.length_map, List.length_map, List.length_take] at hzl
      have hdk := depth_kids e k hmem
      have hpk := places_kids e
      have hkp : k.places ≤ (e.kids.map E.places).sum := by
        have : ∀ l : List E, k ∈ l → k.places ≤ (l.map E.places).sum := by
          intro l hl
          induction l with
          | nil => cases hl
          | cons a l ih =>
            rw [List.map_cons, List.sum_cons]
            rcases List.mem_cons.mp hl with rfl | hl
            · omega
            · have := ih hl
              omega
        exact this _ hmem
      have hix : i < xs.length := (List.getElem?_eq_some_iff.mp hx).1
      refine ⟨rfl, tyes ⟨_, rfl, x, k, rfl, ok_kids hok k hmem, by omega, by omega, hxd.pers (Pers.same h0), fun z H3 s3 hz3 => ⟨_, s3 _ _ h2, ?_, ?_, zs ++ [z], ?_, ?_⟩⟩⟩
      · rw [List.length_map]
        exact Nat.lt_of_le_of_lt (m := 100000) (by omega) (by decide)
      · exact fun b o e => by rw [upd_ne (ne_of_none e hL)]; exact s3 _ _ (h0 b o e)
      · rw [upd_same, List.map_append]
        rfl
      · rw [List.map_append, h3, take_snoc hk, List.map_append, List.map_singleton, List.map_singleton, hz3]
    · obtain ⟨h0, zs, h2, h3⟩ := h
      rw [hl, List.take_length] at h3
      have hj : (Txt.join sNo zs).cps.toList = e.letters := by
        rw [join_flat2, h3, ← letters_kids e e1]
      refine ⟨sNo, L, zs, rfl, rfl, .inl (SqL.of h2), ?_, q _ H2 (s1.trans h0) hj⟩
      have hs : (zs.map Str.length).sum = e.letters.length := by
        have e2 : zs.map Str.length = (zs.map fun z => z.cps.toList).map List.length := by
          rw [List.map_map]
          exact List.map_congr_left fun z _ => len_cps z
        rw [e2, h3, letters_kids e e1, List.length_flatten]
      show (zs.map Str.length).sum + _ ≤ _
      rw [hs, letters_len, lE]
      omega
abbrev N__law_words : List Str := ["expression", "most", "rows", "found", "row", "turn", "part"]
theorem sc__law_words : FnScope ["expression", "most", "rows", "found", "row", "turn", "part"] ["expression", "most"] (defScope s__law_words) := ⟨rfl, rfl, rfl, by decide +kernel, rfl, by decide +kernel, by decide +kernel⟩
set_option maxHeartbeats 1000000 in
theorem ok_words_step {f : Addr} {fd : FuncData} (B : Bt K mg a_BOUNDS a_LONG_BOUNDS tL tM) (Dd : Df K mg "_law_words" s__law_words ["expression", "most"] f fd) (G_law_inside : Cl P w K mg base 1 "_law_inside" ["expression"] spInside) (G_law_once : Cl P w K mg base 1 "_law_once" ["rows"] spOnceS) (G_law_joined : Cl P w K mg base 2 "_law_joined" ["first", "second", "most"] spJoined) (n : Nat)
    (G_law_words : Cl P w K mg base (n + 2) "_law_words" ["expression", "most"] (spWords n)) : FnOk P w K mg base CX0 (n + 3) f fd ["expression", "most"] (spWords (n + 1)) := by
  refine Dd.F.ok sc__law_words (fun vs H Q Ex h => ?_) (fun cdv A outer s H vs Q Ex hr h => ?_)
  · obtain ⟨v, e, most, rfl, _⟩ := h
    rfl
  obtain ⟨v, e, most, rfl, hok, hd, hpt, hm5, hR, q⟩ := h
  refine ⟨_, (pss_cons (ps_if (pt_val (pe_callB call_isi rfl B.b_isinstance boot_isinstance (pa_cons (pv 0) (pa_cons (pe_bltn (v := .ty "str") rfl B.b_str boot_str rfl) pa_nil)))) (pss_one (ps_ret (pe_ifExp (pt_cmpR op_le (pe_callB call_len rfl B.b_len boot_len (pa_cons (pv 0) pa_nil)) (pv 1) (nomark _)) (pe_lst (pa_cons (pv 0) pa_nil)) (pe_lst pa_nil)))) pss_nil)
    (pss_cons (ps_setLc (i := 2) (own := [("part", 6)]) (g := gName 6) (tt := tYes) rfl sc__law_words.nd rfl rfl (sw_true rfl rfl rfl (by decide +kernel)) (pi_tup (pe_cl G_law_inside (hr.mono (by omega)) rfl (pa_cons (pv 0) pa_nil))) (blkOk_by (N := N__law_words) (sc := defScope s__law_words) (by decide +kernel)) (fun _ _ _ _ _ => pg_name (i := 6) sc__law_words.nd rfl (Or.inl rfl)) (fun _ _ _ _ _ => pts_nil) (fun _ _ _ _ _ => (pe_cl G_law_words (hr.mono (by omega)) rfl (pa_cons (pv 6) (pa_cons (pv 1) pa_nil)))))
    (pss_cons (ps_if (pt_cmpR op_eq (pe_ix (r := rIxT K) ix_tup (pv 0) pe_int (fun _ _ => rfl)) pe_str (nomark _)) (pss_cons (ps_set (i := 3) sc__law_words.nd rfl (Or.inl rfl) (pe_lst (pa_cons pe_str pa_nil)))
    (pss_cons (ps_for PassesOwn.never rfl (pi_list (pv 2)) (pg_name (i := 4) sc__law_words.nd rfl (Or.inl rfl)) (pss_one (ps_set (i := 3) sc__law_words.nd rfl (Or.inl rfl) (pe_cl G_law_joined (hr.mono (by omega)) rfl (pa_cons (pv 3) (pa_cons (pv 4) (pa_cons (pv 1) pa_nil)))))))
    (pss_one (ps_ret (pv 3))))) pss_nil)
    (pss_cons (ps_if (pt_cmpR op_eq (pe_ix (r := rIxT K) ix_tup (pv 0) pe_int (fun _ _ => rfl)) pe_str (nomark _)) (pss_cons (ps_set (i := 3) sc__law_words.nd rfl (Or.inl rfl) (pe_lst pa_nil))
    (pss_cons (ps_for PassesOwn.never rfl (pi_list (pv 2)) (pg_name (i := 4) sc__law_words.nd rfl (Or.inl rfl)) (pss_one (ps_expr (pe_bm PySem.F.plainAttrs_list PySem.F.slot_list_extend PySem.F.type_list_extend mt_extend (pv 3) (pa_cons (pv 4) pa_nil)))))
    (pss_one (ps_ret (pe_cl G_law_once (hr.mono (by omega)) rfl (pa_cons (pv 3) pa_nil)))))) pss_nil)
    (pss_cons (ps_set (i := 3) sc__law_words.nd rfl (Or.inl rfl) (pe_cl G_law_once (hr.mono (by omega)) rfl (pa_cons (pe_op op_cat (pe_lst (pa_cons pe_str pa_nil)) (pe_ix (r := rIxL K) ix_list (pv 2) pe_int (fun _ _ => rfl))) pa_nil)))
    (C8.pss_cut (ps_if (pt_cmpR op_eq (pe_ix (r := rIxT K) ix_tup (pv 0) pe_int (fun _ _ => rfl)) pe_str (nomark _)) (pss_one (ps_for PassesOwn.never rfl (pi_range1 rfl B.b_range (pa_cons (pv 1) pa_nil)) (pg_name (i := 5) sc__law_words.nd rfl (Or.inl rfl)) (pss_one (ps_set (i := 3) sc__law_words.nd rfl (Or.inl rfl) (pe_cl G_law_once (hr.mono (by omega)) rfl (pa_cons (pe_op op_cat (pv 3) (pe_cl G_law_joined (hr.mono (by omega)) rfl (pa_cons (pv 3) (pa_cons (pe_ix (r := rIxL K) ix_list (pv 2) pe_int (fun _ _ => rfl)) (pa_cons (pv 1) pa_nil))))) pa_nil)))))) pss_nil)
    (pss_one (ps_ret (pv 3))))))))), ?_⟩
  have lets : ∀ k : E, k.ok = true → ∀ w, MW k w → ∀ c ∈ w, 97 ≤ c ∧ c ≤ 100 := fun k hk w h c hc => (mw_lets k hk w h c hc).2
  obtain ⟨t, ht, k1, _⟩ := hR.ty (K := K)
  refine ⟨_, rfl, _, _, _, _, _, rfl, .ty _, ht, k1, _, rfl, ite2 (fun e1 => ?_) (fun e1 => ?_)⟩
  · obtain ⟨z, rfl, hz, hL⟩ : ∃ z : Str, v = .str z ∧ z.length ≤ 1000 ∧ ∀ w, MW e w ↔ w = z.cps.toList := by
      cases e with
      | eps =>
        rw [E.toD] at hR
        cases hR with
        | str h => exact ⟨_, rfl, h, fun w => by rw [MW, cps_no]⟩
      | sym c =>
        rw [E.toD] at hR
        cases hR with
        | str h => exact ⟨_, rfl, h, fun w => by rw [MW]⟩
      | maybe k => exact absurd e1 (by rw [E.toD]; intro c; cases c)
      | many k => exact absurd e1 (by rw [E.toD]; intro c; cases c)
      | join es => exact absurd e1 (by rw [E.toD]; intro c; cases c)
      | alt es => exact absurd e1 (by rw [E.toD]; intro c; cases c)
    refine ⟨_, rfl, _, z.length, rfl, ⟨Nat.le_trans hz (by decide), rfl⟩, _, rfl, _, _, rfl, rfl, _, rfl, ite2 (fun c => ?_) (fun c => ?_)⟩
    · refine ⟨_, rfl, by show 1 ≤ sizeLine; decide, fun p hp => q p _ [z] (same_upd hp) hp upd_same (words_one hL ?_)⟩
      have := of_decide_eq_true c
      omega
    · refine ⟨Nat.zero_le _, fun p hp => q p _ [] (same_upd hp) hp upd_same (words_none hL fun h => c (decide_eq_true (by omega)))⟩
  · obtain ⟨w, y, p0, x0, hlw, rfl, hp0, hx0, hk⟩ := node_of hok hR e1
    refine ⟨_, rfl, .ref p0, e, rfl, hok, hR, fun p xs H1 s1 hp hz hX => ⟨p, rfl, ⟨_, SqT.of hp⟩, fun L hL => ?_⟩⟩
    have hl := hX.len
    rw [List.length_map] at hl
    refine lc_tup (K := K) (a := p) (xs := xs) (fun i H2 => Same H1 H2 ∧ ∃ zs : List V, Two (WordAt L H2 most) zs (e.kids.take i) ∧ H2 L = some (.lst zs)) ⟨same_upd hL, [], .nil, upd_same⟩ (fun i H2 _ h => SqT.of (h.1 _ _ hp)) (fun i x H2 hx h => ?_) (fun H2 h => ?_)
    · obtain ⟨h0, zs, hzs, h2⟩ := h
      obtain ⟨d, hd1, hxd⟩ := hX.get hx
      rw [List.getElem?_map] at hd1
      obtain ⟨k, hk, rfl⟩ := Option.map_eq_some_iff.mp hd1
      have hmem := List.mem_of_getElem? hk
      have hdk := depth_kids e k hmem
      have hkp := (kid_parts hmem).1
      have hzl := hzs.len
      rw [List.length_take] at hzl
      refine ⟨rfl, tyes ⟨_, rfl, _, rfl, x, k, most, rfl, ok_kids hok k hmem, by omega, by omega, hm5, hxd.pers (Pers.same h0), fun r H3 ns s3 hr0 hr3 hn3 => ⟨_, s3 _ _ h2, ?_, ?_, zs ++ [.ref r], ?_, upd_same⟩⟩⟩
      · have : i < xs.length := (List.getElem?_eq_some_iff.mp hx).1
        exact Nat.lt_of_le_of_lt (m := 100000) (by omega) (by decide)
      · exact fun b o e => by rw [upd_ne (ne_of_none e hL)]; exact s3 _ _ (h0 b o e)
      · rw [take_snoc hk]
        have nrL : r ≠ L := (ne_of_none h2 hr0).symm
        exact (hzs.mono fun _ _ g => (g.same s3).store).app (.cons ⟨r, ns, rfl, nrL, by rw [upd_ne nrL]; exact hr3, hn3⟩ .nil)
    · obtain ⟨h0, vs, hvs, hLv⟩ := h
      rw [hl, List.take_length] at hvs
      have S2 := s1.trans h0
      have hp2 := S2 _ _ hp0
      have hvl := hvs.len
      refine ⟨_, rfl, p0, _, 0, _, rfl, rfl, SqT.of hp2, at_zero, rfl, _, rfl, ite2 (fun e2 => ?_) (fun e2 => ?_)⟩
      · have hw := vstr e2
        rcases hk with (⟨h, k, rfl, rfl⟩ | ⟨h, k, rfl, rfl⟩) | ⟨h, es, rfl, hes, rfl⟩ | ⟨h, es, rfl, _, rfl⟩
        · exact absurd (hw.symm.trans h) jm
        · exact absurd (hw.symm.trans h) jn
        · refine ⟨by show 1 ≤ sizeLine; decide, fun f0 hf0 => ?_⟩
          have oes : es.all E.ok = true := by
            rw [E.ok, oks_eq] at hok
            simp only [Bool.and_eq_true] at hok
            exact hok.1.2
          have letJ : ∀ i w, MW.mwJ (es.take i) w → ∀ c ∈ w, 97 ≤ c ∧ c ≤ 100 := fun i w h c hc => (mw_letsJ (es.take i) (by
            rw [List.all_eq_true] at oes ⊢
            exact fun x hx => oes x (List.mem_of_mem_take hx)) w h c hc).2
          refine ⟨_, rfl, L, rfl, ⟨_, SqL.of ((same_upd hf0) _ _ hLv)⟩, for_list (K := K) (a := L) (xs := vs) (fun i σ' H' => ∃ (fd : Addr) (ms : List Str) (o : Option V), σ' = [some (.ref p0), some (.int most), some (.ref L), some (.ref fd), o, none, none] ∧ Same H2 H' ∧ H fd = none ∧ H' fd = some (.lst (ms.map V.str)) ∧ WordsOf (MW.mwJ (es.take i)) most ms)
            ⟨f0, [sNo], none, rfl, same_upd hf0, S2.free hf0, upd_same, words_one (fun w => by rw [List.take_zero, MW.mwJ, cps_no]) (by rw [len_no]; exact Nat.zero_le _)⟩ (fun i σ' H' _ h => ?_) (fun i y σ' H' hi h => ?_) (fun σ' H' h => ?_)⟩
          · obtain ⟨_, _, _, _, h1, _⟩ := h
            exact SqL.of (h1 _ _ hLv)
          · obtain ⟨fd, ms, o, rfl, g1, g2, g3, g4⟩ := h
            obtain ⟨k, hk, hnk⟩ := hvs.get hi
            obtain ⟨r, ns, rfl, _, r2, r3⟩ := (hnk.same g1).ex
            have hk5 : es[i]? = some k := hk
            have okk : k.ok = true := List.all_eq_true.mp oes k (List.mem_of_getElem? hk5)
            refine ⟨_, rfl, _, rfl, _, rfl, fd, r, ms, ns, most, rfl, g3, r2, g4.len hm5 (letJ i), r3.len hm5 (lets k okk), g4.short hm5, r3.short hm5, fun p6 H6 ms6 s6 hn6 h6 nd6 hz6 => ?_⟩
            refine ⟨p6, ms6, _, rfl, g1.trans s6, (S2.trans g1).free hn6, h6, ?_⟩
            rw [take_snoc hk5]
            exact words_join g4 r3 nd6 hz6 fun w => mwJ_snoc k _ w
          · obtain ⟨fd, ms, o, rfl, g1, g2, g3, g4⟩ := h
            rw [hvl] at g4
            have g4' : WordsOf (MW.mwJ es) most ms := by
              have e4 : es.take (E.join es).kids.length = es := List.take_length
              rw [e4] at g4
              exact g4
            exact ⟨_, rfl, q fd H' ms (S2.trans g1) g2 g3 (g4'.of fun w _ => by rw [MW])⟩
        · exact absurd (hw.symm.trans h) jo
      · have hwn := vstrN e2
        refine ⟨_, rfl, p0, _, 0, _, rfl, rfl, SqT.of hp2, at_zero, rfl, _, rfl, ite2 (fun e3 => ?_) (fun e3 => ?_)⟩
        · have hw := vstr e3
          rcases hk with (⟨h, k, rfl, rfl⟩ | ⟨h, k, rfl, rfl⟩) | ⟨h, es, rfl, hes, rfl⟩ | ⟨h, es, rfl, _, rfl⟩
          · exact absurd (hw.symm.trans h) om
          · exact absurd (hw.symm.trans h) on
          · exact absurd (h.symm.trans hw) jo
          · refine ⟨Nat.zero_le _, fun f0 hf0 => ?_⟩
            have oes : es.all E.ok = true := by
              rw [E.ok, oks_eq] at hok
              simp only [Bool.and_eq_true] at hok
              exact hok.1.2
            have hkl : es.length ≤ 400 := by
              rcases es with _ | ⟨k0, es⟩
              · exact Nat.zero_le _
              · have := (kid_parts (e := .alt (k0 :: es)) (k := k0) (List.mem_cons_self ..)).2
                exact Nat.le_trans this hpt
            have hf0L : f0 ≠ L := (ne_of_none hLv hf0).symm
            refine ⟨_, rfl, L, rfl, ⟨_, SqL.of ((same_upd hf0) _ _ hLv)⟩, for_list (K := K) (a := L) (xs := vs) (fun i σ' H' => ∃ (zs : List Str) (o : Option V), σ' = [some (.ref p0), some (.int most), some (.ref L), some (.ref f0), o, none, none] ∧ Same H2 H' ∧ H' f0 = some (.lst (zs.map V.str)) ∧ zs.length ≤ i * 3125 ∧ ∀ x, x ∈ zs ↔ x.length ≤ most ∧ ∃ k ∈ es.take i, MW k x.cps.toList)
              ⟨[], none, rfl, same_upd hf0, upd_same, Nat.zero_le _, fun x => by simp⟩ (fun i σ' H' _ h => ?_) (fun i y σ' H' hi h => ?_) (fun σ' H' h => ?_)⟩
            · obtain ⟨_, _, _, h1, _⟩ := h
              exact SqL.of (h1 _ _ hLv)
            · obtain ⟨zs, o, rfl, g1, g3, g4, g5⟩ := h
              obtain ⟨k, hk, hnk⟩ := hvs.get hi
              obtain ⟨r, ns, rfl, _, r2, r3⟩ := (hnk.same g1).ex
              have hk5 : es[i]? = some k := hk
              have hi5 := (List.getElem?_eq_some_iff.mp hk5).1
              have okk : k.ok = true := List.all_eq_true.mp oes k (List.mem_of_getElem? hk5)
              have hnl := r3.len hm5 (lets k okk)
              refine ⟨_, rfl, .inl ⟨rfl, _, SqL.of g3⟩, _, rfl, f0, r, _, _, rfl, rfl, g3, r2, ?_, zs ++ ns, _, rfl, ?_, ?_, ?_, fun x => ?_⟩
              · rw [List.length_map, List.length_map]
                have : zs.length + ns.length ≤ 400 * 3125 + 3125 := by
                  have : i * 3125 ≤ 400 * 3125 := Nat.mul_le_mul_right _ (by omega)
                  omega
                exact Nat.le_trans this (by decide)
              · exact fun b o hb => by rw [upd_ne (ne_of_none hb hf0)]; exact g1 _ _ hb
              · rw [upd_same, List.map_append]
              · rw [List.length_append, Nat.succ_mul]
                omega
              · rw [List.mem_append, g5, r3.mem]
                constructor
                · rintro (⟨h1, k', hk', h2⟩ | ⟨h1, h2⟩)
                  · exact ⟨h1, k', (mem_takeA hk5 k').mpr (.inl hk'), h2⟩
                  · exact ⟨h1, k, (mem_takeA hk5 k).mpr (.inr rfl), h2⟩
                · rintro ⟨h1, k', hk', h2⟩
                  rcases (mem_takeA hk5 k').mp hk' with c | rfl
                  · exact .inl ⟨h1, k', c, h2⟩
                  · exact .inr ⟨h1, h2⟩
            · obtain ⟨zs, o, rfl, g1, g3, g4, g5⟩ := h
              rw [hvl] at g4 g5
              have e4 : es.take (E.alt es).kids.length = es := List.take_length
              rw [e4] at g5
              refine ⟨_, rfl, .ref f0, zs, rfl, .inl ⟨f0, rfl, g3⟩, ?_, fun p6 H6 ms6 s6 hn6 h6 nd6 hz6 _ => q p6 H6 ms6 ((S2.trans g1).trans s6) ((S2.trans g1).free hn6) h6 ⟨nd6, fun x => ?_⟩⟩
              · have : (E.alt es).kids.length = es.length := rfl
                rw [this] at g4
                have : es.length * 3125 ≤ 400 * 3125 := Nat.mul_le_mul_right _ hkl
                omega
              · rw [hz6, g5, MW, mwA_iff]
        · have hwo := vstrN e3
          have hk' := hk.resolve_right fun c => c.elim (fun h => hwn h.1) (fun h => hwo h.1)
          obtain ⟨k, hkk, hyk, hwk⟩ : ∃ k, e.kids = [k] ∧ y = k.toD ∧ ((w = sMaybe ∧ e = .maybe k) ∨ (w = sMany ∧ e = .many k)) := by
            rcases hk' with ⟨h, k, rfl, rfl⟩ | ⟨h, k, rfl, rfl⟩
            · exact ⟨k, rfl, rfl, .inl ⟨h, rfl⟩⟩
            · exact ⟨k, rfl, rfl, .inr ⟨h, rfl⟩⟩
          rw [hkk] at hvs
          have okk : k.ok = true := by
            rcases hwk with ⟨_, rfl⟩ | ⟨_, rfl⟩ <;> (rw [E.ok] at hok; exact hok)
          obtain ⟨v0, hv0, hW0⟩ : ∃ v0, vs = [v0] ∧ WordAt L H2 most v0 k := by
            cases hvs with
            | cons h t =>
              cases t
              exact ⟨_, rfl, h⟩
          subst hv0
          obtain ⟨r0, ns, rfl, _, r2, r3⟩ := hW0.ex
          have hnl := r3.len hm5 (lets k okk)
          -- found = _law_once([''] + rows[0])
          refine ⟨by show 1 ≤ sizeLine; decide, fun z0 hz0 => ⟨_, rfl, L, _, 0, _, rfl, rfl, SqL.of ((same_upd hz0) _ _ hLv), at_zero, z0, r0, _, _, rfl, rfl, upd_same, (same_upd hz0) _ _ r2, ?_, fun c hc => ⟨_, sNo :: ns, rfl, .inl ⟨c, rfl, by rw [upd_same]; rfl⟩, ?_, fun p7 H7 ms7 s7 hn7 h7 nd7 hz7 _ => ?_⟩⟩⟩
          · rw [List.length_map]
            exact Nat.le_trans (m := 4000) (by show 1 + ns.length ≤ 4000; omega) (by decide)
          · rw [List.length_cons]
            omega
          have S7 := S2.trans ((same_upd hz0).trans ((same_upd hc).trans s7))
          have w7 : WordsOf (Pw (MW k) 1) most ms7 := words_pw1 r3 nd7 fun x => by rw [hz7, List.mem_cons]
          have letP : ∀ n w, Pw (MW k) n w → ∀ c ∈ w, 97 ≤ c ∧ c ≤ 100 := fun n w h => by
            have := mw_lets (.many k) (by rw [E.ok]; exact okk) w (by rw [MW]; exact pw_star n w h)
            exact fun c hc => (this c hc).2
          refine ⟨fun σ' H' => ∃ (fd : Addr) (ms : List Str) (o t : Option V), σ' = [some (.ref p0), some (.int most), some (.ref L), some (.ref fd), o, t, none] ∧ Same H H' ∧ H fd = none ∧ H' fd = some (.lst (ms.map V.str)) ∧ WordsOf (MW e) most ms, ?_, ?_⟩
          · refine ⟨_, rfl, p0, _, 0, _, rfl, rfl, SqT.of (S7 _ _ hp0), at_zero, rfl, _, rfl, ite2 (fun e4 => ?_) (fun e4 => ?_)⟩
            · have hw := vstr e4
              have hem : e = .many k := by
                rcases hwk with ⟨h, _⟩ | ⟨_, h⟩
                · exact absurd (h.symm.trans hw) mn
                · exact h
              refine ⟨_, rfl, _, rfl, by omega, by omega, for_range (lo := 0) (n := most) (fun i σ' H' => ∃ (fd : Addr) (zs : List Str) (o t : Option V), σ' = [some (.ref p0), some (.int most), some (.ref L), some (.ref fd), o, t, none] ∧ Same H7 H' ∧ H fd = none ∧ H' fd = some (.lst (zs.map V.str)) ∧ WordsOf (Pw (MW k) (i + 1)) most zs) ?_ ?_ ?_⟩
              · exact ⟨p7, ms7, _, _, rfl, Same.refl _, (S2.trans ((same_upd hz0).trans (same_upd hc))).free hn7, h7, w7⟩
              · rintro i σ' H8 hi ⟨f8, zs, o8, t8, rfl, a1, a2, a3, a4⟩
                have SL := ((same_upd hz0).trans ((same_upd hc).trans s7)).trans a1
                have zl := a4.len hm5 (letP _)
                refine ⟨_, rfl, _, rfl, _, rfl, L, _, 0, _, rfl, rfl, SqL.of (SL _ _ hLv), at_zero, _, rfl, f8, r0, zs, ns, most, rfl, a3, SL _ _ r2, zl, hnl, a4.short hm5, r3.short hm5, fun p9 H9 ms9 s9 hn9 h9 nd9 hz9 => ?_⟩
                have ml : ms9.length ≤ 3125 := words_len nd9 (fun z hz => by
                  obtain ⟨a, ha, b, hb, hl, rfl⟩ := (hz9 z).mp hz
                  rw [len_app]
                  omega) fun z hz => by
                  obtain ⟨a, ha, b, hb, hl, rfl⟩ := (hz9 z).mp hz
                  intro c hc
                  rw [cps_app] at hc
                  rcases List.mem_append.mp hc with hc | hc
                  · exact letP _ _ ((a4.mem a).mp ha).2 c hc
                  · exact lets k okk _ ((r3.mem b).mp hb).2 c hc
                refine ⟨f8, p9, _, _, rfl, rfl, s9 _ _ a3, h9, ?_, fun c8 hc8 => ⟨_, zs ++ ms9, rfl, .inl ⟨c8, rfl, by rw [upd_same, List.map_append]⟩, ?_, fun p6 H6 ms6 s6 hn6 h6 nd6 hz6 _ => ?_⟩⟩
                · rw [List.length_map, List.length_map]
                  exact Nat.le_trans (m := 8000) (by omega) (by decide)
                · rw [List.length_append]
                  omega
                · have S9 := a1.trans (s9.trans (same_upd (o := .lst (zs.map V.str ++ ms9.map V.str)) hc8))
                  exact ⟨p6, ms6, _, _, rfl, S9.trans s6, (S7.trans S9).free hn6, h6, words_pw a4 r3 hz9 nd6 fun x => by rw [hz6, List.mem_append]⟩
              · rintro σ' H8 ⟨f8, zs, o8, t8, rfl, a1, a2, a3, a4⟩
                refine ⟨f8, zs, o8, t8, rfl, S7.trans a1, a2, a3, ?_⟩
                rw [hem]
                exact a4.of fun w hl => by
                  rw [MW]
                  exact (star_iff (Nat.le_succ_of_le hl)).symm
            · have hw := vstrN e4
              have hem : e = .maybe k := by
                rcases hwk with ⟨_, h⟩ | ⟨h, _⟩
                · exact h
                · exact absurd h hw
              refine ⟨p7, ms7, _, _, rfl, S7, (S2.trans ((same_upd hz0).trans (same_upd hc))).free hn7, h7, ?_⟩
              rw [hem]
              refine w7.of fun w _ => ?_
              rw [MW]
              constructor
              · rintro (h | ⟨u, v, rfl, hu, hv⟩)
                · exact .inl h
                · have hu' : u = [] := hu
                  subst hu'
                  exact .inr hv
              · rintro (h | h)
                · exact .inl h
                · exact .inr ⟨[], w, rfl, rfl, h⟩
          · rintro σ' H8 ⟨f8, ns8, o8, t8, rfl, a1, a2, a3, a4⟩
            exact ⟨_, rfl, q f8 H8 ns8 a1 a2 a3 a4⟩
end
end My
namespace My
open PySem PySem.Spec PyProof.Rows L2
structure Eok (e : E) : Prop where
  ok : e.ok = true
  dep : e.depth ≤ 40
  pl : e.places ≤ 40
  pt : e.parts ≤ 200
  sz : e.toD.size ≤ 1000000
theorem long_top {e : E} (h : Eok e) : (sizesOf (40, 40, 200) e.toD).isSome = true := by
  rw [sizes_ok h.ok (by decide), if_pos (within_iff.mpr ⟨h.pl, Nat.le_trans h.dep (by decide), h.pt⟩)]
  rfl
def spPlc (g : Gl → List Nat) : Sp := fun vs H Q _ => ∃ (v : V) (e : E), vs = [v] ∧ Eok e ∧ Rep H v e.toD ∧ ∀ p H', Same H H' → H' p = some (.tup (natsV (g (gl e 0)))) → Q (.ref p) H'
def spNum : Sp := fun vs H Q _ => ∃ (i a b : Int), vs = [.int i, .int a, .int b] ∧ Q (.bl (decide (a ≤ i ∧ i ≤ b))) H
def spIsPlace (C : Addr) : Sp := fun vs H Q _ => ∃ (p : Addr) (e : E) (i : Nat), vs = [.ref p, .int i] ∧ i < e.places ∧ e.places ≤ 40 ∧ StepsAt C H p e ∧ Q (.bl true) H
def spFolw : Sp := fun vs H Q _ => ∃ (v : V) (e : E) (i : Nat), vs = [v, .int i] ∧ Eok e ∧ i < e.places ∧ Rep H v e.toD ∧ ∀ p H', Same H H' → H' p = some (.tup (natsV (folAt e i))) → Q (.ref p) H'
section
variable {P : Program} {w : World} {K : PySem.W.Frag} {mg : Str → Option Value} {base : Heap} {a_BOUNDS a_LONG_BOUNDS : Addr} {tL tM : Tok}
end
end My
namespace My
open PySem PySem.Spec PyProof.Rows L2
def spCheckW : Sp := fun vs H Q _ => ∃ (v : V) (d : My.D), vs = [v] ∧ Rep H v d ∧ isWord d = true ∧ ∀ H', Same H H' → Q .non H'
def spMatches : Sp := fun vs H Q _ => ∃ (v : V) (e : E) (z : Str), vs = [v, .str z] ∧ Eok e ∧ Rep H v e.toD ∧ z.length ≤ 24 ∧ LetW z ∧ ∀ H', Same H H' → Q (.bl (rightL e z.cps.toList)) H'
def spAllW : Sp := fun vs H Q _ => ∃ (z : Str) (most : Nat), vs = [.str z, .int most] ∧ z.length ≤ 8 ∧ most ≤ 4 ∧ LetW z ∧ ∀ (p : Addr) (H' : Hp) (ms : List Str), Same H H' → H p = none → H' p = some (.lst (ms.map V.str)) → (∀ x ∈ ms, x.length ≤ most ∧ LetW x) → Q (.ref p) H'
theorem isWord_ok {z : Str} (h : z.length ≤ 24) (l : LetW z) : isWord (.str z) = true := by
  show (decide (z.length ≤ 24) && z.cps.toList.all fun c => decide (c ∈ (Str.ofString "abcd").cps.toList)) = true
  rw [decide_eq_true h, Bool.true_and, List.all_eq_true]
  exact fun c hc => decide_eq_true ((abcd_in c).mpr (l c hc))
theorem letW_app {a b : Str} (ha : LetW a) (hb : LetW b) : LetW (a ++ b) := fun c hc => by
  rw [cps_app] at hc
  rcases List.mem_append.mp hc with h | h
  · exact ha c h
  · exact hb c h
theorem letW_no : LetW sNo := fun c hc => by
  rw [cps_no] at hc
  cases hc
theorem size_le : ∀ e : E, e.toD.size ≤ 4 * e.parts := by
  have A : ∀ n (e : E), e.depth ≤ n → e.toD.size ≤ 4 * e.parts := by
    intro n
    induction n with
    | zero =>
      intro e h
      cases e with
      | eps => rw [E.toD, E.parts, My.D.size]; omega
      | sym c => rw [E.toD, E.parts, My.D.size]; omega
      | maybe e => rw [E.depth] at h; omega
      | many e => rw [E.depth] at h; omega
      | join es => rw [E.depth] at h; omega
      | alt es => rw [E.depth] at h; omega
    | succ n ih =>
      have rows : ∀ es : List E, (∀ e ∈ es, e.depth ≤ n) → ((es.map E.toD).map My.D.size).sum ≤ 4 * (es.map E.parts).sum := by
        intro es
        induction es with
        | nil => intro _; exact Nat.zero_le _
        | cons e es ih2 =>
          intro h
          have h1 := ih e (h e (List.mem_cons_self ..))
          have h2 := ih2 fun x hx => h x (List.mem_cons_of_mem _ hx)
          simp only [List.map_cons, List.sum_cons]
          omega
      intro e h
      cases e with
      | eps => rw [E.toD, E.parts, My.D.size]; omega
      | sym c => rw [E.toD, E.parts, My.D.size]; omega
      | maybe e =>
        rw [E.depth] at h
        have := ih e (by omega)
        rw [E.toD, E.parts]
        simp only [My.D.size, My.D.size.sizes]
        omega
      | many e =>
        rw [E.depth] at h
        have := ih e (by omega)
        rw [E.toD, E.parts]
        simp only [My.D.size, My.D.size.sizes]
        omega
      | join es =>
        have hk : ∀ e ∈ es, e.depth ≤ n := fun e he => by
          have := depth_kids (.join es) e he
          omega
        have := rows es hk
        rw [E.toD, E.parts, partss_eq, toDs_eq]
        simp only [My.D.size, My.D.size.sizes, sizes_eq]
        omega
      | alt es =>
        have hk : ∀ e ∈ es, e.depth ≤ n := fun e he => by
          have := depth_kids (.alt es) e he
          omega
        have := rows es hk
        rw [E.toD, E.parts, partss_eq, toDs_eq]
        simp only [My.D.size, My.D.size.sizes, sizes_eq]
        omega
  exact fun e => A _ e (Nat.le_refl _)
section
variable {P : Program} {w : World} {K : PySem.W.Frag} {mg : Str → Option Value} {base : Heap} {a_BOUNDS a_LONG_BOUNDS : Addr} {tL tM : Tok}
end
end My
namespace My
open PySem PySem.Spec PyProof.Rows L2
theorem Two.rev {α β : Type} {R : α → β → Prop} {as : List α} {bs : List β} (h : Two R as bs) : Two R as.reverse bs.reverse := by
  induction h with
  | nil => exact .nil
  | cons h _ ih =>
    rw [List.reverse_cons, List.reverse_cons]
    exact ih.app (.cons h .nil)
/-- a tuple of a word and what stands behind it -/
theorem rep_node {H : Hp} {p : Addr} {w : Str} {x : V} {d : My.D} (h : H p = some (.tup [.str w, x])) (hw : w.length ≤ 1000) (hx : Rep H x d) : Rep H (.ref p) (.tup [.str w, d]) :=
  Rep.tup2 h (by show 2 ≤ 100000; decide) (.cons (.str hw) (.cons hx .nil))
def spTurn (n : Nat) : Sp := fun vs H Q _ => ∃ (v : V) (e : E), vs = [v] ∧ e.ok = true ∧ e.depth < n ∧ e.parts ≤ 400 ∧ Rep H v e.toD ∧ ∀ u H', Same H H' → Rep H' u (turnE e).toD → Q u H'
def spTurned : Sp := fun vs H Q _ => ∃ (v : V) (e : E), vs = [v] ∧ Eok e ∧ Rep H v e.toD ∧ ∀ u H', Same H H' → Rep H' u (turnE e).toD → Q u H'
theorem str_cases {H : Hp} {v : V} {e : E} (hR : Rep H v e.toD) (h : isStr e.toD = true) : ∃ z : Str, v = .str z ∧ z.length ≤ 1000 ∧ ((e = .eps ∧ z = sNo) ∨ ∃ c, e = .sym c ∧ z = ⟨#[c]⟩) := by
  cases e with
  | eps =>
    rw [E.toD] at hR
    cases hR with
    | str hz => exact ⟨_, rfl, hz, .inl ⟨rfl, rfl⟩⟩
  | sym c =>
    rw [E.toD] at hR
    cases hR with
    | str hz => exact ⟨_, rfl, hz, .inr ⟨c, rfl, rfl⟩⟩
  | maybe k => exact absurd h (by rw [E.toD]; intro c; cases c)
  | many k => exact absurd h (by rw [E.toD]; intro c; cases c)
  | join es => exact absurd h (by rw [E.toD]; intro c; cases c)
  | alt es => exact absurd h (by rw [E.toD]; intro c; cases c)
theorem parts_len {es : List E} : es.length ≤ (es.map E.parts).sum := by
  induction es with
  | nil => exact Nat.zero_le _
  | cons e es ih =>
    have := parts_pos e
    rw [List.map_cons, List.sum_cons, List.length_cons]
    omega
section
variable {P : Program} {w : World} {K : PySem.W.Frag} {mg : Str → Option Value} {base : Heap} {a_BOUNDS a_LONG_BOUNDS : Addr} {tL tM : Tok}
end
end My
namespace My
open PySem PySem.Spec PyProof.Rows L2
structure Ord (z : Str) : Prop where
  pm : z.cps.toList.Perm [97, 98, 99, 100]
def ordF (z : Str) (c : Nat) : Nat := z.cps.toList.getD (c - 97) 0
def ordG (z : Str) (d : Nat) : Nat := if d = ordF z 97 then 97 else if d = ordF z 98 then 98 else if d = ordF z 99 then 99 else 100
theorem Ord.four {z : Str} (h : Ord z) : ∃ a b c d, z.cps.toList = [a, b, c, d] ∧ a ≠ b ∧ a ≠ c ∧ a ≠ d ∧ b ≠ c ∧ b ≠ d ∧ c ≠ d := by
  have hl := h.pm.length_eq
  have hn : z.cps.toList.Nodup := h.pm.nodup_iff.mpr (by decide)
  match hz : z.cps.toList, hl, hn with
  | [a, b, c, d], _, hn =>
    refine ⟨a, b, c, d, rfl, ?_⟩
    simp at hn
    exact ⟨hn.1.1, hn.1.2.1, hn.1.2.2, hn.2.1.1, hn.2.1.2, hn.2.2⟩
theorem Ord.gf {z : Str} (h : Ord z) (c : Nat) (hc : 97 ≤ c ∧ c ≤ 100) : ordG z (ordF z c) = c := by
  obtain ⟨a, b, d, e, hz, h1, h2, h3, h4, h5, h6⟩ := h.four
  have f1 : ordF z 97 = a := by unfold ordF; rw [hz]; rfl
  have f2 : ordF z 98 = b := by unfold ordF; rw [hz]; rfl
  have f3 : ordF z 99 = d := by unfold ordF; rw [hz]; rfl
  have f4 : ordF z 100 = e := by unfold ordF; rw [hz]; rfl
  have : c = 97 ∨ c = 98 ∨ c = 99 ∨ c = 100 := by omega
  unfold ordG
  rcases this with rfl | rfl | rfl | rfl
  · rw [if_pos rfl]
  · rw [f1, f2, if_neg h1.symm, if_pos rfl]
  · rw [f1, f2, f3, if_neg h2.symm, if_neg h4.symm, if_pos rfl]
  · rw [f1, f2, f3, f4, if_neg h3.symm, if_neg h5.symm, if_neg h6.symm]
theorem Ord.at {z : Str} (h : Ord z) {c : Nat} (hc : 97 ≤ c ∧ c ≤ 100) : z.cps.toList[c - 97]? = some (ordF z c) := by
  have hl := h.pm.length_eq
  have hl2 : z.cps.toList.length = 4 := hl
  have lt : c - 97 < z.cps.toList.length := by omega
  unfold ordF
  rw [List.getD_eq_getElem?_getD, List.getElem?_eq_getElem lt]
  rfl
theorem Ord.rng {z : Str} (h : Ord z) (c : Nat) (hc : 97 ≤ c ∧ c ≤ 100) : 97 ≤ ordF z c ∧ ordF z c ≤ 100 := by
  have := h.pm.mem_iff.mp (List.mem_of_getElem? (h.at hc))
  simp at this
  omega
theorem Ord.len {z : Str} (h : Ord z) : z.length = 4 := by
  rw [len_cps]
  exact h.pm.length_eq
theorem sidx {c : Nat} (hc : 97 ≤ c ∧ c ≤ 100) : ∃ rest, Builtin.Str.occurrences "abcd" ⟨#[c]⟩ 0 (Str.ofString "abcd").length 1 = (c - 97) :: rest := by
  have : c = 97 ∨ c = 98 ∨ c = 99 ∨ c = 100 := by omega
  rcases this with rfl | rfl | rfl | rfl <;> exact ⟨[], by decide +kernel⟩
def spIsOrd : Sp := fun vs H Q _ => ∃ z : Str, vs = [.str z] ∧ Ord z ∧ ∀ H', Same H H' → Q (.bl true) H'
theorem u64 {k : Nat} {A : Around} (h : Room k A) : A.units + 64 < cLine := by
  have := h.un
  omega
def E.isEps : E → Bool
  | .eps => true
  | _ => false
theorem iteT_of {b : Bool} {A B : Prop} (c : b = true) (h : A) : if b = true then A else B := by
  rw [if_pos c]
  exact h
theorem iteF_of {b : Bool} {A B : Prop} (c : ¬ b = true) (h : B) : if b = true then A else B := by
  rw [if_neg c]
  exact h
def dE : E → PyData
  | .eps => .str sNo
  | .sym c => .str ⟨#[c]⟩
  | .maybe e => .tuple [.str sMaybe, dE e]
  | .many e => .tuple [.str sMany, dE e]
  | .join es => .tuple [.str sJoin, .tuple (dEs es)]
  | .alt es => .tuple [.str sOr, .tuple (dEs es)]
where dEs : List E → List PyData
  | [] => []
  | e :: es => dE e :: dEs es
theorem strOk_sym {c : Nat} (h : 97 ≤ c ∧ c ≤ 100) : PyData.canLay0 (.str ⟨#[c]⟩) = true := by
  have : c = 97 ∨ c = 98 ∨ c = 99 ∨ c = 100 := by omega
  rcases this with rfl | rfl | rfl | rfl <;> decide +kernel
mutual
theorem dE_lay : ∀ e : E, e.ok = true → (dE e).canLay0 = true
  | .eps, _ => by rw [dE]; decide +kernel
  | .sym c, ho => by
    rw [E.ok] at ho
    simp only [Bool.and_eq_true, decide_eq_true_eq] at ho
    rw [dE]
    exact strOk_sym ho
  | .maybe e, ho => by
    have h := dE_lay e (by rw [E.ok] at ho; exact ho)
    have h2 : PyData.canLay0 (.str sMaybe) = true := by decide +kernel
    rw [dE]
    simp only [PyData.canLay0, PyData.canLayAll0] at h2 ⊢
    rw [h, h2]
    rfl
  | .many e, ho => by
    have h := dE_lay e (by rw [E.ok] at ho; exact ho)
    have h2 : PyData.canLay0 (.str sMany) = true := by decide +kernel
    rw [dE]
    simp only [PyData.canLay0, PyData.canLayAll0] at h2 ⊢
    rw [h, h2]
    rfl
  | .join es, ho => by
    rw [E.ok, oks_eq] at ho
    simp only [Bool.and_eq_true] at ho
    have h := dEs_lay es ho.1.2
    have h2 : PyData.canLay0 (.str sJoin) = true := by decide +kernel
    rw [dE]
    simp only [PyData.canLay0, PyData.canLayAll0] at h2 ⊢
    rw [h, h2]
    rfl
  | .alt es, ho => by
    rw [E.ok, oks_eq] at ho
    simp only [Bool.and_eq_true] at ho
    have h := dEs_lay es ho.1.2
    have h2 : PyData.canLay0 (.str sOr) = true := by decide +kernel
    rw [dE]
    simp only [PyData.canLay0, PyData.canLayAll0] at h2 ⊢
    rw [h, h2]
    rfl
theorem dEs_lay : ∀ es : List E, es.all E.ok = true → PyData.canLayAll0 (dE.dEs es) = true
  | [], _ => by rw [dE.dEs]; rfl
  | e :: es, ho => by
    rw [List.all_cons, Bool.and_eq_true] at ho
    rw [dE.dEs, PyData.canLayAll0, dE_lay e ho.1, dEs_lay es ho.2]
    rfl
end
mutual
theorem dE_dep : ∀ e : E, (dE e).depth ≤ 2 * e.depth
  | .eps => by rw [dE]; exact Nat.zero_le _
  | .sym c => by rw [dE]; exact Nat.zero_le _
  | .maybe e => by
    have h := dE_dep e
    rw [dE, E.depth]
    simp only [PyData.depth, PyData.depthAll]
    omega
  | .many e => by
    have h := dE_dep e
    rw [dE, E.depth]
    simp only [PyData.depth, PyData.depthAll]
    omega
  | .join es => by
    have h := dEs_dep es
    rw [dE, E.depth]
    simp only [PyData.depth, PyData.depthAll]
    omega
  | .alt es => by
    have h := dEs_dep es
    rw [dE, E.depth]
    simp only [PyData.depth, PyData.depthAll]
    omega
theorem dEs_dep : ∀ es : List E, PyData.depthAll (dE.dEs es) ≤ 2 * E.depth.depths es
  | [] => by rw [dE.dEs]; exact Nat.zero_le _
  | e :: es => by
    have h1 := dE_dep e
    have h2 := dEs_dep es
    rw [dE.dEs, PyData.depthAll, E.depth.depths]
    omega
end
theorem unpair {H : Hp} {v : V} {w : Str} {d : My.D} (h : Rep H v (.tup [.str w, d])) : ∃ p x, v = .ref p ∧ H p = some (.tup [.str w, x]) ∧ Rep H x d := by
  obtain ⟨p, xs, rfl, h1, _, h2⟩ := h.untup
  match xs, h2 with
  | [_, x], .cons (.str _) (.cons hx .nil) => exact ⟨p, x, rfl, h1, hx⟩
mutual
theorem rep_dp {K : PySem.W.Frag} {H : Hp} : ∀ (e : E) (v : V), Rep H v e.toD → Dp K H v (dE e)
  | .eps, v, h => by
    rw [E.toD] at h
    cases h with
    | str _ => exact .str _
  | .sym c, v, h => by
    rw [E.toD] at h
    cases h with
    | str _ => exact .str _
  | .maybe e, v, h => by
    rw [E.toD] at h
    obtain ⟨p, x, rfl, h1, h2⟩ := unpair h
    rw [dE]
    exact .tup (SqT.of h1) (.cons (.str _) (.cons (rep_dp e x h2) .nil))
  | .many e, v, h => by
    rw [E.toD] at h
    obtain ⟨p, x, rfl, h1, h2⟩ := unpair h
    rw [dE]
    exact .tup (SqT.of h1) (.cons (.str _) (.cons (rep_dp e x h2) .nil))
  | .join es, v, h => by
    rw [E.toD] at h
    obtain ⟨p, x, rfl, h1, h2⟩ := unpair h
    obtain ⟨p2, xs, rfl, h3, _, h4⟩ := h2.untup
    rw [dE]
    exact .tup (SqT.of h1) (.cons (.str _) (.cons (.tup (SqT.of h3) (reps_dp es xs h4)) .nil))
  | .alt es, v, h => by
    rw [E.toD] at h
    obtain ⟨p, x, rfl, h1, h2⟩ := unpair h
    obtain ⟨p2, xs, rfl, h3, _, h4⟩ := h2.untup
    rw [dE]
    exact .tup (SqT.of h1) (.cons (.str _) (.cons (.tup (SqT.of h3) (reps_dp es xs h4)) .nil))
theorem reps_dp {K : PySem.W.Frag} {H : Hp} : ∀ (es : List E) (vs : List V), Two (Rep H) vs (E.toD.toDs es) → DpAll K H vs (dE.dEs es)
  | [], vs, h => by
    rw [E.toD.toDs] at h
    cases h
    rw [dE.dEs]
    exact .nil
  | e :: es, vs, h => by
    rw [E.toD.toDs] at h
    cases h with
    | cons h1 h2 =>
      rw [dE.dEs]
      exact .cons (rep_dp e _ h1) (reps_dp es _ h2)
end
theorem dEs_kid : ∀ {es : List E} {k : E}, k ∈ es → (dE k).depth ≤ PyData.depthAll (dE.dEs es)
  | [], _, h => by cases h
  | e :: es, k, h => by
    rw [dE.dEs, PyData.depthAll]
    rcases List.mem_cons.mp h with rfl | h
    · omega
    · have := dEs_kid h
      omega
theorem dE_kids {e k : E} (h : k ∈ e.kids) : (dE k).depth ≤ (dE e).depth := by
  cases e with
  | eps => cases h
  | sym c => cases h
  | maybe x =>
    cases List.mem_singleton.mp h
    rw [dE.eq_3]
    simp only [PyData.depth, PyData.depthAll]
    omega
  | many x =>
    cases List.mem_singleton.mp h
    rw [dE.eq_4]
    simp only [PyData.depth, PyData.depthAll]
    omega
  | join es =>
    have := dEs_kid (es := es) h
    rw [dE.eq_5]
    simp only [PyData.depth, PyData.depthAll]
    omega
  | alt es =>
    have := dEs_kid (es := es) h
    rw [dE.eq_6]
    simp only [PyData.depth, PyData.depthAll]
    omega
theorem dE_shaped {e : E} (ho : e.ok = true) (hd : (dE e).depth ≤ 60) : SeqAt.shaped (dE e) = true := by
  show ((dE e).canLay0 && decide ((dE e).depth ≤ 64)) = true
  rw [dE_lay e ho, decide_eq_true (by omega)]
  rfl
def spRen (n : Nat) : Sp := fun vs H Q _ => ∃ (v : V) (e : E) (z : Str), vs = [v, .str z] ∧ e.ok = true ∧ e.depth < n ∧ (dE e).depth ≤ 60 ∧ e.parts ≤ 400 ∧ Ord z ∧ Rep H v e.toD ∧ ∀ u H', Same H H' → Rep H' u (renE (ordF z) e).toD → Q u H'
def spRenamed : Sp := fun vs H Q _ => ∃ (v : V) (e : E) (z : Str), vs = [v, .str z] ∧ Eok e ∧ (dE e).depth ≤ 60 ∧ Ord z ∧ Rep H v e.toD ∧ ∀ u H', Same H H' → Rep H' u (renE (ordF z) e).toD → Q u H'
theorem no_shaped : SeqAt.shaped (.str sNo) = true := by decide +kernel
/-- is it "" -/
theorem dE_no (e : E) : PyData.eqv (dE e) (.str sNo) = decide (e.isEps = true) := by
  cases e with
  | eps => rw [dE]; decide +kernel
  | sym c =>
    rw [dE]
    show ((⟨#[c]⟩ : Str) == sNo) = false
    rw [beq_eq_false_iff_ne]
    intro h
    have := congrArg Str.length h
    rw [len_no] at this
    cases this
  | maybe k => rw [dE]; simp [PyData.eqv, E.isEps]
  | many k => rw [dE]; simp [PyData.eqv, E.isEps]
  | join es => rw [dE]; simp [PyData.eqv, E.isEps]
  | alt es => rw [dE]; simp [PyData.eqv, E.isEps]
section
variable {P : Program} {w : World} {K : PySem.W.Frag} {mg : Str → Option Value} {base : Heap} {a_BOUNDS a_LONG_BOUNDS : Addr} {tL tM : Tok}
end
end My
namespace My
open PySem PySem.Spec PyProof.Rows L2
def spLeast (n : Nat) : Sp := fun vs H Q _ => ∃ (v : V) (e : E), vs = [v] ∧ e.ok = true ∧ e.depth < n ∧ Rep H v e.toD ∧ ∀ H', Same H H' → Q (.int e.least) H'
def ov : Option Nat → V
  | none => .non
  | some g => .int g
def spGreat (n : Nat) : Sp := fun vs H Q _ => ∃ (v : V) (e : E), vs = [v] ∧ e.ok = true ∧ e.depth < n ∧ Rep H v e.toD ∧ ∀ H', Same H H' → Q (ov e.greatest) H'
theorem minL_is : ∀ (l : List Nat) (m : Int), m ∈ l.map (fun (a : Nat) => (a : Int)) → (∀ y ∈ l.map (fun (a : Nat) => (a : Int)), m ≤ y) → m = (minL l : Int)
  | [], m, h, _ => by cases h
  | [a], m, h, _ => by
    rw [List.map_cons, List.map_nil, List.mem_singleton] at h
    exact h
  | a :: b :: r, m, h, k => by
    have h0 := k a (by simp)
    by_cases c : m = (a : Int)
    · have hb : ∀ x ∈ (b :: r), a ≤ x := fun x hx => by
        have := k x (List.mem_map.mpr ⟨x, List.mem_cons_of_mem _ hx, rfl⟩)
        omega
      have : a ≤ minL (b :: r) := by
        have A : ∀ (l : List Nat), l ≠ [] → minL l ∈ l := by
          intro l
          induction l with
          | nil => intro h; exact absurd rfl h
          | cons x l ih =>
            intro _
            cases l with
            | nil => exact List.mem_singleton.mpr rfl
            | cons y l =>
              show min x (minL (y :: l)) ∈ x :: y :: l
              have h2 := ih (by intro e; cases e)
              by_cases c : x ≤ minL (y :: l)
              · rw [Nat.min_eq_left c]
                exact List.mem_cons_self ..
              · rw [Nat.min_eq_right (by omega)]
                exact List.mem_cons_of_mem _ h2
        exact hb _ (A _ (by intro e; cases e))
      show m = ((min a (minL (b :: r)) : Nat) : Int)
      omega
    · have h1 : m ∈ (b :: r).map (fun (a : Nat) => (a : Int)) := by
        rw [List.map_cons] at h
        rcases List.mem_cons.mp h with h | h
        · exact absurd h c
        · exact h
      have ih := minL_is (b :: r) m h1 fun y hy => k y (by rw [List.map_cons]; exact List.mem_cons_of_mem _ hy)
      show m = ((min a (minL (b :: r)) : Nat) : Int)
      omega
theorem maxL_is (l : List Nat) (m : Int) (h : m ∈ l.map (fun (a : Nat) => (a : Int))) (k : ∀ y ∈ l.map (fun (a : Nat) => (a : Int)), y ≤ m) : m = (maxL l : Int) := by
  have A : ∀ l : List Nat, (∀ x ∈ l, x ≤ maxL l) := by
    intro l
    induction l with
    | nil => intro x hx; cases hx
    | cons a l ih =>
      intro x hx
      show x ≤ max a (maxL l)
      rcases List.mem_cons.mp hx with rfl | hx
      · exact Nat.le_max_left _ _
      · exact Nat.le_trans (ih x hx) (Nat.le_max_right _ _)
  have B : ∀ l : List Nat, l ≠ [] → maxL l ∈ l := by
    intro l
    induction l with
    | nil => intro h; exact absurd rfl h
    | cons a l ih =>
      intro _
      show max a (maxL l) ∈ a :: l
      cases l with
      | nil =>
        show max a 0 ∈ [a]
        rw [Nat.max_eq_left (Nat.zero_le _)]
        exact List.mem_singleton.mpr rfl
      | cons b r =>
        have h2 := ih (by intro e; cases e)
        by_cases c : a ≤ maxL (b :: r)
        · rw [Nat.max_eq_right c]
          exact List.mem_cons_of_mem _ h2
        · rw [Nat.max_eq_left (by omega)]
          exact List.mem_cons_self ..
  obtain ⟨x, hx, rfl⟩ := List.mem_map.mp h
  have h1 := A l x hx
  have hne : l ≠ [] := fun e => by rw [e] at hx; cases hx
  have h2 := k _ (List.mem_map.mpr ⟨_, B l hne, rfl⟩)
  omega
section
variable {P : Program} {w : World} {K : PySem.W.Frag} {mg : Str → Option Value} {base : Heap} {a_BOUNDS a_LONG_BOUNDS : Addr} {tL tM : Tok}
abbrev N__least : List Str := ["part", "word", "inner", "lengths", "each"]
theorem sc__least : FnScope ["part", "word", "inner", "lengths", "each"] ["part"] (defScope s__least) := ⟨rfl, rfl, rfl, by decide +kernel, rfl, by decide +kernel, by decide +kernel⟩
theorem ok_least_step {f : Addr} {fd : FuncData} (B : Bt K mg a_BOUNDS a_LONG_BOUNDS tL tM) (Dd : Df K mg "_least" s__least ["part"] f fd) (n : Nat) (G_least : Cl P w K mg base n "_least" ["part"] (spLeast n)) : FnOk P w K mg base CX0 (n + 1) f fd ["part"] (spLeast (n + 1)) := by
  refine Dd.F.ok sc__least (fun vs H Q Ex h => ?_) (fun cdv A outer s H vs Q Ex hr h => ?_)
  · obtain ⟨v, e, rfl, _⟩ := h
    rfl
  obtain ⟨v, e, rfl, hok, hd, hR, q⟩ := h
  refine ⟨_, (pss_cons (ps_if (pt_val (pe_callB call_isi rfl B.b_isinstance boot_isinstance (pa_cons (pv 0) (pa_cons (pe_bltn (v := .ty "str") rfl B.b_str boot_str rfl) pa_nil)))) (pss_one (ps_ret (pe_callB call_len rfl B.b_len boot_len (pa_cons (pv 0) pa_nil)))) pss_nil)
    (pss_cons (ps_asg (pv 0) (pg_tup rfl (pgs_cons (pg_name (i := 1) sc__least.nd rfl (Or.inl rfl)) (pgs_cons (pg_name (i := 2) sc__least.nd rfl (Or.inl rfl)) pgs_nil))))
    (pss_cons (ps_if (PW.pt (pw_or (pt_cmpR op_eq (pv 1) pe_str (nomark _)) (pw_or1 (pt_cmpR op_eq (pv 1) pe_str (nomark _))))) (pss_one (ps_ret pe_int)) pss_nil)
    (pss_cons (ps_setLc (i := 3) (own := [("each", 4)]) (g := gName 4) (tt := tYes) rfl sc__least.nd rfl rfl (sw_true rfl rfl rfl (by decide +kernel)) (pi_tup (pv 2)) (blkOk_by (N := N__least) (sc := defScope s__least) (by decide +kernel)) (fun _ _ _ _ _ => pg_name (i := 4) sc__least.nd rfl (Or.inl rfl)) (fun _ _ _ _ _ => pts_nil) (fun _ _ _ _ _ => (pe_cl G_least (hr.mono (by omega)) rfl (pa_cons (pv 4) pa_nil))))
    (pss_one (ps_ret (pe_ifExp (pt_cmpR op_eq (pv 1) pe_str (nomark _)) (pe_callB (cr_sum rfl) rfl B.b_sum boot_sum (pa_cons (pv 3) pa_nil)) (pe_callB (cr_min rfl) rfl B.b_min boot_min (pa_cons (pv 3) pa_nil))))))))), ?_⟩
  obtain ⟨t, ht, k1, _⟩ := hR.ty (K := K)
  refine ⟨_, rfl, _, _, _, _, _, rfl, .ty _, ht, k1, _, rfl, ite2 (fun e1 => ?_) (fun e1 => ?_)⟩
  · have hq := q H (Same.refl H)
    cases e with
    | eps =>
      rw [E.toD] at hR
      cases hR with
      | str h => exact ⟨_, rfl, _, _, rfl, ⟨Nat.le_trans h (by decide), rfl⟩, hq⟩
    | sym c =>
      rw [E.toD] at hR
      cases hR with
      | str h => exact ⟨_, rfl, _, _, rfl, ⟨Nat.le_trans h (by decide), rfl⟩, hq⟩
    | maybe k => exact absurd e1 (by rw [E.toD]; intro c; cases c)
    | many k => exact absurd e1 (by rw [E.toD]; intro c; cases c)
    | join es => exact absurd e1 (by rw [E.toD]; intro c; cases c)
    | alt es => exact absurd e1 (by rw [E.toD]; intro c; cases c)
  · obtain ⟨w, y, p, x, hlw, rfl, hp, hx, hk⟩ := node_of hok hR e1
    refine ⟨_, rfl, p, _, rfl, SqT.of hp, rfl, _, _, rfl, _, _, rfl, rfl, ?_⟩
    refine ⟨_, rfl, rfl, _, rfl, ite2 (fun e2 => iteT ?_) (fun e2 => ⟨_, rfl, rfl, _, rfl, ite2 (fun e3 => ?_) (fun e3 => ?_)⟩)⟩
    · have hw := vstr e2
      rcases hk with (⟨h, k, rfl, rfl⟩ | ⟨h, k, rfl, rfl⟩) | ⟨h, es, rfl, _, rfl⟩ | ⟨h, es, rfl, _, rfl⟩
      · exact q H (Same.refl H)
      · exact q H (Same.refl H)
      · exact absurd (h.symm.trans hw) jm
      · exact absurd (h.symm.trans hw) om
    · have hw := vstr e3
      rcases hk with (⟨h, k, rfl, rfl⟩ | ⟨h, k, rfl, rfl⟩) | ⟨h, es, rfl, _, rfl⟩ | ⟨h, es, rfl, _, rfl⟩
      · exact q H (Same.refl H)
      · exact q H (Same.refl H)
      · exact absurd (h.symm.trans hw) jn
      · exact absurd (h.symm.trans hw) on
    · have hk' := hk.resolve_left fun c => c.elim (fun h => vstrN e2 h.1) (fun h => vstrN e3 h.1)
      obtain ⟨es, hes, h2, rfl, hwj⟩ : ∃ es, e.kids = es ∧ 2 ≤ es.length ∧ y = .tup (es.map E.toD) ∧ ((w = sJoin ∧ e.least = (es.map E.least).sum) ∨ (w = sOr ∧ e.least = minL (es.map E.least))) := by
        rcases hk' with ⟨h, es, rfl, h2, rfl⟩ | ⟨h, es, rfl, h2, rfl⟩
        · exact ⟨es, rfl, h2, rfl, .inl ⟨h, by rw [E.least, leastl_eq]⟩⟩
        · exact ⟨es, rfl, h2, rfl, .inr ⟨h, by rw [E.least, leastl_eq]⟩⟩
      obtain ⟨p2, xs, rfl, hp2, hz2, hX⟩ := hx.untup
      have hl := hX.len
      rw [List.length_map] at hl
      refine ⟨_, rfl, p2, rfl, ⟨_, SqT.of hp2⟩, fun L hL => ?_⟩
      refine lc_tup (K := K) (a := p2) (xs := xs) (fun i H2 => Same H H2 ∧ H2 L = some (.lst (((es.take i).map fun k => (k.least : Int)).map V.int))) ⟨same_upd hL, upd_same⟩ (fun i H2 _ h => SqT.of (h.1 _ _ hp2)) (fun i x H2 hx h => ?_) (fun H2 h => ?_)
      · obtain ⟨d, hd1, hxd⟩ := hX.get hx
        rw [List.getElem?_map] at hd1
        obtain ⟨k, hk, rfl⟩ := Option.map_eq_some_iff.mp hd1
        have hmem : k ∈ e.kids := by rw [hes]; exact List.mem_of_getElem? hk
        refine ⟨rfl, tyes ⟨_, rfl, x, k, rfl, ok_kids hok k hmem, ?_, hxd.pers (Pers.same h.1), fun H3 s3 => ⟨_, s3 _ _ h.2, ?_, ?_, ?_⟩⟩⟩
        · have := depth_kids e k hmem
          omega
        · have : i < xs.length := (List.getElem?_eq_some_iff.mp hx).1
          rw [List.length_map, List.length_map, List.length_take]
          exact Nat.lt_of_le_of_lt (m := 100000) (by omega) (by decide)
        · exact fun b o e => by rw [upd_ne (ne_of_none e hL)]; exact s3 _ _ (h.1 b o e)
        · rw [upd_same, List.take_add_one, hk, List.map_append, List.map_append]
          rfl
      · obtain ⟨h1, h3⟩ := h
        rw [hl, List.take_length] at h3
        refine ⟨_, rfl, rfl, _, rfl, ite2 (fun e4 => ?_) (fun e4 => ?_)⟩
        · have hw := vstr e4
          have hq := q H2 h1
          rcases hwj with ⟨_, h⟩ | ⟨h, _⟩
          · refine ⟨_, rfl, L, _, rfl, SqL.of h3, ?_⟩
            rw [h] at hq
            rw [sum_cast es E.least]
            exact hq
          · exact absurd (hw.symm.trans h) jo
        · have hw := vstrN e4
          have hq := q H2 h1
          rcases hwj with ⟨h, _⟩ | ⟨_, h⟩
          · exact absurd h hw
          · refine ⟨_, rfl, L, _, rfl, SqL.of h3, by rw [List.length_map]; omega, fun m hm hle => ?_⟩
            have em : (es.map fun k => (k.least : Int)) = (es.map E.least).map (fun (a : Nat) => (a : Int)) := by
              rw [List.map_map]
              rfl
            rw [em] at hm hle
            rw [minL_is _ m hm hle]
            rw [h] at hq
            exact hq
end
end My
namespace My
open PySem PySem.Spec PyProof.Rows L2
/-! ### the simple form -/
def isB (j : Bool) (e : E) : Bool := if j then isJoin e else isAlt e
def wJ (j : Bool) : Str := if j then sJoin else sOr
def openE (j : Bool) (es : List E) : List E := es.flatMap fun e => if isB j e then e.kids else [e]
def rowS (j : Bool) : List E → E
  | [] => .eps
  | [e] => e
  | e1 :: e2 :: r => if j then .join (e1 :: e2 :: r) else .alt (e1 :: e2 :: r)
def neE (es : List E) : List E := es.filter fun e => !e.isEps
def joinS (es : List E) : E := rowS true (neE (openE true es))
def dedF (ks : List E) (e : E) : List E := if (ks.any fun k => PyData.eqv (dE k) (dE e)) then ks else ks ++ [e]
def dedE (es : List E) : List E := es.foldl dedF []
def orS (es : List E) : E := if ((neE (dedE es)).any fun e => decide (e.least = 0)) then rowS false (neE (dedE es)) else rowS false (dedE es)
def maybeS (e : E) : E := if e.least = 0 then e else .maybe e
def manyS : E → E
  | .eps => .eps
  | .maybe x => .many x
  | .many x => .many x
  | e => .many e
def simpE : E → E
  | .eps => .eps
  | .sym c => .sym c
  | .maybe e => maybeS (simpE e)
  | .many e => manyS (simpE e)
  | .join es => joinS (simps es)
  | .alt es => orS (openE false (simps es))
where simps : List E → List E
  | [] => []
  | e :: es => simpE e :: simps es
theorem simps_eq (es : List E) : simpE.simps es = es.map simpE := by
  induction es with
  | nil => rfl
  | cons e es ih => rw [simpE.simps, ih, List.map_cons]
structure Sm (e e' : E) : Prop where
  ok : e'.ok = true
  dep : e'.depth ≤ e.depth
  pts : e'.parts ≤ e.parts
  dd : (dE e').depth ≤ (dE e).depth
structure RowB (j : Bool) (d p q : Nat) (L : List E) : Prop where
  ok : ∀ x ∈ L, x.ok = true
  no : ∀ x ∈ L, isB j x = false
  dep : ∀ x ∈ L, x.depth ≤ d
  dd : ∀ x ∈ L, (dE x).depth ≤ q
  pts : (L.map E.parts).sum ≤ p
theorem sub_sum {xs ys : List Nat} (h : xs.Sublist ys) : xs.sum ≤ ys.sum := by
  induction h with
  | slnil => exact Nat.le_refl _
  | cons a _ ih => rw [List.sum_cons]; omega
  | cons_cons a _ ih => rw [List.sum_cons, List.sum_cons]; omega
theorem RowB.sub {j : Bool} {d p q : Nat} {L M : List E} (h : RowB j d p q L) (s : M.Sublist L) : RowB j d p q M where
  ok x hx := h.ok x (s.subset hx)
  no x hx := h.no x (s.subset hx)
  dep x hx := h.dep x (s.subset hx)
  dd x hx := h.dd x (s.subset hx)
  pts := Nat.le_trans (sub_sum (s.map E.parts)) h.pts
theorem dEs_le {d : Nat} : ∀ {es : List E}, (∀ x ∈ es, (dE x).depth ≤ d) → PyData.depthAll (dE.dEs es) ≤ d
  | [], _ => by rw [dE.dEs]; exact Nat.zero_le _
  | e :: es, h => by
    rw [dE.dEs, PyData.depthAll]
    have := h e List.mem_cons_self
    have := dEs_le fun x hx => h x (List.mem_cons_of_mem _ hx)
    omega
theorem rowS_sm {j : Bool} {d p q : Nat} {L : List E} (h : RowB j d p q L) : (rowS j L).ok = true ∧ (rowS j L).depth ≤ d + 1 ∧ (rowS j L).parts ≤ p + 1 ∧ (dE (rowS j L)).depth ≤ q + 2 := by
  match L, h with
  | [], _ => exact ⟨rfl, Nat.zero_le _, by show 1 ≤ p + 1; omega, by show (dE .eps).depth ≤ q + 2; rw [dE]; exact Nat.zero_le _⟩
  | [e], h =>
    have h1 := h.dep e List.mem_cons_self
    have h2 := h.dd e List.mem_cons_self
    have h3 := h.pts
    rw [List.map_cons, List.sum_cons] at h3
    exact ⟨h.ok e List.mem_cons_self, by show e.depth ≤ d + 1; omega, by show e.parts ≤ p + 1; omega, by show (dE e).depth ≤ q + 2; omega⟩
  | e1 :: e2 :: r, h =>
    have hd := depths_le h.dep
    have hq := dEs_le h.dd
    have hp := h.pts
    have hok : E.ok.oks (e1 :: e2 :: r) = true := by rw [oks_eq, List.all_eq_true]; exact h.ok
    have hno : ((e1 :: e2 :: r).any (isB j)) = false := by rw [List.any_eq_false]; exact fun x hx => by rw [h.no x hx]; exact Bool.false_ne_true
    cases j with
    | true =>
      have hno : ((e1 :: e2 :: r).any isJoin) = false := hno
      refine ⟨?_, ?_, ?_, ?_⟩
      · show E.ok (.join (e1 :: e2 :: r)) = true
        rw [E.ok, hok, hno, decide_eq_true (by show 2 ≤ r.length + 1 + 1; omega)]
        rfl
      · show E.depth (.join (e1 :: e2 :: r)) ≤ d + 1
        rw [E.depth]
        omega
      · show E.parts (.join (e1 :: e2 :: r)) ≤ p + 1
        rw [E.parts, partss_eq]
        omega
      · show (dE (.join (e1 :: e2 :: r))).depth ≤ q + 2
        rw [dE]
        simp only [PyData.depth, PyData.depthAll]
        omega
    | false =>
      have hno : ((e1 :: e2 :: r).any isAlt) = false := hno
      refine ⟨?_, ?_, ?_, ?_⟩
      · show E.ok (.alt (e1 :: e2 :: r)) = true
        rw [E.ok, hok, hno, decide_eq_true (by show 2 ≤ r.length + 1 + 1; omega)]
        rfl
      · show E.depth (.alt (e1 :: e2 :: r)) ≤ d + 1
        rw [E.depth]
        omega
      · show E.parts (.alt (e1 :: e2 :: r)) ≤ p + 1
        rw [E.parts, partss_eq]
        omega
      · show (dE (.alt (e1 :: e2 :: r))).depth ≤ q + 2
        rw [dE]
        simp only [PyData.depth, PyData.depthAll]
        omega
theorem isB_kids {j : Bool} {e k : E} (ho : e.ok = true) (h : isB j e = true) (hk : k ∈ e.kids) : isB j k = false := by
  cases j with
  | true =>
    cases e with
    | join es =>
      rw [E.ok] at ho
      simp only [Bool.and_eq_true, Bool.not_eq_true'] at ho
      have := List.any_eq_false.mp ho.2 k hk
      show isJoin k = false
      simpa using this
    | _ => cases h
  | false =>
    cases e with
    | alt es =>
      rw [E.ok] at ho
      simp only [Bool.and_eq_true, Bool.not_eq_true'] at ho
      have := List.any_eq_false.mp ho.2 k hk
      show isAlt k = false
      simpa using this
    | _ => cases h
/-- rows that are opened -/
theorem openE_row {j : Bool} {d q : Nat} : ∀ {es es' : List E}, Two Sm es es' → (∀ x ∈ es, x.depth ≤ d) → (∀ x ∈ es, (dE x).depth ≤ q) → RowB j d ((es.map E.parts).sum) q (openE j es')
  | _, _, .nil, _, _ => ⟨fun x h => (by cases h), fun x h => (by cases h), fun x h => (by cases h), fun x h => (by cases h), Nat.le_refl _⟩
  | e :: es, e' :: es', .cons h t, h1, h2 => by
    have ih := openE_row (j := j) t (fun x hx => h1 x (List.mem_cons_of_mem _ hx)) fun x hx => h2 x (List.mem_cons_of_mem _ hx)
    have d0 := Nat.le_trans h.dep (h1 e List.mem_cons_self)
    have q0 := Nat.le_trans h.dd (h2 e List.mem_cons_self)
    have p0 := h.pts
    have pk := parts_kids e'
    have eo : openE j (e' :: es') = (if isB j e' then e'.kids else [e']) ++ openE j es' := by
      unfold openE
      rw [List.flatMap_cons]
    have hd : RowB j d e.parts q (if isB j e' then e'.kids else [e']) := by
      cases hb : isB j e' with
      | true =>
        refine ⟨ok_kids h.ok, fun x hx => isB_kids h.ok hb hx, fun x hx => ?_, fun x hx => ?_, ?_⟩
        · have := depth_kids e' x hx
          omega
        · exact Nat.le_trans (dE_kids hx) q0
        · show (e'.kids.map E.parts).sum ≤ e.parts
          omega
      | false =>
        refine ⟨fun x hx => ?_, fun x hx => ?_, fun x hx => ?_, fun x hx => ?_, ?_⟩
        · rw [List.mem_singleton.mp hx]; exact h.ok
        · rw [List.mem_singleton.mp hx]; exact hb
        · rw [List.mem_singleton.mp hx]; exact d0
        · rw [List.mem_singleton.mp hx]; exact q0
        · show e'.parts + 0 ≤ e.parts
          omega
    rw [eo]
    refine ⟨fun x hx => ?_, fun x hx => ?_, fun x hx => ?_, fun x hx => ?_, ?_⟩
    · rcases List.mem_append.mp hx with h | h
      · exact hd.ok x h
      · exact ih.ok x h
    · rcases List.mem_append.mp hx with h | h
      · exact hd.no x h
      · exact ih.no x h
    · rcases List.mem_append.mp hx with h | h
      · exact hd.dep x h
      · exact ih.dep x h
    · rcases List.mem_append.mp hx with h | h
      · exact hd.dd x h
      · exact ih.dd x h
    · rw [List.map_append, List.sum_append, List.map_cons, List.sum_cons]
      have := hd.pts
      have := ih.pts
      omega
theorem dedF_sub (es : List E) : ∀ ks : List E, (es.foldl dedF ks).Sublist (ks ++ es) := by
  induction es with
  | nil => intro ks; rw [List.append_nil]; exact List.Sublist.refl _
  | cons e es ih =>
    intro ks
    rw [List.foldl_cons]
    refine (ih _).trans ?_
    unfold dedF
    split
    · exact (List.Sublist.refl ks).append (List.sublist_cons_self e es)
    · rw [List.append_assoc]
      exact List.Sublist.refl _
theorem dedE_sub (es : List E) : (dedE es).Sublist es := dedF_sub es []
theorem neE_sub (es : List E) : (neE es).Sublist es := List.filter_sublist
theorem sm_join {es es' : List E} (h : Two Sm es es') : Sm (.join es) (joinS es') := by
  obtain ⟨h1, h2, h3, h4⟩ := rowS_sm ((openE_row (j := true) (d := E.depth.depths es) (q := PyData.depthAll (dE.dEs es)) h (fun x hx => by have := depth_kids (.join es) x hx; rw [E.depth] at this; omega) fun x hx => dEs_kid hx).sub (neE_sub _))
  refine ⟨h1, by rw [E.depth]; exact h2, by rw [E.parts, partss_eq]; exact h3, Nat.le_trans h4 ?_⟩
  rw [dE]
  simp only [PyData.depth, PyData.depthAll]
  omega
theorem sm_alt {es es' : List E} (h : Two Sm es es') : Sm (.alt es) (orS (openE false es')) := by
  have h0 := (openE_row (j := false) (d := E.depth.depths es) (q := PyData.depthAll (dE.dEs es)) h (fun x hx => by have := depth_kids (.alt es) x hx; rw [E.depth] at this; omega) fun x hx => dEs_kid hx).sub (dedE_sub _)
  have key : ∀ L : List E, L.Sublist (dedE (openE false es')) → Sm (.alt es) (rowS false L) := fun L hL => by
    obtain ⟨h1, h2, h3, h4⟩ := rowS_sm (h0.sub hL)
    refine ⟨h1, by rw [E.depth]; exact h2, by rw [E.parts, partss_eq]; exact h3, Nat.le_trans h4 ?_⟩
    rw [dE]
    simp only [PyData.depth, PyData.depthAll]
    omega
  unfold orS
  split
  · exact key _ (neE_sub _)
  · exact key _ (List.Sublist.refl _)
theorem dd_maybe (e : E) : (dE (.maybe e)).depth = (dE e).depth + 1 := by
  rw [dE]
  simp only [PyData.depth, PyData.depthAll]
  omega
theorem dd_many (e : E) : (dE (.many e)).depth = (dE e).depth + 1 := by
  rw [dE]
  simp only [PyData.depth, PyData.depthAll]
  omega
theorem sm_maybe {e e' : E} (h : Sm e e') : Sm (.maybe e) (maybeS e') := by
  have h1 := h.dep
  have h2 := h.pts
  have h3 := h.dd
  unfold maybeS
  split
  · exact ⟨h.ok, by rw [E.depth]; omega, by rw [E.parts]; omega, by rw [dd_maybe]; omega⟩
  · exact ⟨by rw [E.ok]; exact h.ok, by rw [E.depth, E.depth]; omega, by rw [E.parts, E.parts]; omega, by rw [dd_maybe, dd_maybe]; omega⟩
theorem sm_many {e e' : E} (h : Sm e e') : Sm (.many e) (manyS e') := by
  have h1 := h.dep
  have h2 := h.pts
  have h3 := h.dd
  have ho := h.ok
  have gen : Sm (.many e) (.many e') := ⟨by rw [E.ok]; exact ho, by rw [E.depth, E.depth]; omega, by rw [E.parts, E.parts]; omega, by rw [dd_many, dd_many]; omega⟩
  cases e' with
  | eps => exact ⟨rfl, Nat.zero_le _, by rw [E.parts]; show 1 ≤ e.parts + 1; omega, by show (dE .eps).depth ≤ _; rw [dE]; exact Nat.zero_le _⟩
  | maybe x =>
    rw [dd_maybe] at h3
    rw [E.depth] at h1
    rw [E.parts] at h2
    rw [E.ok] at ho
    exact ⟨by show E.ok (.many x) = true; rw [E.ok]; exact ho, by show E.depth (.many x) ≤ _; rw [E.depth, E.depth]; omega, by show E.parts (.many x) ≤ _; rw [E.parts, E.parts]; omega, by show (dE (.many x)).depth ≤ _; rw [dd_many, dd_many]; omega⟩
  | many x =>
    rw [dd_many] at h3
    rw [E.depth] at h1
    rw [E.parts] at h2
    rw [E.ok] at ho
    exact ⟨by show E.ok (.many x) = true; rw [E.ok]; exact ho, by show E.depth (.many x) ≤ _; rw [E.depth, E.depth]; omega, by show E.parts (.many x) ≤ _; rw [E.parts, E.parts]; omega, by show (dE (.many x)).depth ≤ _; rw [dd_many, dd_many]; omega⟩
  | sym c => exact gen
  | join es => exact gen
  | alt es => exact gen
mutual
theorem simp_sm : ∀ e : E, e.ok = true → Sm e (simpE e)
  | .eps, _ => ⟨rfl, Nat.le_refl _, Nat.le_refl _, Nat.le_refl _⟩
  | .sym c, ho => ⟨ho, Nat.le_refl _, Nat.le_refl _, Nat.le_refl _⟩
  | .maybe e, ho => by rw [simpE]; exact sm_maybe (simp_sm e (by rw [E.ok] at ho; exact ho))
  | .many e, ho => by rw [simpE]; exact sm_many (simp_sm e (by rw [E.ok] at ho; exact ho))
  | .join es, ho => by
    rw [E.ok, oks_eq] at ho
    simp only [Bool.and_eq_true] at ho
    rw [simpE]
    exact sm_join (simps_sm es ho.1.2)
  | .alt es, ho => by
    rw [E.ok, oks_eq] at ho
    simp only [Bool.and_eq_true] at ho
    rw [simpE]
    exact sm_alt (simps_sm es ho.1.2)
theorem simps_sm : ∀ es : List E, es.all E.ok = true → Two Sm es (simpE.simps es)
  | [], _ => by rw [simpE.simps]; exact .nil
  | e :: es, ho => by
    rw [List.all_cons, Bool.and_eq_true] at ho
    rw [simpE.simps]
    exact .cons (simp_sm e ho.1) (simps_sm es ho.2)
end

def tagE : E → Option Str
  | .maybe _ => some sMaybe
  | .many _ => some sMany
  | .join _ => some sJoin
  | .alt _ => some sOr
  | _ => none
theorem tag_str {e : E} (h : isStr e.toD = true) : tagE e = none := by
  cases e with
  | eps => rfl
  | sym c => rfl
  | maybe k => exact absurd h (by rw [E.toD]; intro c; cases c)
  | many k => exact absurd h (by rw [E.toD]; intro c; cases c)
  | join es => exact absurd h (by rw [E.toD]; intro c; cases c)
  | alt es => exact absurd h (by rw [E.toD]; intro c; cases c)
theorem tup_str {e : E} : isTup e.toD = !isStr e.toD := by
  cases e <;> (rw [E.toD]; rfl)
theorem tag_isB {j : Bool} {e : E} : decide (tagE e = some (wJ j)) = isB j e := by
  cases j <;> cases e <;> first | rfl | decide +kernel
def spHas : Sp := fun vs H Q _ => ∃ (v : V) (e : E) (z : Str), vs = [v, .str z] ∧ e.ok = true ∧ Rep H v e.toD ∧ Q (.bl (decide (tagE e = some z))) H
def spOpen : Sp := fun vs H Q _ => ∃ (j : Bool) (p : Addr) (xs : List V) (es : List E), vs = [.str (wJ j), .ref p] ∧ H p = some (.lst xs) ∧ Two (Rep H) xs (es.map E.toD) ∧ (∀ e ∈ es, e.ok = true) ∧ (es.map E.parts).sum ≤ 1000 ∧ ∀ (q : Addr) (ys : List V) H', Same H H' → H q = none → H' q = some (.lst ys) → Two (Rep H') ys ((openE j es).map E.toD) → Q (.ref q) H'
def spRowOf : Sp := fun vs H Q _ => ∃ (j : Bool) (p : Addr) (xs : List V) (es : List E), vs = [.str (wJ j), .ref p] ∧ H p = some (.lst xs) ∧ Two (Rep H) xs (es.map E.toD) ∧ es.length ≤ 1000 ∧ ∀ u H', Same H H' → Rep H' u (rowS j es).toD → Q u H'
def spJoinOf : Sp := fun vs H Q _ => ∃ (p : Addr) (xs : List V) (es : List E), vs = [.ref p] ∧ H p = some (.lst xs) ∧ Two (Rep H) xs (es.map E.toD) ∧ (∀ e ∈ es, e.ok = true) ∧ (∀ e ∈ es, (dE e).depth ≤ 60) ∧ (es.map E.parts).sum ≤ 1000 ∧ ∀ u H', Same H H' → Rep H' u (joinS es).toD → Q u H'
def spOrOf : Sp := fun vs H Q _ => ∃ (p : Addr) (xs : List V) (es : List E), vs = [.ref p] ∧ H p = some (.lst xs) ∧ Two (Rep H) xs (es.map E.toD) ∧ (∀ e ∈ es, e.ok = true) ∧ (∀ e ∈ es, (dE e).depth ≤ 60) ∧ (∀ e ∈ es, e.depth < 42) ∧ es.length ≤ 1000 ∧ ∀ u H', Same H H' → Rep H' u (orS es).toD → Q u H'
def spMaybeS : Sp := fun vs H Q _ => ∃ (v : V) (e : E), vs = [v] ∧ e.ok = true ∧ e.depth < 42 ∧ Rep H v e.toD ∧ ∀ u H', Same H H' → Rep H' u (maybeS e).toD → Q u H'
def spManyS : Sp := fun vs H Q _ => ∃ (v : V) (e : E), vs = [v] ∧ e.ok = true ∧ (dE e).depth ≤ 60 ∧ Rep H v e.toD ∧ ∀ u H', Same H H' → Rep H' u (manyS e).toD → Q u H'
def spSimp (n : Nat) : Sp := fun vs H Q _ => ∃ (v : V) (e : E), vs = [v] ∧ e.ok = true ∧ e.depth < n ∧ n ≤ 41 ∧ (dE e).depth ≤ 60 ∧ e.parts ≤ 400 ∧ Rep H v e.toD ∧ ∀ u H', Same H H' → Rep H' u (simpE e).toD → Q u H'
section
variable {P : Program} {w : World} {K : PySem.W.Frag} {mg : Str → Option Value} {base : Heap} {a_BOUNDS a_LONG_BOUNDS : Addr} {tL tM : Tok}
abbrev N__has_word : List Str := ["part", "word"]
theorem sc__has_word : FnScope ["part", "word"] ["part", "word"] (defScope s__has_word) := ⟨rfl, rfl, rfl, by decide +kernel, rfl, by decide +kernel, by decide +kernel⟩
theorem ok_has {f : Addr} {fd : FuncData} (B : Bt K mg a_BOUNDS a_LONG_BOUNDS tL tM) (Dd : Df K mg "_has_word" s__has_word ["part", "word"] f fd) : FnOk P w K mg base CX0 1 f fd ["part", "word"] spHas := by
  refine Dd.F.ok sc__has_word (fun vs H Q Ex h => ?_) (fun cdv A outer s H vs Q Ex hr h => ?_)
  · obtain ⟨v, e, z, rfl, _⟩ := h
    rfl
  obtain ⟨v, e, z, rfl, hok, hR, q⟩ := h
  refine ⟨_, (pss_one (ps_ret (pe_and (pe_callB call_isi rfl B.b_isinstance boot_isinstance (pa_cons (pv 0) (pa_cons (pe_bltn (v := .ty "tuple") rfl B.b_tuple boot_tuple rfl) pa_nil))) (pe_one (pe_cmpR op_eq (pe_ix (r := rIxT K) ix_tup (pv 0) pe_int (fun _ _ => rfl)) (pv 1) (nomark _)))))), ?_⟩
  obtain ⟨t, ht, _, k2⟩ := hR.ty (K := K)
  refine ⟨_, rfl, _, _, _, _, _, rfl, .ty _, ht, k2, _, rfl, ?_⟩
  rw [tup_str]
  cases hs : isStr e.toD with
  | true =>
    rw [tag_str hs] at q
    exact iteF q
  | false =>
    obtain ⟨w, y, p0, x0, hlw, rfl, hp0, hx0, hk⟩ := node_of hok hR (by rw [hs]; exact Bool.false_ne_true)
    have ht : tagE e = some w := by
      rcases hk with (⟨h, k, rfl, rfl⟩ | ⟨h, k, rfl, rfl⟩) | ⟨h, es, rfl, hes, rfl⟩ | ⟨h, es, rfl, _, rfl⟩ <;> (rw [h]; rfl)
    refine iteT ⟨_, rfl, p0, _, 0, _, rfl, rfl, SqT.of hp0, at_zero, _, rfl, rfl, ?_⟩
    rw [show decide (V.str w = V.str z) = decide (tagE e = some z) from decide_eq_decide.mpr (by rw [ht]; exact ⟨fun h => by cases h; rfl, fun h => by cases h; rfl⟩)]
    exact q
theorem open_snoc (j : Bool) (es : List E) (e : E) : openE j (es ++ [e]) = openE j es ++ (if isB j e then e.kids else [e]) := by
  unfold openE
  rw [List.flatMap_append, List.flatMap_singleton]
theorem open_len (j : Bool) (es : List E) : (openE j es).length ≤ (es.map E.parts).sum := by
  induction es with
  | nil => exact Nat.zero_le _
  | cons e es ih =>
    have : openE j (e :: es) = (if isB j e then e.kids else [e]) ++ openE j es := by
      unfold openE
      rw [List.flatMap_cons]
    rw [this, List.length_append, List.map_cons, List.sum_cons]
    have h1 := parts_pos e
    have h2 := parts_kids e
    have h3 := parts_len (es := e.kids)
    cases isB j e with
    | true =>
      have : (if true = true then e.kids else [e]).length = e.kids.length := rfl
      omega
    | false =>
      have : (if false = true then e.kids else [e]).length = 1 := rfl
      omega
theorem sum_take_le (l : List Nat) (n : Nat) : (l.take n).sum ≤ l.sum := sub_sum (List.take_sublist n l)
abbrev N_opened_parts : List Str := ["word", "parts", "opened", "each"]
theorem sc_opened_parts : FnScope ["word", "parts", "opened", "each"] ["word", "parts"] (defScope s_opened_parts) := ⟨rfl, rfl, rfl, by decide +kernel, rfl, by decide +kernel, by decide +kernel⟩
theorem ok_open {f : Addr} {fd : FuncData} (B : Bt K mg a_BOUNDS a_LONG_BOUNDS tL tM) (Dd : Df K mg "opened_parts" s_opened_parts ["word", "parts"] f fd) (G_has_word : Cl P w K mg base 1 "_has_word" ["part", "word"] spHas) : FnOk P w K mg base CX0 2 f fd ["word", "parts"] spOpen := by
  refine Dd.F.ok sc_opened_parts (fun vs H Q Ex h => ?_) (fun cdv A outer s H vs Q Ex hr h => ?_)
  · obtain ⟨j, p, xs, es, rfl, _⟩ := h
    rfl
  obtain ⟨j, p, xs, es, rfl, hp, two, hok, hpt, q⟩ := h
  refine ⟨_, (pss_cons (ps_set (i := 2) sc_opened_parts.nd rfl (Or.inl rfl) (pe_lst pa_nil))
    (pss_cons (ps_for PassesOwn.never rfl (pi_list (pv 1)) (pg_name (i := 3) sc_opened_parts.nd rfl (Or.inl rfl)) (pss_one (ps_if (pt_val (pe_cl G_has_word (hr.mono (by omega)) rfl (pa_cons (pv 3) (pa_cons (pv 0) pa_nil)))) (pss_one (ps_expr (pe_bm PySem.F.plainAttrs_list PySem.F.slot_list_extend PySem.F.type_list_extend mt_extendT (pv 2) (pa_cons (pe_ix (r := rIxT K) ix_tup (pv 3) pe_int (fun _ _ => rfl)) pa_nil)))) (pss_one (ps_expr (pe_bm PySem.F.plainAttrs_list PySem.F.slot_list_append PySem.F.type_list_append mt_append (pv 2) (pa_cons (pv 3) pa_nil)))))))
    (pss_one (ps_ret (pv 2))))), ?_⟩
  have xl : xs.length = es.length := by rw [two.len, List.length_map]
  refine ⟨Nat.zero_le _, fun L hL => ?_⟩
  have uL := same_upd (o := .lst []) hL
  refine ⟨_, rfl, p, rfl, ⟨_, SqL.of (uL _ _ hp)⟩, for_list (K := K) (a := p) (xs := xs) (fun i σ' H' => ∃ (ys : List V) (o3 : Option V), σ' = [some (.str (wJ j)), some (.ref p), some (.ref L), o3] ∧ Same H H' ∧ H' L = some (.lst ys) ∧ Two (Rep H') ys ((openE j (es.take i)).map E.toD)) ?_ ?_ ?_ ?_⟩
  · exact ⟨[], none, rfl, uL, upd_same, .nil⟩
  · rintro i σ' H' _ ⟨ys, o3, rfl, s1, _⟩
    exact SqL.of (s1 _ _ hp)
  · rintro i v σ' H1 hv ⟨ys, o3, rfl, s1, hys, tw⟩
    obtain ⟨d, hd, hvd⟩ := two.get hv
    rw [List.getElem?_map] at hd
    obtain ⟨e, he, rfl⟩ := Option.map_eq_some_iff.mp hd
    have hem := List.mem_of_getElem? he
    have hvR := hvd.pers (Pers.same s1)
    have yl : ys.length ≤ 1000 := by
      rw [tw.len, List.length_map]
      exact Nat.le_trans (open_len j _) (Nat.le_trans (sub_sum ((List.take_sublist i es).map E.parts)) hpt)
    refine ⟨_, rfl, _, rfl, v, e, wJ j, rfl, hok e hem, hvR, _, rfl, ?_⟩
    rw [tag_isB]
    rw [take_snoc he, open_snoc]
    have P1 : ∀ zs, Pers H1 (upd H1 L (.lst zs)) := fun zs => Pers.store hys
    have keep : ∀ zs, Same H (upd H1 L (.lst zs)) := fun zs b o hb => by
      rw [upd_ne (ne_of_none hb hL)]
      exact s1 _ _ hb
    cases hb : isB j e with
    | true =>
      obtain ⟨p0, p1, zs, rfl, h0, h1, hz⟩ : ∃ p0 p1 zs, v = .ref p0 ∧ H1 p0 = some (.tup [.str (wJ j), .ref p1]) ∧ H1 p1 = some (.tup zs) ∧ Two (Rep H1) zs (e.kids.map E.toD) := by
        cases j with
        | true =>
          cases e with
          | join ks =>
            rw [E.toD, toDs_eq] at hvR
            obtain ⟨p0, x, rfl, a1, a2⟩ := unpair hvR
            obtain ⟨p1, zs, rfl, a3, _, a4⟩ := a2.untup
            exact ⟨p0, p1, zs, rfl, a1, a3, a4⟩
          | _ => cases hb
        | false =>
          cases e with
          | alt ks =>
            rw [E.toD, toDs_eq] at hvR
            obtain ⟨p0, x, rfl, a1, a2⟩ := unpair hvR
            obtain ⟨p1, zs, rfl, a3, _, a4⟩ := a2.untup
            exact ⟨p0, p1, zs, rfl, a1, a3, a4⟩
          | _ => cases hb
      have kl : e.kids.length ≤ 1000 := by
        have h2 := parts_kids e
        have h3 := parts_len (es := e.kids)
        have h4 : e.parts ≤ (es.map E.parts).sum := by
          have := sub_sum (List.singleton_sublist.mpr (List.mem_map.mpr ⟨e, hem, rfl⟩) : [e.parts].Sublist (es.map E.parts))
          simpa using this
        omega
      have zl := hz.len
      rw [List.length_map] at zl
      refine iteT ⟨_, rfl, .inl ⟨rfl, _, SqL.of hys⟩, _, rfl, p0, _, 1, _, rfl, rfl, SqT.of h0, at_of (j := 1) rfl rfl, L, p1, ys, zs, rfl, rfl, hys, SqT.of h1, Nat.le_trans (m := 2000) (by omega) (by decide), ?_⟩
      refine ⟨ys ++ zs, _, rfl, keep _, upd_same, ?_⟩
      rw [List.map_append]
      exact (tw.mono fun _ _ h => h.pers (P1 _)).app (hz.mono fun _ _ h => h.pers (P1 _))
    | false =>
      refine iteF ⟨_, rfl, .inl ⟨rfl, _, SqL.of hys⟩, _, rfl, L, ys, v, rfl, rfl, hys, Nat.lt_of_le_of_lt yl (by decide), ?_⟩
      refine ⟨ys ++ [v], _, rfl, keep _, upd_same, ?_⟩
      rw [List.map_append]
      exact (tw.mono fun _ _ h => h.pers (P1 _)).app (.cons (hvR.pers (P1 _)) .nil)
  · rintro σ' H1 ⟨ys, o3, rfl, s1, hys, tw⟩
    rw [xl, List.take_length] at tw
    exact ⟨_, rfl, q L ys H1 s1 hL hys tw⟩
end
end My
namespace My
open PySem PySem.Spec PyProof.Rows L2
theorem _root_.L2.Room.u65 {k : Nat} {A : Around} (r : Room k A) : A.units + 65 < cLine := by
  have := r.un
  omega
section
variable {P : Program} {w : World} {K : PySem.W.Frag} {mg : Str → Option Value} {base : Heap} {a_BOUNDS a_LONG_BOUNDS : Addr} {tL tM : Tok}
abbrev N_row_of : List Str := ["word", "parts"]
theorem sc_row_of : FnScope ["word", "parts"] ["word", "parts"] (defScope s_row_of) := ⟨rfl, rfl, rfl, by decide +kernel, rfl, by decide +kernel, by decide +kernel⟩
theorem ok_rowof {f : Addr} {fd : FuncData} (B : Bt K mg a_BOUNDS a_LONG_BOUNDS tL tM) (Dd : Df K mg "row_of" s_row_of ["word", "parts"] f fd) : FnOk P w K mg base CX0 1 f fd ["word", "parts"] spRowOf := by
  refine Dd.F.ok sc_row_of (fun vs H Q Ex h => ?_) (fun cdv A outer s H vs Q Ex hr h => ?_)
  · obtain ⟨j, p, xs, es, rfl, _⟩ := h
    rfl
  obtain ⟨j, p, xs, es, rfl, hp, two, hl, q⟩ := h
  refine ⟨_, (pss_cons (ps_if (pt_cmpR op_eq (pe_callB call_len rfl B.b_len boot_len (pa_cons (pv 1) pa_nil)) pe_int (nomark _)) (pss_one (ps_ret pe_str)) pss_nil)
    (pss_cons (ps_if (pt_cmpR op_eq (pe_callB call_len rfl B.b_len boot_len (pa_cons (pv 1) pa_nil)) pe_int (nomark _)) (pss_one (ps_ret (pe_ix (r := rIxL K) ix_list (pv 1) pe_int (fun _ _ => rfl)))) pss_nil)
    (pss_one (ps_ret (pe_tup (pa_cons (pv 0) (pa_cons (pe_callTy (r := rTupOf K) call_tuple_ofK rfl B.b_tuple boot_tuple (pa_cons (pv 1) pa_nil)) pa_nil))))))), ?_⟩
  have xl : xs.length = es.length := by rw [two.len, List.length_map]
  refine ⟨_, rfl, _, xs.length, rfl, .inl ⟨_, SqL.of hp, rfl⟩, rfl, _, rfl, ite2 (fun c => ?_) (fun c => ?_)⟩
  · have c : xs.length = 0 := by have := V.int.inj (of_decide_eq_true c); omega
    have he : es = [] := List.eq_nil_of_length_eq_zero (by omega)
    subst he
    refine q _ H (Same.refl H) ?_
    show Rep H _ (E.toD .eps)
    rw [E.toD]
    exact .str (by decide +kernel)
  · refine ⟨_, rfl, _, xs.length, rfl, .inl ⟨_, SqL.of hp, rfl⟩, rfl, _, rfl, ite2 (fun c1 => ?_) (fun c1 => ?_)⟩
    · have c1 : xs.length = 1 := by have := V.int.inj (of_decide_eq_true c1); omega
      obtain ⟨e, rfl⟩ : ∃ e, es = [e] := List.length_eq_one_iff.mp (by omega)
      cases two with
      | cons hx t =>
        cases t
        exact ⟨_, rfl, p, _, 0, _, rfl, rfl, SqL.of hp, at_zero, q _ H (Same.refl H) hx⟩
    · have n0 : xs.length ≠ 0 := fun h => c (decide_eq_true (by rw [h]; rfl))
      have n1 : xs.length ≠ 1 := fun h => c1 (decide_eq_true (by rw [h]; rfl))
      match es, xl, two, hl with
      | [], xl, _, _ => exact absurd xl n0
      | [e], xl, _, _ => exact absurd xl n1
      | e1 :: e2 :: r, xl, two, hl =>
        refine ⟨_, rfl, _, rfl, p, xs, rfl, .inl ⟨SqL.of hp, fun p2 hp2 => ⟨by show 2 ≤ sizeLine; decide, fun p3 hp3 => q _ _ ((same_upd hp2).trans (same_upd hp3)) ?_⟩⟩⟩
        have P2 := (Pers.new (o := .tup xs) hp2).trans (Pers.new (o := .tup [V.str (wJ j), V.ref p2]) hp3)
        have e9 : (rowS j (e1 :: e2 :: r)).toD = .tup [.str (wJ j), .tup ((e1 :: e2 :: r).map E.toD)] := by
          cases j
          · show E.toD (.alt (e1 :: e2 :: r)) = _
            rw [E.toD, toDs_eq]
            rfl
          · show E.toD (.join (e1 :: e2 :: r)) = _
            rw [E.toD, toDs_eq]
            rfl
        rw [e9]
        refine rep_node upd_same (by cases j <;> decide +kernel) (Rep.tup2 ((same_upd hp3) _ _ upd_same) ?_ (Rep.pers2 P2 two))
        rw [xl]
        omega
theorem open_all {p : E → Prop} {j : Bool} {es : List E} (hk : ∀ e, p e → ∀ k ∈ e.kids, p k) (h : ∀ e ∈ es, p e) : ∀ x ∈ openE j es, p x := fun x hx => by
  unfold openE at hx
  obtain ⟨e, he, hx⟩ := List.mem_flatMap.mp hx
  split at hx
  · exact hk e (h e he) x hx
  · rw [List.mem_singleton.mp hx]
    exact h e he
theorem neE_snoc (es : List E) (e : E) : neE (es ++ [e]) = neE es ++ (if e.isEps then [] else [e]) := by
  unfold neE
  rw [List.filter_append, List.filter_cons]
  cases e.isEps <;> rfl
/-- what is not "" of a list, as a comprehension leaves it -/
def NeI (H1 H' : Hp) (D : Addr) (es : List E) : Prop := Same H1 H' ∧ ∃ us, H' D = some (.lst us) ∧ Two (Rep H') us ((neE es).map E.toD)
theorem nei_no {H1 H' : Hp} {D : Addr} {es : List E} {e : E} (h : NeI H1 H' D es) (c : e.isEps = true) : NeI H1 H' D (es ++ [e]) := by
  obtain ⟨s, us, h1, h2⟩ := h
  exact ⟨s, us, h1, by rw [neE_snoc, if_pos c, List.append_nil]; exact h2⟩
theorem nei_yes {H1 H' : Hp} {D : Addr} {es : List E} {e : E} {us : List V} {v : V} (hD : H1 D = none) (s : Same H1 H') (h1 : H' D = some (.lst us)) (h2 : Two (Rep H') us ((neE es).map E.toD)) (c : ¬ e.isEps = true) (hR : Rep H' v e.toD) : NeI H1 (upd H' D (.lst (us ++ [v]))) D (es ++ [e]) := by
  have P1 : Pers H' (upd H' D (.lst (us ++ [v]))) := Pers.store h1
  refine ⟨fun b o hb => by rw [upd_ne (ne_of_none hb hD)]; exact s _ _ hb, _, upd_same, ?_⟩
  rw [neE_snoc, if_neg c, List.map_append]
  exact (h2.mono fun _ _ h => h.pers P1).app (.cons (hR.pers P1) .nil)
theorem neE_len (es : List E) : (neE es).length ≤ es.length := (neE_sub es).length_le
abbrev N_join_of : List Str := ["parts", "each"]
theorem sc_join_of : FnScope ["parts", "each"] ["parts"] (defScope s_join_of) := ⟨rfl, rfl, rfl, by decide +kernel, rfl, by decide +kernel, by decide +kernel⟩
theorem ok_joinof {f : Addr} {fd : FuncData} (B : Bt K mg a_BOUNDS a_LONG_BOUNDS tL tM) (Dd : Df K mg "join_of" s_join_of ["parts"] f fd) (Gopened_parts : Cl P w K mg base 2 "opened_parts" ["word", "parts"] spOpen) (Grow_of : Cl P w K mg base 1 "row_of" ["word", "parts"] spRowOf) : FnOk P w K mg base CX0 3 f fd ["parts"] spJoinOf := by
  refine Dd.F.ok sc_join_of (fun vs H Q Ex h => ?_) (fun cdv A outer s H vs Q Ex hr h => ?_)
  · obtain ⟨p, xs, es, rfl, _⟩ := h
    rfl
  obtain ⟨p, xs, es, rfl, hp, two, hok, hdd, hpt, q⟩ := h
  refine ⟨_, (pss_one (ps_ret (pe_cl Grow_of (hr.mono (by omega)) rfl (pa_cons pe_str (pa_cons (pe_lc (own := [("each", 1)]) (g := gName 1) rfl sc_join_of.nd (pi_list (pe_cl Gopened_parts (hr.mono (by omega)) rfl (pa_cons pe_str (pa_cons (pv 0) pa_nil)))) (blkOk_by (N := N_join_of) (sc := defScope s_join_of) (by decide +kernel)) (fun _ _ _ _ _ => pg_name (i := 1) sc_join_of.nd rfl (Or.inl rfl)) (fun _ _ _ _ _ => pts_one (pt_cmpR (r := rNeD K) (op_neD (u64 hr)) (pv 1) pe_str (nomark _))) (fun _ _ _ _ _ => (pv 1))) pa_nil))))), ?_⟩
  refine ⟨_, rfl, true, p, xs, es, rfl, hp, two, hok, hpt, fun q1 ys H1 s1 hq1 hq1l tw => ⟨q1, rfl, ⟨_, SqL.of hq1l⟩, fun D hD => ?_⟩⟩
  have oa := open_all (j := true) (es := es) (p := fun e => e.ok = true ∧ (dE e).depth ≤ 60) (fun e h k hk => ⟨ok_kids h.1 k hk, Nat.le_trans (dE_kids hk) h.2⟩) fun e he => ⟨hok e he, hdd e he⟩
  have ol := Nat.le_trans (open_len true es) hpt
  have yl := tw.len
  rw [List.length_map] at yl
  refine lc_list (K := K) (a := q1) (xs := ys) (fun i H' => NeI H1 H' D ((openE true es).take i)) ⟨same_upd hD, [], upd_same, .nil⟩ (fun i H' _ h => SqL.of (h.1 _ _ hq1l)) (fun i x H2 hx h => ?_) (fun H2 h => ?_)
  · obtain ⟨d, hd, hvd⟩ := tw.get hx
    rw [List.getElem?_map] at hd
    obtain ⟨e, he, rfl⟩ := Option.map_eq_some_iff.mp hd
    have heo := oa e (List.mem_of_getElem? he)
    have hvR := hvd.pers (Pers.same h.1)
    rw [take_snoc he]
    refine ⟨rfl, _, rfl, dE e, .str sNo, rep_dp e x hvR, .str _, dE_shaped heo.1 heo.2, no_shaped, _, rfl, ?_⟩
    rw [dE_no]
    refine ite2 (fun c => ?_) (fun c => ?_)
    · have c1 : ¬ e.isEps = true := fun h => by rw [decide_eq_true h] at c; cases c
      obtain ⟨s2, us, h1, h2⟩ := h
      have ul := h2.len
      rw [List.length_map] at ul
      have := neE_len ((openE true es).take i)
      rw [List.length_take] at this
      refine ⟨_, rfl, us, h1, Nat.lt_of_le_of_lt (m := 1000) (by omega) (by decide), fun b o hb => by rw [upd_ne (ne_of_none hb hD)]; exact s2 _ _ hb, ?_⟩
      exact (nei_yes hD s2 h1 h2 c1 hvR).2
    · have c1 : e.isEps = true := Classical.byContradiction fun h => c (by rw [decide_eq_false h]; rfl)
      exact nei_no h c1
  · obtain ⟨s2, us, h1, h2⟩ := h
    rw [yl, List.take_length] at h2
    have := neE_len (openE true es)
    exact ⟨true, D, us, _, rfl, h1, h2, by omega, fun u H3 s3 r3 => q u H3 (s1.trans (s2.trans s3)) r3⟩
theorem ded_dp {K : PySem.W.Frag} {H : Hp} {us : List V} {ks : List E} (h : Two (Rep H) us (ks.map E.toD)) : DpAll K H us (dE.dEs ks) := reps_dp ks us (by rw [toDs_eq]; exact h)
theorem dEs_any (d : PyData) : ∀ ks : List E, ((dE.dEs ks).any fun z => PyData.eqv z d) = ks.any fun k => PyData.eqv (dE k) d
  | [] => by rw [dE.dEs]; rfl
  | k :: ks => by rw [dE.dEs, List.any_cons, List.any_cons, dEs_any d ks]
theorem dEs_shaped {ks : List E} (h1 : ∀ e ∈ ks, e.ok = true) (h2 : ∀ e ∈ ks, (dE e).depth ≤ 60) : SeqAt.shaped (.list (dE.dEs ks)) = true := by
  have h3 := dEs_lay ks (by rw [List.all_eq_true]; exact h1)
  have h4 := dEs_le h2
  unfold SeqAt.shaped
  rw [PyData.canLay0, PyData.depth, h3, decide_eq_true (by omega)]
  rfl
abbrev N__simple_or : List Str := ["parts", "kept", "each", "others"]
theorem sc__simple_or : FnScope ["parts", "kept", "each", "others"] ["parts"] (defScope s__simple_or) := ⟨rfl, rfl, rfl, by decide +kernel, rfl, by decide +kernel, by decide +kernel⟩
theorem ok_simpor {f : Addr} {fd : FuncData} (B : Bt K mg a_BOUNDS a_LONG_BOUNDS tL tM) (Dd : Df K mg "_simple_or" s__simple_or ["parts"] f fd) (G_least : Cl P w K mg base 42 "_least" ["part"] (spLeast 42)) (Grow_of : Cl P w K mg base 1 "row_of" ["word", "parts"] spRowOf) : FnOk P w K mg base CX0 43 f fd ["parts"] spOrOf := by
  refine Dd.F.ok sc__simple_or (fun vs H Q Ex h => ?_) (fun cdv A outer s H vs Q Ex hr h => ?_)
  · obtain ⟨p, xs, es, rfl, _⟩ := h
    rfl
  obtain ⟨p, xs, es, rfl, hp, two, hok, hdd, hde, hl, q⟩ := h
  refine ⟨_, (pss_cons (ps_set (i := 1) sc__simple_or.nd rfl (Or.inl rfl) (pe_lst pa_nil))
    (pss_cons (ps_for PassesOwn.never rfl (pi_list (pv 0)) (pg_name (i := 2) sc__simple_or.nd rfl (Or.inl rfl)) (pss_one (ps_if (pt_cmpR (r := rNotInD K) (op_notInD hr.u65) (pv 2) (pv 1) rfl) (pss_one (ps_expr (pe_bm PySem.F.plainAttrs_list PySem.F.slot_list_append PySem.F.type_list_append mt_append (pv 1) (pa_cons (pv 2) pa_nil)))) pss_nil)))
    (pss_cons (ps_setLc (i := 3) (own := [("each", 2)]) (g := gName 2) rfl sc__simple_or.nd rfl rfl (sw_true rfl rfl rfl (by decide +kernel)) (pi_list (pv 1)) (blkOk_by (N := N__simple_or) (sc := defScope s__simple_or) (by decide +kernel)) (fun _ _ _ _ _ => pg_name (i := 2) sc__simple_or.nd rfl (Or.inl rfl)) (fun _ _ _ _ _ => pts_one (pt_cmpR (r := rNeD K) (op_neD (u64 hr)) (pv 2) pe_str (nomark _))) (fun _ _ _ _ _ => (pv 2)))
    (pss_cons (ps_if (pt_val (pe_callB (cr_any rfl) rfl B.b_any boot_any (pa_cons (pe_lc (own := [("each", 2)]) (g := gName 2) (tt := tYes) rfl sc__simple_or.nd (pi_list (pv 3)) (blkOk_by (N := N__simple_or) (sc := defScope s__simple_or) (by decide +kernel)) (fun _ _ _ _ _ => pg_name (i := 2) sc__simple_or.nd rfl (Or.inl rfl)) (fun _ _ _ _ _ => pts_nil) (fun _ _ _ _ _ => (pe_cmpR op_eq (pe_cl G_least (hr.mono (by omega)) rfl (pa_cons (pv 2) pa_nil)) pe_int (nomark _)))) pa_nil))) (pss_one (ps_ret (pe_cl Grow_of (hr.mono (by omega)) rfl (pa_cons pe_str (pa_cons (pv 3) pa_nil))))) pss_nil)
    (pss_one (ps_ret (pe_cl Grow_of (hr.mono (by omega)) rfl (pa_cons pe_str (pa_cons (pv 1) pa_nil))))))))), ?_⟩
  have xl : xs.length = es.length := by rw [two.len, List.length_map]
  refine ⟨Nat.zero_le _, fun L hL => ?_⟩
  have uL := same_upd (o := .lst []) hL
  have dsub : ∀ i, ((es.take i).foldl dedF []).Sublist es := fun i => (dedE_sub (es.take i)).trans (List.take_sublist i es)
  refine ⟨_, rfl, p, rfl, ⟨_, SqL.of (uL _ _ hp)⟩, for_list (K := K) (a := p) (xs := xs) (fun i σ' H' => ∃ (us : List V) (o2 : Option V), σ' = [some (.ref p), some (.ref L), o2, none] ∧ Same H H' ∧ H' L = some (.lst us) ∧ Two (Rep H') us (((es.take i).foldl dedF []).map E.toD)) ?_ ?_ ?_ ?_⟩
  · exact ⟨[], none, rfl, uL, upd_same, .nil⟩
  · rintro i σ' H' _ ⟨ys, o3, rfl, s1, _⟩
    exact SqL.of (s1 _ _ hp)
  · rintro i v σ' H1 hv ⟨us, o2, rfl, s1, hus, tw⟩
    obtain ⟨d, hd, hvd⟩ := two.get hv
    rw [List.getElem?_map] at hd
    obtain ⟨e, he, rfl⟩ := Option.map_eq_some_iff.mp hd
    have hem := List.mem_of_getElem? he
    have hvR := hvd.pers (Pers.same s1)
    rw [take_snoc he, List.foldl_append]
    show _
    refine ⟨_, rfl, _, rfl, dE e, dE.dEs ((es.take i).foldl dedF []), rep_dp e v hvR, .lst (SqL.of hus) (ded_dp tw), dE_shaped (hok e hem) (hdd e hem), dEs_shaped (fun x hx => hok x ((dsub i).subset hx)) (fun x hx => hdd x ((dsub i).subset hx)), _, rfl, ?_⟩
    rw [dEs_any]
    have ul := tw.len
    rw [List.length_map] at ul
    have := (dsub i).length_le
    refine ite2 (fun c => ?_) (fun c => ?_)
    · have c1 : ¬ (((es.take i).foldl dedF []).any fun k => PyData.eqv (dE k) (dE e)) = true := fun h => by rw [h] at c; cases c
      refine ⟨_, rfl, .inl ⟨rfl, _, SqL.of hus⟩, _, rfl, L, us, v, rfl, rfl, hus, Nat.lt_of_le_of_lt (m := 1000) (by omega) (by decide), ?_⟩
      have P1 : Pers H1 (upd H1 L (.lst (us ++ [v]))) := Pers.store hus
      refine ⟨us ++ [v], _, rfl, fun b o hb => by rw [upd_ne (ne_of_none hb hL)]; exact s1 _ _ hb, upd_same, ?_⟩
      rw [List.foldl_cons, List.foldl_nil, dedF, if_neg c1, List.map_append]
      exact (tw.mono fun _ _ h => h.pers P1).app (.cons (hvR.pers P1) .nil)
    · have c1 : (((es.take i).foldl dedF []).any fun k => PyData.eqv (dE k) (dE e)) = true := Classical.byContradiction fun h => c (by rw [Bool.eq_false_iff.mpr h]; rfl)
      refine ⟨us, _, rfl, s1, hus, ?_⟩
      rw [List.foldl_cons, List.foldl_nil, dedF, if_pos c1]
      exact tw
  · rintro σ' H1 ⟨us, o2, rfl, s1, hus, tw⟩
    rw [xl, List.take_length] at tw
    have kok : ∀ x ∈ dedE es, x.ok = true := fun x hx => hok x ((dedE_sub es).subset hx)
    have kdd : ∀ x ∈ dedE es, (dE x).depth ≤ 60 := fun x hx => hdd x ((dedE_sub es).subset hx)
    have kl := (dedE_sub es).length_le
    have tw : Two (Rep H1) us ((dedE es).map E.toD) := tw
    have ul := tw.len
    rw [List.length_map] at ul
    refine ⟨_, rfl, L, rfl, ⟨_, SqL.of hus⟩, fun D hD => ?_⟩
    refine lc_list (K := K) (a := L) (xs := us) (fun i H' => NeI H1 H' D ((dedE es).take i)) ⟨same_upd hD, [], upd_same, .nil⟩ (fun i H' _ h => SqL.of (h.1 _ _ hus)) (fun i x H2 hx h => ?_) (fun H2 h => ?_)
    · obtain ⟨d, hd, hvd⟩ := tw.get hx
      rw [List.getElem?_map] at hd
      obtain ⟨e, he, rfl⟩ := Option.map_eq_some_iff.mp hd
      have hem := List.mem_of_getElem? he
      have hvR := hvd.pers (Pers.same h.1)
      rw [take_snoc he]
      refine ⟨rfl, _, rfl, dE e, .str sNo, rep_dp e x hvR, .str _, dE_shaped (kok e hem) (kdd e hem), no_shaped, _, rfl, ?_⟩
      rw [dE_no]
      refine ite2 (fun c => ?_) (fun c => ?_)
      · have c1 : ¬ e.isEps = true := fun h => by rw [decide_eq_true h] at c; cases c
        obtain ⟨s2, ws, h1, h2⟩ := h
        have wl := h2.len
        rw [List.length_map] at wl
        have := neE_len ((dedE es).take i)
        rw [List.length_take] at this
        refine ⟨_, rfl, ws, h1, Nat.lt_of_le_of_lt (m := 1000) (by omega) (by decide), fun b o hb => by rw [upd_ne (ne_of_none hb hD)]; exact s2 _ _ hb, ?_⟩
        exact (nei_yes hD s2 h1 h2 c1 hvR).2
      · have c1 : e.isEps = true := Classical.byContradiction fun h => c (by rw [decide_eq_false h]; rfl)
        exact nei_no h c1
    obtain ⟨s2, ws, h1, h2⟩ := h
    rw [ul, List.take_length] at h2
    have nl := neE_len (dedE es)
    have wl := h2.len
    rw [List.length_map] at wl
    have nsub : ∀ x ∈ neE (dedE es), x ∈ es := fun x hx => (dedE_sub es).subset ((neE_sub _).subset hx)
    refine ⟨_, rfl, D, rfl, ⟨_, SqL.of h1⟩, fun D2 hD2 => ?_⟩
    refine lc_list (K := K) (a := D) (xs := ws) (fun i H' => Same H2 H' ∧ H' D2 = some (.lst ((((neE (dedE es)).take i).map fun e => decide (e.least = 0)).map V.bl))) ⟨same_upd hD2, upd_same⟩ (fun i H' _ h => SqL.of (h.1 _ _ h1)) (fun i x H3 hx h => ?_) (fun H3 h => ?_)
    · obtain ⟨s3, hbs⟩ := h
      obtain ⟨d, hd, hvd⟩ := h2.get hx
      rw [List.getElem?_map] at hd
      obtain ⟨e, he, rfl⟩ := Option.map_eq_some_iff.mp hd
      have hem := nsub e (List.mem_of_getElem? he)
      rw [take_snoc he]
      refine ⟨rfl, tyes ⟨_, rfl, x, e, rfl, hok e hem, hde e hem, hvd.pers (Pers.same s3), fun H4 s4 => ⟨rfl, _, s4 _ _ hbs, ?_, fun b o hb => ?_, ?_⟩⟩⟩
      · rw [List.length_map, List.length_map, List.length_take]
        exact Nat.lt_of_le_of_lt (m := 1000) (by omega) (by decide)
      · rw [upd_ne (ne_of_none hb hD2)]
        exact s4 _ _ (s3 _ _ hb)
      · rw [upd_same, List.map_append, List.map_append, show decide (V.int (e.least : Int) = V.int 0) = decide (e.least = 0) from decide_eq_decide.mpr ⟨fun h => by have := V.int.inj h; omega, fun h => by rw [h]; rfl⟩]
        rfl
    obtain ⟨s3, hbs⟩ := h
    rw [wl, List.take_length] at hbs
    refine ⟨D2, _, rfl, SqL.of hbs, _, rfl, ?_⟩
    rw [show (((neE (dedE es)).map fun e => decide (e.least = 0)).any id) = ((neE (dedE es)).any fun e => decide (e.least = 0)) from by rw [List.any_map]; rfl]
    have S3 := s1.trans (s2.trans s3)
    have q : ∀ u H', Same H H' → Rep H' u (if ((neE (dedE es)).any fun e => decide (e.least = 0)) then rowS false (neE (dedE es)) else rowS false (dedE es)).toD → Q u H' := q
    cases hany : (neE (dedE es)).any fun e => decide (e.least = 0) with
    | true =>
      rw [hany] at q
      exact iteT ⟨_, rfl, false, D, ws, neE (dedE es), rfl, s3 _ _ h1, h2.mono fun _ _ h => h.pers (Pers.same s3), by omega, fun u H4 s4 r4 => q u H4 (S3.trans s4) r4⟩
    | false =>
      rw [hany] at q
      exact iteF ⟨_, rfl, false, L, us, dedE es, rfl, (s2.trans s3) _ _ hus, tw.mono fun _ _ h => h.pers (Pers.same (s2.trans s3)), by omega, fun u H4 s4 r4 => q u H4 (S3.trans s4) r4⟩
abbrev N__simple_maybe : List Str := ["part"]
theorem sc__simple_maybe : FnScope ["part"] ["part"] (defScope s__simple_maybe) := ⟨rfl, rfl, rfl, by decide +kernel, rfl, by decide +kernel, by decide +kernel⟩
theorem ok_simpmaybe {f : Addr} {fd : FuncData} (B : Bt K mg a_BOUNDS a_LONG_BOUNDS tL tM) (Dd : Df K mg "_simple_maybe" s__simple_maybe ["part"] f fd) (G_least : Cl P w K mg base 42 "_least" ["part"] (spLeast 42)) : FnOk P w K mg base CX0 43 f fd ["part"] spMaybeS := by
  refine Dd.F.ok sc__simple_maybe (fun vs H Q Ex h => ?_) (fun cdv A outer s H vs Q Ex hr h => ?_)
  · obtain ⟨v, e, rfl, _⟩ := h
    rfl
  obtain ⟨v, e, rfl, hok, hd, hR, q⟩ := h
  refine ⟨_, (pss_cons (ps_if (pt_cmpR op_eq (pe_cl G_least (hr.mono (by omega)) rfl (pa_cons (pv 0) pa_nil)) pe_int (nomark _)) (pss_one (ps_ret (pv 0))) pss_nil)
    (pss_one (ps_ret (pe_tup (pa_cons pe_str (pa_cons (pv 0) pa_nil)))))), ?_⟩
  refine ⟨_, rfl, v, e, rfl, hok, hd, hR, fun H1 s1 => ⟨rfl, _, rfl, ite2 (fun c => ?_) (fun c => ?_)⟩⟩
  · have c : e.least = 0 := by have := V.int.inj (of_decide_eq_true c); omega
    refine ⟨_, rfl, q _ H1 s1 ?_⟩
    rw [maybeS, if_pos c]
    exact hR.pers (Pers.same s1)
  · have c : ¬ e.least = 0 := fun h => c (decide_eq_true (by rw [h]; rfl))
    refine ⟨_, rfl, by show 2 ≤ sizeLine; decide, fun p hp => q _ _ (s1.trans (same_upd hp)) ?_⟩
    rw [maybeS, if_neg c, E.toD]
    exact rep_node upd_same (by decide +kernel) ((hR.pers (Pers.same s1)).pers (Pers.new hp))
abbrev N__simple_many : List Str := ["part"]
theorem sc__simple_many : FnScope ["part"] ["part"] (defScope s__simple_many) := ⟨rfl, rfl, rfl, by decide +kernel, rfl, by decide +kernel, by decide +kernel⟩
theorem ok_simpmany {f : Addr} {fd : FuncData} (B : Bt K mg a_BOUNDS a_LONG_BOUNDS tL tM) (Dd : Df K mg "_simple_many" s__simple_many ["part"] f fd) (G_has_word : Cl P w K mg base 1 "_has_word" ["part", "word"] spHas) : FnOk P w K mg base CX0 2 f fd ["part"] spManyS := by
  refine Dd.F.ok sc__simple_many (fun vs H Q Ex h => ?_) (fun cdv A outer s H vs Q Ex hr h => ?_)
  · obtain ⟨v, e, rfl, _⟩ := h
    rfl
  obtain ⟨v, e, rfl, hok, hd, hR, q⟩ := h
  refine ⟨_, (pss_cons (ps_if (pt_cmpR (r := rEqD K) (op_eqD (u64 hr)) (pv 0) pe_str (nomark _)) (pss_one (ps_ret (pv 0))) pss_nil)
    (pss_cons (ps_if (PW.pt (pw_or (pt_val (pe_cl G_has_word (hr.mono (by omega)) rfl (pa_cons (pv 0) (pa_cons pe_str pa_nil)))) (pw_or1 (pt_val (pe_cl G_has_word (hr.mono (by omega)) rfl (pa_cons (pv 0) (pa_cons pe_str pa_nil))))))) (pss_one (ps_ret (pe_tup (pa_cons pe_str (pa_cons (pe_ix (r := rIxT K) ix_tup (pv 0) pe_int (fun _ _ => rfl)) pa_nil))))) pss_nil)
    (pss_one (ps_ret (pe_tup (pa_cons pe_str (pa_cons (pv 0) pa_nil))))))), ?_⟩
  refine ⟨_, rfl, dE e, .str sNo, rep_dp e v hR, .str _, dE_shaped hok hd, no_shaped, _, rfl, ?_⟩
  rw [dE_no]
  refine ite2 (fun c => ?_) (fun c => ?_)
  · have c1 : e.isEps = true := of_decide_eq_true c
    cases e with
    | eps => exact ⟨_, rfl, q _ H (Same.refl H) hR⟩
    | _ => cases c1
  have c1 : ¬ e.isEps = true := fun h => c (decide_eq_true h)
  refine ⟨_, rfl, v, e, sMaybe, rfl, hok, hR, _, rfl, ite2 (fun c2 => ?_) (fun c2 => ?_)⟩
  · have c2 := of_decide_eq_true c2
    cases e with
    | maybe x =>
      rw [E.toD] at hR
      obtain ⟨p0, y, rfl, a1, a2⟩ := unpair hR
      refine ⟨_, rfl, p0, _, 1, _, rfl, rfl, SqT.of a1, at_of (j := 1) rfl rfl, by show 2 ≤ sizeLine; decide, fun p2 hp2 => q _ _ (same_upd hp2) ?_⟩
      show Rep _ _ (E.toD (.many x))
      rw [E.toD]
      exact rep_node upd_same (by decide +kernel) (a2.pers (Pers.new hp2))
    | eps => cases c2
    | sym _ => cases c2
    | many _ => exact absurd (Option.some.inj c2) (by decide +kernel)
    | join _ => exact absurd (Option.some.inj c2) (by decide +kernel)
    | alt _ => exact absurd (Option.some.inj c2) (by decide +kernel)
  refine ⟨_, rfl, v, e, sMany, rfl, hok, hR, _, rfl, ite2 (fun c3 => ?_) (fun c3 => ?_)⟩
  · have c3 := of_decide_eq_true c3
    cases e with
    | many x =>
      rw [E.toD] at hR
      obtain ⟨p0, y, rfl, a1, a2⟩ := unpair hR
      refine ⟨_, rfl, p0, _, 1, _, rfl, rfl, SqT.of a1, at_of (j := 1) rfl rfl, by show 2 ≤ sizeLine; decide, fun p2 hp2 => q _ _ (same_upd hp2) ?_⟩
      show Rep _ _ (E.toD (.many x))
      rw [E.toD]
      exact rep_node upd_same (by decide +kernel) (a2.pers (Pers.new hp2))
    | eps => cases c3
    | sym _ => cases c3
    | maybe _ => exact absurd (Option.some.inj c3) (by decide +kernel)
    | join _ => exact absurd (Option.some.inj c3) (by decide +kernel)
    | alt _ => exact absurd (Option.some.inj c3) (by decide +kernel)
  have hm : manyS e = .many e := by
    cases e with
    | maybe x => exact absurd (decide_eq_true rfl) c2
    | many x => exact absurd (decide_eq_true rfl) c3
    | eps => exact absurd rfl c1
    | _ => rfl
  refine ⟨_, rfl, by show 2 ≤ sizeLine; decide, fun p2 hp2 => q _ _ (same_upd hp2) ?_⟩
  rw [hm, E.toD]
  exact rep_node upd_same (by decide +kernel) (hR.pers (Pers.new hp2))
abbrev N__simple : List Str := ["part", "word", "inner", "parts", "each"]
theorem sc__simple : FnScope ["part", "word", "inner", "parts", "each"] ["part"] (defScope s__simple) := ⟨rfl, rfl, rfl, by decide +kernel, rfl, by decide +kernel, by decide +kernel⟩
theorem ok_simp_step {f : Addr} {fd : FuncData} (B : Bt K mg a_BOUNDS a_LONG_BOUNDS tL tM) (Dd : Df K mg "_simple" s__simple ["part"] f fd) (Gopened_parts : Cl P w K mg base 2 "opened_parts" ["word", "parts"] spOpen) (Gjoin_of : Cl P w K mg base 3 "join_of" ["parts"] spJoinOf) (G_simple_or : Cl P w K mg base 43 "_simple_or" ["parts"] spOrOf) (G_simple_maybe : Cl P w K mg base 43 "_simple_maybe" ["part"] spMaybeS) (G_simple_many : Cl P w K mg base 2 "_simple_many" ["part"] spManyS) (n : Nat) (G_simple : Cl P w K mg base (n + 43) "_simple" ["part"] (spSimp n)) : FnOk P w K mg base CX0 (n + 44) f fd ["part"] (spSimp (n + 1)) := by
  refine Dd.F.ok sc__simple (fun vs H Q Ex h => ?_) (fun cdv A outer s H vs Q Ex hr h => ?_)
  · obtain ⟨v, e, rfl, _⟩ := h
    rfl
  obtain ⟨v, e, rfl, hok, hd, hn, hdd, hpt, hR, q⟩ := h
  refine ⟨_, (pss_cons (ps_if (pt_val (pe_callB call_isi rfl B.b_isinstance boot_isinstance (pa_cons (pv 0) (pa_cons (pe_bltn (v := .ty "str") rfl B.b_str boot_str rfl) pa_nil)))) (pss_one (ps_ret (pv 0))) pss_nil)
    (pss_cons (ps_asg (pv 0) (pg_tup rfl (pgs_cons (pg_name (i := 1) sc__simple.nd rfl (Or.inl rfl)) (pgs_cons (pg_name (i := 2) sc__simple.nd rfl (Or.inl rfl)) pgs_nil))))
    (pss_cons (ps_if (pt_cmpR op_eq (pv 1) pe_str (nomark _)) (pss_one (ps_ret (pe_cl G_simple_maybe (hr.mono (by omega)) rfl (pa_cons (pe_cl G_simple (hr.mono (by omega)) rfl (pa_cons (pv 2) pa_nil)) pa_nil)))) pss_nil)
    (pss_cons (ps_if (pt_cmpR op_eq (pv 1) pe_str (nomark _)) (pss_one (ps_ret (pe_cl G_simple_many (hr.mono (by omega)) rfl (pa_cons (pe_cl G_simple (hr.mono (by omega)) rfl (pa_cons (pv 2) pa_nil)) pa_nil)))) pss_nil)
    (pss_cons (ps_setLc (i := 3) (own := [("each", 4)]) (g := gName 4) (tt := tYes) rfl sc__simple.nd rfl rfl (sw_true rfl rfl rfl (by decide +kernel)) (pi_tup (pv 2)) (blkOk_by (N := N__simple) (sc := defScope s__simple) (by decide +kernel)) (fun _ _ _ _ _ => pg_name (i := 4) sc__simple.nd rfl (Or.inl rfl)) (fun _ _ _ _ _ => pts_nil) (fun _ _ _ _ _ => (pe_cl G_simple (hr.mono (by omega)) rfl (pa_cons (pv 4) pa_nil))))
    (pss_cons (ps_if (pt_cmpR op_eq (pv 1) pe_str (nomark _)) (pss_one (ps_ret (pe_cl Gjoin_of (hr.mono (by omega)) rfl (pa_cons (pv 3) pa_nil)))) pss_nil)
    (pss_one (ps_ret (pe_cl G_simple_or (hr.mono (by omega)) rfl (pa_cons (pe_cl Gopened_parts (hr.mono (by omega)) rfl (pa_cons pe_str (pa_cons (pv 3) pa_nil))) pa_nil)))))))))), ?_⟩
  obtain ⟨t, ht, k1, _⟩ := hR.ty (K := K)
  refine ⟨_, rfl, _, _, _, _, _, rfl, .ty _, ht, k1, _, rfl, ite2 (fun e1 => ?_) (fun e1 => ?_)⟩
  · have : simpE e = e := by
      obtain ⟨z, _, _, ⟨rfl, _⟩ | ⟨c, rfl, _⟩⟩ := str_cases hR e1 <;> rfl
    rw [this] at q
    exact ⟨_, rfl, q _ H (Same.refl H) hR⟩
  obtain ⟨w, y, p0, x0, hlw, rfl, hp0, hx0, hk⟩ := node_of hok hR e1
  refine ⟨_, rfl, p0, _, rfl, SqT.of hp0, rfl, _, _, rfl, _, _, rfl, rfl, ?_⟩
  have sme := simp_sm e hok
  refine ⟨_, rfl, rfl, _, rfl, ite2 (fun e2 => ?_) (fun e2 => ?_)⟩
  · have hw := vstr e2
    rcases hk with (⟨h, k, rfl, rfl⟩ | ⟨h, k, rfl, rfl⟩) | ⟨h, es, rfl, hes, rfl⟩ | ⟨h, es, rfl, _, rfl⟩
    · rw [E.ok] at hok
      have sk := simp_sm k hok
      rw [E.depth] at hd
      rw [E.parts] at hpt
      rw [dd_maybe] at hdd
      have h1 := sk.dep
      refine ⟨_, rfl, x0, k, rfl, hok, by omega, by omega, by omega, by omega, hx0, fun u H1 s1 r1 => ⟨u, simpE k, rfl, sk.ok, by omega, r1, fun u2 H2 s2 r2 => q u2 H2 (s1.trans s2) ?_⟩⟩
      rw [simpE]
      exact r2
    · exact absurd (hw.symm.trans h) mn
    · exact absurd (h.symm.trans hw) jm
    · exact absurd (h.symm.trans hw) om
  refine ⟨_, rfl, rfl, _, rfl, ite2 (fun e3 => ?_) (fun e3 => ?_)⟩
  · have hw := vstr e3
    rcases hk with (⟨h, k, rfl, rfl⟩ | ⟨h, k, rfl, rfl⟩) | ⟨h, es, rfl, hes, rfl⟩ | ⟨h, es, rfl, _, rfl⟩
    · exact absurd (h.symm.trans hw) mn
    · rw [E.ok] at hok
      have sk := simp_sm k hok
      rw [E.depth] at hd
      rw [E.parts] at hpt
      rw [dd_many] at hdd
      have h1 := sk.dd
      refine ⟨_, rfl, x0, k, rfl, hok, by omega, by omega, by omega, by omega, hx0, fun u H1 s1 r1 => ⟨u, simpE k, rfl, sk.ok, by omega, r1, fun u2 H2 s2 r2 => q u2 H2 (s1.trans s2) ?_⟩⟩
      rw [simpE]
      exact r2
    · exact absurd (h.symm.trans hw) jn
    · exact absurd (h.symm.trans hw) on
  obtain ⟨es, hes, hy, hj⟩ : ∃ es, e.kids = es ∧ y = .tup (es.map E.toD) ∧ ((w = sJoin ∧ simpE e = joinS (es.map simpE)) ∨ (w = sOr ∧ simpE e = orS (openE false (es.map simpE)))) := by
    rcases hk with (⟨h, k, rfl, rfl⟩ | ⟨h, k, rfl, rfl⟩) | ⟨h, es, rfl, hes, rfl⟩ | ⟨h, es, rfl, _, rfl⟩
    · exact absurd h (vstrN e2)
    · exact absurd h (vstrN e3)
    · exact ⟨es, rfl, rfl, .inl ⟨h, by rw [simpE, simps_eq]⟩⟩
    · exact ⟨es, rfl, rfl, .inr ⟨h, by rw [simpE, simps_eq]⟩⟩
  rw [hy] at hx0
  obtain ⟨p1, xs, rfl, hp1, _, hX⟩ := hx0.untup
  have hxl : xs.length = es.length := by rw [hX.len, List.length_map]
  have kok : ∀ k ∈ es, k.ok = true := fun k hk => ok_kids hok k (by rw [hes]; exact hk)
  have ksm : ∀ k ∈ es, Sm k (simpE k) := fun k hk => simp_sm k (kok k hk)
  have kdep : ∀ k ∈ es, k.depth + 1 ≤ e.depth := fun k hk => depth_kids e k (by rw [hes]; exact hk)
  have kdd : ∀ k ∈ es, (dE k).depth ≤ 60 := fun k hk => Nat.le_trans (dE_kids (by rw [hes]; exact hk)) hdd
  have psum : ((es.map simpE).map E.parts).sum ≤ 400 := by
    have h1 := parts_kids e
    rw [hes] at h1
    have : ∀ l : List E, (∀ k ∈ l, Sm k (simpE k)) → ((l.map simpE).map E.parts).sum ≤ (l.map E.parts).sum := fun l => by
      induction l with
      | nil => intro _; exact Nat.le_refl _
      | cons k l ih =>
        intro hl
        have a1 := (hl k List.mem_cons_self).pts
        have a2 := ih fun x hx => hl x (List.mem_cons_of_mem _ hx)
        rw [List.map_cons, List.map_cons, List.sum_cons, List.map_cons, List.sum_cons]
        omega
    have := this es ksm
    omega
  have pl := parts_len (es := es)
  have el : es.length ≤ 400 := by
    have h1 := parts_kids e
    rw [hes] at h1
    omega
  refine ⟨_, rfl, p1, rfl, ⟨_, SqT.of hp1⟩, fun L hL => ?_⟩
  refine lc_tup (K := K) (a := p1) (xs := xs) (fun i H2 => Same H H2 ∧ ∃ zs : List V, H2 L = some (.lst zs) ∧ Two (Rep H2) zs (((es.map simpE).take i).map E.toD)) ⟨same_upd hL, [], upd_same, by rw [List.take_zero]; exact .nil⟩ (fun i H2 _ h => SqT.of (h.1 _ _ hp1)) (fun i x H2 hx h => ?_) (fun H2 h => ?_)
  · obtain ⟨s2, zs, h1, h2⟩ := h
    obtain ⟨d, hd1, hxd⟩ := hX.get hx
    rw [List.getElem?_map] at hd1
    obtain ⟨k, hk2, rfl⟩ := Option.map_eq_some_iff.mp hd1
    have hmem := List.mem_of_getElem? hk2
    have hkd := kdep k hmem
    have hzl := h2.len
    rw [List.length_map, List.length_take] at hzl
    have hkp := (kid_parts (e := e) (k := k) (by rw [hes]; exact hmem)).1
    refine ⟨rfl, tyes ⟨_, rfl, x, k, rfl, kok k hmem, by omega, by omega, kdd k hmem, by omega, hxd.pers (Pers.same s2), fun u H3 s3 r3 => ⟨zs, s3 _ _ h1, ?_, ?_, zs ++ [u], upd_same, ?_⟩⟩⟩
    · have : i < xs.length := (List.getElem?_eq_some_iff.mp hx).1
      exact Nat.lt_of_le_of_lt (m := 400) (by omega) (by decide)
    · exact fun b o hb => by rw [upd_ne (ne_of_none hb hL)]; exact s3 _ _ (s2 _ _ hb)
    · have hm : (es.map simpE)[i]? = some (simpE k) := by rw [List.getElem?_map, hk2]; rfl
      have P3 : Pers H3 (upd H3 L (.lst (zs ++ [u]))) := Pers.store (s3 _ _ h1)
      rw [take_snoc hm, List.map_append]
      exact (h2.mono fun _ _ => Rep.pers ((Pers.same s3).trans P3)).app (.cons (r3.pers P3) .nil)
  obtain ⟨s2, zs, h1, h2⟩ := h
  have el2 : xs.length = (es.map simpE).length := by rw [List.length_map, hxl]
  rw [el2, List.take_length] at h2
  have sok : ∀ x ∈ es.map simpE, x.ok = true ∧ (dE x).depth ≤ 60 ∧ x.depth < 42 := fun x hx => by
    obtain ⟨k, hk, rfl⟩ := List.mem_map.mp hx
    have a1 := (ksm k hk).dep
    have a2 := kdep k hk
    exact ⟨(ksm k hk).ok, Nat.le_trans (ksm k hk).dd (kdd k hk), by omega⟩
  refine ⟨_, rfl, rfl, _, rfl, ite2 (fun e4 => ?_) (fun e4 => ?_)⟩
  · have hw := vstr e4
    rcases hj with ⟨h, hj⟩ | ⟨h, hj⟩
    · rw [hj] at q
      exact ⟨_, rfl, L, zs, es.map simpE, rfl, h1, h2, fun x hx => (sok x hx).1, fun x hx => (sok x hx).2.1, by omega, fun u H3 s3 r3 => q u H3 (s2.trans s3) r3⟩
    · exact absurd (h.symm.trans hw) (by decide +kernel)
  · rcases hj with ⟨h, hj⟩ | ⟨h, hj⟩
    · exact absurd h (vstrN e4)
    · rw [hj] at q
      have oa := open_all (j := false) (es := es.map simpE) (p := fun x => x.ok = true ∧ (dE x).depth ≤ 60 ∧ x.depth < 42) (fun x hx k hk => ⟨ok_kids hx.1 k hk, Nat.le_trans (dE_kids hk) hx.2.1, by have := depth_kids x k hk; omega⟩) sok
      have ol := open_len false (es.map simpE)
      exact ⟨_, rfl, false, L, zs, es.map simpE, rfl, h1, h2, (fun x hx => (sok x hx).1), by omega, fun q1 ys H3 s3 hq1 hq1l tw => ⟨q1, ys, _, rfl, hq1l, tw, fun x hx => (oa x hx).1, fun x hx => (oa x hx).2.1, fun x hx => (oa x hx).2.2, by omega, fun u H4 s4 r4 => q u H4 (s2.trans (s3.trans s4)) r4⟩⟩
def spSimple : Sp := fun vs H Q _ => ∃ (v : V) (e : E), vs = [v] ∧ Eok e ∧ (dE e).depth ≤ 60 ∧ Rep H v e.toD ∧ ∀ u H', Same H H' → Rep H' u (simpE e).toD → Q u H'
abbrev N_simple : List Str := ["expression"]
theorem sc_simple : FnScope ["expression"] ["expression"] (defScope s_simple) := ⟨rfl, rfl, rfl, by decide +kernel, rfl, by decide +kernel, by decide +kernel⟩
theorem ok_simple {f : Addr} {fd : FuncData} (B : Bt K mg a_BOUNDS a_LONG_BOUNDS tL tM) (Dd : Df K mg "simple" s_simple ["expression"] f fd) (Gcheck_long : Cl P w K mg base 6 "check_long" ["value"] spCheck) (G_simple : Cl P w K mg base 84 "_simple" ["part"] (spSimp 41)) : FnOk P w K mg base CX0 88 f fd ["expression"] spSimple := by
  refine Dd.F.ok sc_simple (fun vs H Q Ex h => ?_) (fun cdv A outer s H vs Q Ex hr h => ?_)
  · obtain ⟨v, e, rfl, _⟩ := h
    rfl
  obtain ⟨v, e, rfl, hE, hdd, hR, q⟩ := h
  refine ⟨_, (pss_cons (ps_expr (pe_cl Gcheck_long (hr.mono (by omega)) rfl (pa_cons (pv 0) pa_nil)))
    (pss_one (ps_ret (pe_cl G_simple (hr.mono (by omega)) rfl (pa_cons (pv 0) pa_nil))))), ?_⟩
  exact ⟨_, rfl, v, _, rfl, hR, fl_toD e, hE.sz, long_top hE, fun H1 s1 => ⟨_, rfl, v, e, rfl, hE.ok, Nat.lt_succ_of_le hE.dep, Nat.le_refl _, hdd, Nat.le_trans hE.pt (by decide), hR.pers (Pers.same s1), fun u H2 s2 r2 => q u H2 (s1.trans s2) r2⟩⟩
end
end My
namespace My
open PySem PySem.Spec PyProof.Rows L2
/-! ### the simple form matches the same words -/
theorem mwJ_app : ∀ {xs ys : List E} {w : List Nat}, MW.mwJ (xs ++ ys) w ↔ ∃ us vs, w = us ++ vs ∧ MW.mwJ xs us ∧ MW.mwJ ys vs
  | [], ys, w => ⟨fun h => ⟨[], w, rfl, rfl, h⟩, fun ⟨us, vs, h1, h2, h3⟩ => by
    have h2 : us = [] := h2
    rw [h1, h2]
    exact h3⟩
  | x :: xs, ys, w => by
    constructor
    · rintro ⟨us, vs, h1, h2, h3⟩
      obtain ⟨us', vs', e1, e2, e3⟩ := mwJ_app.mp h3
      exact ⟨us ++ us', vs', by rw [h1, e1, List.append_assoc], ⟨us, us', rfl, h2, e2⟩, e3⟩
    · rintro ⟨us, vs, h1, ⟨us', vs', e1, e2, e3⟩, h3⟩
      exact ⟨us', vs' ++ vs, by rw [h1, e1, List.append_assoc], e2, mwJ_app.mpr ⟨vs', vs, rfl, e3, h3⟩⟩
theorem mwA_mem : ∀ {es : List E} {w : List Nat}, MW.mwA es w ↔ ∃ e ∈ es, MW e w
  | [], w => ⟨fun h => h.elim, fun ⟨e, h, _⟩ => by cases h⟩
  | x :: es, w => by
    have ih := mwA_mem (es := es) (w := w)
    show (MW x w ∨ MW.mwA es w) ↔ _
    rw [ih]
    constructor
    · rintro (h | ⟨e, h1, h2⟩)
      · exact ⟨x, List.mem_cons_self, h⟩
      · exact ⟨e, List.mem_cons_of_mem _ h1, h2⟩
    · rintro ⟨e, h1, h2⟩
      rcases List.mem_cons.mp h1 with rfl | h1
      · exact .inl h2
      · exact .inr ⟨e, h1, h2⟩
theorem mw_rowJ : ∀ {L : List E} {w : List Nat}, MW (rowS true L) w ↔ MW.mwJ L w
  | [], w => Iff.rfl
  | [e], w => by
    show MW e w ↔ ∃ us vs, w = us ++ vs ∧ MW e us ∧ vs = []
    constructor
    · exact fun h => ⟨w, [], by rw [List.append_nil], h, rfl⟩
    · rintro ⟨us, vs, h1, h2, rfl⟩
      rw [h1, List.append_nil]
      exact h2
  | e1 :: e2 :: r, w => Iff.rfl
theorem mw_rowA : ∀ {L : List E} {w : List Nat}, L ≠ [] → (MW (rowS false L) w ↔ MW.mwA L w)
  | [], w, h => absurd rfl h
  | [e], w, _ => by
    show MW e w ↔ (MW e w ∨ False)
    exact ⟨.inl, fun h => h.resolve_right id⟩
  | e1 :: e2 :: r, w, _ => Iff.rfl
theorem mwJ_ne : ∀ {es : List E} {w : List Nat}, MW.mwJ (neE es) w ↔ MW.mwJ es w
  | [], w => Iff.rfl
  | e :: es, w => by
    have ih : ∀ w, MW.mwJ (neE es) w ↔ MW.mwJ es w := fun w => mwJ_ne
    unfold neE at ih ⊢
    rw [List.filter_cons]
    cases h : e.isEps with
    | true =>
      cases e with
      | eps =>
        refine (ih w).trans ⟨fun h => ⟨[], w, rfl, rfl, h⟩, fun ⟨us, vs, h1, h2, h3⟩ => ?_⟩
        have h2 : us = [] := h2
        rw [h1, h2]
        exact h3
      | _ => cases h
    | false =>
      show (∃ us vs, w = us ++ vs ∧ MW e us ∧ MW.mwJ _ vs) ↔ ∃ us vs, w = us ++ vs ∧ MW e us ∧ MW.mwJ es vs
      exact exists_congr fun us => exists_congr fun vs => and_congr Iff.rfl (and_congr Iff.rfl (ih vs))
theorem open_cons (j : Bool) (e : E) (es : List E) : openE j (e :: es) = (if isB j e then e.kids else [e]) ++ openE j es := by
  unfold openE
  rw [List.flatMap_cons]
theorem mwJ_open : ∀ {es : List E} {w : List Nat}, MW.mwJ (openE true es) w ↔ MW.mwJ es w
  | [], w => Iff.rfl
  | e :: es, w => by
    have ih : ∀ w, MW.mwJ (openE true es) w ↔ MW.mwJ es w := fun w => mwJ_open
    rw [open_cons, mwJ_app]
    have h1 : ∀ us, MW.mwJ (if isB true e then e.kids else [e]) us ↔ MW e us := fun us => by
      cases e with
      | join ks => exact Iff.rfl
      | _ => exact mw_rowJ (L := [_]).symm
    show _ ↔ ∃ us vs, w = us ++ vs ∧ MW e us ∧ MW.mwJ es vs
    exact exists_congr fun us => exists_congr fun vs => and_congr Iff.rfl (and_congr (h1 us) (ih vs))
theorem mwA_open : ∀ {es : List E} {w : List Nat}, MW.mwA (openE false es) w ↔ MW.mwA es w := by
  intro es w
  rw [mwA_mem, mwA_mem]
  unfold openE
  constructor
  · rintro ⟨e, h1, h2⟩
    obtain ⟨x, hx, h1⟩ := List.mem_flatMap.mp h1
    refine ⟨x, hx, ?_⟩
    cases x with
    | alt ks => exact (mwA_mem (es := ks)).mpr ⟨e, h1, h2⟩
    | _ =>
      obtain rfl := List.mem_singleton.mp h1
      exact h2
  · rintro ⟨x, hx, h2⟩
    cases x with
    | alt ks =>
      obtain ⟨e, h3, h4⟩ := (mwA_mem (es := ks)).mp h2
      exact ⟨e, List.mem_flatMap.mpr ⟨_, hx, h3⟩, h4⟩
    | _ => exact ⟨_, List.mem_flatMap.mpr ⟨_, hx, List.mem_singleton.mpr rfl⟩, h2⟩
theorem minL_zero : ∀ {l : List Nat}, l ≠ [] → (minL l = 0 ↔ 0 ∈ l)
  | [], h => absurd rfl h
  | [a], _ => by
    show a = 0 ↔ 0 ∈ [a]
    rw [List.mem_singleton, eq_comm]
  | a :: b :: r, _ => by
    have ih := minL_zero (l := b :: r) (by intro h; cases h)
    show min a (minL (b :: r)) = 0 ↔ 0 ∈ a :: b :: r
    rw [List.mem_cons, ← ih]
    omega
mutual
theorem least_emp : ∀ e : E, e.ok = true → (e.least = 0 ↔ MW e [])
  | .eps, _ => ⟨fun _ => rfl, fun _ => rfl⟩
  | .sym c, _ => ⟨fun h => (by cases h), fun h => (by cases (show [] = [c] from h))⟩
  | .maybe e, _ => ⟨fun _ => .inl rfl, fun _ => rfl⟩
  | .many e, _ => ⟨fun _ => Star.nil, fun _ => rfl⟩
  | .join es, ho => by
    rw [E.ok, oks_eq] at ho
    simp only [Bool.and_eq_true] at ho
    rw [E.least]
    exact leastJ_emp es ho.1.2
  | .alt es, ho => by
    rw [E.ok, oks_eq] at ho
    simp only [Bool.and_eq_true, decide_eq_true_eq] at ho
    rw [E.least, minL_zero (by rw [leastl_eq]; intro h; have := congrArg List.length h; rw [List.length_map] at this; have h2 : es.length = 0 := this; omega)]
    exact leastA_emp es ho.1.2
theorem leastJ_emp : ∀ es : List E, es.all E.ok = true → ((E.least.leastl es).sum = 0 ↔ MW.mwJ es [])
  | [], _ => ⟨fun _ => rfl, fun _ => rfl⟩
  | e :: es, ho => by
    rw [List.all_cons, Bool.and_eq_true] at ho
    have h1 := least_emp e ho.1
    have h2 := leastJ_emp es ho.2
    rw [E.least.leastl, List.sum_cons]
    show _ ↔ ∃ us vs, [] = us ++ vs ∧ MW e us ∧ MW.mwJ es vs
    constructor
    · exact fun h => ⟨[], [], rfl, h1.mp (by omega), h2.mp (by omega)⟩
    · rintro ⟨us, vs, e1, e2, e3⟩
      obtain ⟨rfl, rfl⟩ := List.append_eq_nil_iff.mp e1.symm
      have := h1.mpr e2
      have := h2.mpr e3
      omega
theorem leastA_emp : ∀ es : List E, es.all E.ok = true → (0 ∈ E.least.leastl es ↔ MW.mwA es [])
  | [], _ => ⟨fun h => (by cases h), fun h => h.elim⟩
  | e :: es, ho => by
    rw [List.all_cons, Bool.and_eq_true] at ho
    have h1 := least_emp e ho.1
    have h2 := leastA_emp es ho.2
    rw [E.least.leastl, List.mem_cons]
    exact or_congr (by rw [eq_comm]; exact h1) h2
end

/-! what is the same as data is the same -/
theorem eqv_pair {z z' : Str} {d d' : PyData} (h : PyData.eqv (.tuple [.str z, d]) (.tuple [.str z', d']) = true) : z = z' ∧ PyData.eqv d d' = true := by
  have h : (PyData.eqv (.str z) (.str z') && (PyData.eqv d d' && PyData.eqvAll [] [])) = true := h
  rw [Bool.and_eq_true, Bool.and_eq_true] at h
  exact ⟨by simpa [PyData.eqv] using h.1, h.2.1⟩
mutual
theorem dE_eqv : ∀ a b : E, PyData.eqv (dE a) (dE b) = true → a = b
  | .eps, b, h => by
    cases b with
    | eps => rfl
    | sym c =>
      rw [dE, dE] at h
      have h : sNo = ⟨#[c]⟩ := by simpa [PyData.eqv] using h
      exact absurd (congrArg Str.length h) (by rw [len_no]; show 0 ≠ 1; decide)
    | _ => rw [dE, dE] at h; cases h
  | .sym c, b, h => by
    cases b with
    | eps =>
      rw [dE, dE] at h
      have h : (⟨#[c]⟩ : Str) = sNo := by simpa [PyData.eqv] using h
      exact absurd (congrArg Str.length h) (by rw [len_no]; show 1 ≠ 0; decide)
    | sym c' =>
      rw [dE, dE] at h
      have h : (⟨#[c]⟩ : Str) = ⟨#[c']⟩ := by simpa [PyData.eqv] using h
      have := congrArg (fun s : Str => s.cps.toList) h
      rw [(List.cons.inj this).1]
    | _ => rw [dE, dE] at h; cases h
  | .maybe a, b, h => by
    cases b with
    | maybe b =>
      rw [dE, dE] at h
      rw [dE_eqv a b (eqv_pair h).2]
    | eps => rw [dE, dE] at h; cases h
    | sym c => rw [dE, dE] at h; cases h
    | many b => rw [dE, dE] at h; exact absurd (eqv_pair h).1 (by decide +kernel)
    | join es => rw [dE, dE] at h; exact absurd (eqv_pair h).1 (by decide +kernel)
    | alt es => rw [dE, dE] at h; exact absurd (eqv_pair h).1 (by decide +kernel)
  | .many a, b, h => by
    cases b with
    | many b =>
      rw [dE, dE] at h
      rw [dE_eqv a b (eqv_pair h).2]
    | eps => rw [dE, dE] at h; cases h
    | sym c => rw [dE, dE] at h; cases h
    | maybe b => rw [dE, dE] at h; exact absurd (eqv_pair h).1 (by decide +kernel)
    | join es => rw [dE, dE] at h; exact absurd (eqv_pair h).1 (by decide +kernel)
    | alt es => rw [dE, dE] at h; exact absurd (eqv_pair h).1 (by decide +kernel)
  | .join as, b, h => by
    cases b with
    | join bs =>
      rw [dE, dE] at h
      rw [dEs_eqv as bs (eqv_pair h).2]
    | eps => rw [dE, dE] at h; cases h
    | sym c => rw [dE, dE] at h; cases h
    | maybe b => rw [dE, dE] at h; exact absurd (eqv_pair h).1 (by decide +kernel)
    | many b => rw [dE, dE] at h; exact absurd (eqv_pair h).1 (by decide +kernel)
    | alt es => rw [dE, dE] at h; exact absurd (eqv_pair h).1 (by decide +kernel)
  | .alt as, b, h => by
    cases b with
    | alt bs =>
      rw [dE, dE] at h
      rw [dEs_eqv as bs (eqv_pair h).2]
    | eps => rw [dE, dE] at h; cases h
    | sym c => rw [dE, dE] at h; cases h
    | maybe b => rw [dE, dE] at h; exact absurd (eqv_pair h).1 (by decide +kernel)
    | many b => rw [dE, dE] at h; exact absurd (eqv_pair h).1 (by decide +kernel)
    | join es => rw [dE, dE] at h; exact absurd (eqv_pair h).1 (by decide +kernel)
theorem dEs_eqv : ∀ as bs : List E, PyData.eqv (.tuple (dE.dEs as)) (.tuple (dE.dEs bs)) = true → as = bs
  | [], [], _ => rfl
  | [], b :: bs, h => by rw [dE.dEs, dE.dEs] at h; cases h
  | a :: as, [], h => by rw [dE.dEs, dE.dEs] at h; cases h
  | a :: as, b :: bs, h => by
    rw [dE.dEs, dE.dEs] at h
    have h : (PyData.eqv (dE a) (dE b) && PyData.eqvAll (dE.dEs as) (dE.dEs bs)) = true := h
    rw [Bool.and_eq_true] at h
    rw [dE_eqv a b h.1, dEs_eqv as bs h.2]
end

theorem ded_mem : ∀ (es ks : List E) (x : E), x ∈ es.foldl dedF ks ↔ x ∈ ks ∨ x ∈ es
  | [], ks, x => ⟨.inl, fun h => h.resolve_right (by intro h; cases h)⟩
  | e :: es, ks, x => by
    rw [List.foldl_cons, ded_mem es]
    unfold dedF
    by_cases c : (ks.any fun k => PyData.eqv (dE k) (dE e)) = true
    · rw [if_pos c]
      obtain ⟨k, hk, h⟩ := List.any_eq_true.mp c
      have := dE_eqv k e h
      subst this
      constructor
      · rintro (h | h)
        · exact .inl h
        · exact .inr (List.mem_cons_of_mem _ h)
      · rintro (h | h)
        · exact .inl h
        · rcases List.mem_cons.mp h with rfl | h
          · exact .inl hk
          · exact .inr h
    · rw [if_neg c]
      constructor
      · rintro (h | h)
        · rcases List.mem_append.mp h with h | h
          · exact .inl h
          · rw [List.mem_singleton.mp h]
            exact .inr List.mem_cons_self
        · exact .inr (List.mem_cons_of_mem _ h)
      · rintro (h | h)
        · exact .inl (List.mem_append_left _ h)
        · rcases List.mem_cons.mp h with rfl | h
          · exact .inl (List.mem_append_right _ (List.mem_singleton.mpr rfl))
          · exact .inr h
theorem dedE_mem (es : List E) (x : E) : x ∈ dedE es ↔ x ∈ es := by
  unfold dedE
  rw [ded_mem]
  exact ⟨fun h => h.resolve_left (by intro h; cases h), .inr⟩
theorem neE_mem {es : List E} {x : E} : x ∈ neE es ↔ x ∈ es ∧ x.isEps = false := by
  unfold neE
  rw [List.mem_filter]
  exact and_congr Iff.rfl (by cases x.isEps <;> simp)
theorem mw_or {es : List E} (hok : ∀ e ∈ es, e.ok = true) (h0 : es ≠ []) (w : List Nat) : MW (orS es) w ↔ MW.mwA es w := by
  have hd : dedE es ≠ [] := by
    obtain ⟨e, he⟩ := List.exists_mem_of_ne_nil es h0
    intro h
    have := (dedE_mem es e).mpr he
    rw [h] at this
    cases this
  have hm : MW.mwA (dedE es) w ↔ MW.mwA es w := by
    rw [mwA_mem, mwA_mem]
    exact exists_congr fun e => and_congr (dedE_mem es e) Iff.rfl
  unfold orS
  split
  · rename_i c
    obtain ⟨x, hx, hl⟩ := List.any_eq_true.mp c
    have hn : neE (dedE es) ≠ [] := fun h => by rw [h] at hx; cases hx
    rw [mw_rowA hn, ← hm, mwA_mem, mwA_mem]
    have hxd := (neE_mem.mp hx).1
    have hxe := (least_emp x (hok x ((dedE_mem es x).mp hxd))).mp (of_decide_eq_true hl)
    constructor
    · rintro ⟨e, h1, h2⟩
      exact ⟨e, (neE_mem.mp h1).1, h2⟩
    · rintro ⟨e, h1, h2⟩
      cases he : e.isEps with
      | false => exact ⟨e, neE_mem.mpr ⟨h1, he⟩, h2⟩
      | true =>
        cases e with
        | eps =>
          have h2 : w = [] := h2
          rw [h2]
          exact ⟨x, hx, hxe⟩
        | _ => cases he
  · rw [mw_rowA hd, hm]
theorem star_app {α : Type} {L : List α → Prop} {u v : List α} (h : Star L u) (k : Star L v) : Star L (u ++ v) := by
  induction h with
  | nil => exact k
  | cons h n _ ih =>
    rw [List.append_assoc]
    exact .cons h n ih
theorem star_one {α : Type} {L : List α → Prop} {u : List α} (h : L u) : Star L u := by
  by_cases c : u = []
  · rw [c]
    exact .nil
  · have := Star.cons h c Star.nil
    rw [List.append_nil] at this
    exact this
theorem star_star {α : Type} {L M : List α → Prop} (h1 : ∀ u, M u → Star L u) (h2 : ∀ u, L u → Star M u) (w : List α) : Star M w ↔ Star L w := by
  have key : ∀ {A B : List α → Prop}, (∀ u, A u → Star B u) → ∀ w, Star A w → Star B w := fun h w hw => by
    induction hw with
    | nil => exact .nil
    | cons a _ _ ih => exact star_app (h _ a) ih
  exact ⟨key h1 w, key h2 w⟩
theorem mw_manyS {e : E} (w : List Nat) : MW (manyS e) w ↔ Star (MW e) w := by
  cases e with
  | eps =>
    show w = [] ↔ Star (fun u => u = []) w
    constructor
    · rintro rfl
      exact .nil
    · intro h
      induction h with
      | nil => rfl
      | cons h n _ _ => exact absurd h n
  | maybe x => exact star_star (L := fun u => u = [] ∨ MW x u) (fun u h => star_one (.inr h)) (fun u h => h.elim (fun h => by rw [h]; exact .nil) star_one) w
  | many x => exact star_star (L := Star (MW x)) (fun u h => star_one (star_one h)) (fun u h => h) w
  | sym c => exact Iff.rfl
  | join es => exact Iff.rfl
  | alt es => exact Iff.rfl
theorem mw_maybeS {e : E} (ho : e.ok = true) (w : List Nat) : MW (maybeS e) w ↔ w = [] ∨ MW e w := by
  unfold maybeS
  split
  · rename_i c
    have := (least_emp e ho).mp c
    exact ⟨.inr, fun h => h.elim (fun h => by rw [h]; exact this) id⟩
  · exact Iff.rfl
theorem star_congr {α : Type} {L M : List α → Prop} (h : ∀ u, L u ↔ M u) (w : List α) : Star L w ↔ Star M w := ⟨Star.mono fun u => (h u).mp, Star.mono fun u => (h u).mpr⟩
mutual
theorem simp_mw : ∀ e : E, e.ok = true → ∀ w, MW (simpE e) w ↔ MW e w
  | .eps, _, w => Iff.rfl
  | .sym c, _, w => Iff.rfl
  | .maybe e, ho, w => by
    have ho : e.ok = true := by rw [E.ok] at ho; exact ho
    rw [simpE, mw_maybeS (simp_sm e ho).ok]
    exact or_congr Iff.rfl (simp_mw e ho w)
  | .many e, ho, w => by
    have ho : e.ok = true := by rw [E.ok] at ho; exact ho
    rw [simpE, mw_manyS]
    exact star_congr (simp_mw e ho) w
  | .join es, ho, w => by
    rw [E.ok, oks_eq] at ho
    simp only [Bool.and_eq_true] at ho
    rw [simpE]
    unfold joinS
    rw [mw_rowJ, mwJ_ne, mwJ_open]
    exact simp_mwJ es ho.1.2 w
  | .alt es, ho, w => by
    rw [E.ok, oks_eq] at ho
    simp only [Bool.and_eq_true, decide_eq_true_eq] at ho
    have tw := simps_sm es ho.1.2
    have ha := simp_mwA es ho.1.2
    rw [simpE]
    have hok : ∀ e ∈ simpE.simps es, e.ok = true := fun e he => by
      rw [simps_eq] at he
      obtain ⟨k, hk, rfl⟩ := List.mem_map.mp he
      exact (simp_sm k (List.all_eq_true.mp ho.1.2 k hk)).ok
    have hne : openE false (simpE.simps es) ≠ [] := fun h => by
      match es, ho.1.1, tw with
      | e :: es, _, .cons h1 _ =>
        rw [simpE.simps, open_cons] at h
        have h := (List.append_eq_nil_iff.mp h).1
        have ok1 := h1.ok
        cases hs : simpE e with
        | alt ks =>
          rw [hs] at h ok1
          have h : ks = [] := h
          rw [h, E.ok] at ok1
          cases ok1
        | _ => rw [hs] at h; cases h
    rw [mw_or (open_all (p := fun e => e.ok = true) (fun e h k hk => ok_kids h k hk) hok) hne, mwA_open]
    exact ha w
theorem simp_mwJ : ∀ es : List E, es.all E.ok = true → ∀ w, MW.mwJ (simpE.simps es) w ↔ MW.mwJ es w
  | [], _, w => Iff.rfl
  | e :: es, ho, w => by
    rw [List.all_cons, Bool.and_eq_true] at ho
    rw [simpE.simps]
    show (∃ us vs, w = us ++ vs ∧ MW (simpE e) us ∧ MW.mwJ (simpE.simps es) vs) ↔ ∃ us vs, w = us ++ vs ∧ MW e us ∧ MW.mwJ es vs
    exact exists_congr fun us => exists_congr fun vs => and_congr Iff.rfl (and_congr (simp_mw e ho.1 us) (simp_mwJ es ho.2 vs))
theorem simp_mwA : ∀ es : List E, es.all E.ok = true → ∀ w, MW.mwA (simpE.simps es) w ↔ MW.mwA es w
  | [], _, w => Iff.rfl
  | e :: es, ho, w => by
    rw [List.all_cons, Bool.and_eq_true] at ho
    rw [simpE.simps]
    exact or_congr (simp_mw e ho.1 w) (simp_mwA es ho.2 w)
end
end My
namespace My
open PySem PySem.Spec PyProof.Rows L2
/-! ### the simple form is simple -/
mutual
theorem dE_self : ∀ e : E, PyData.eqv (dE e) (dE e) = true
  | .eps => by rw [dE]; simp [PyData.eqv]
  | .sym c => by rw [dE]; simp [PyData.eqv]
  | .maybe e => by rw [dE]; simp [PyData.eqv, PyData.eqvAll, dE_self e]
  | .many e => by rw [dE]; simp [PyData.eqv, PyData.eqvAll, dE_self e]
  | .join es => by rw [dE]; simp [PyData.eqv, PyData.eqvAll, dEs_self es]
  | .alt es => by rw [dE]; simp [PyData.eqv, PyData.eqvAll, dEs_self es]
theorem dEs_self : ∀ es : List E, PyData.eqvAll (dE.dEs es) (dE.dEs es) = true
  | [] => by rw [dE.dEs]; rfl
  | e :: es => by rw [dE.dEs, PyData.eqvAll, dE_self e, dEs_self es]; rfl
end
theorem ded_any {ks : List E} {e : E} : (ks.any fun k => PyData.eqv (dE k) (dE e)) = true ↔ e ∈ ks := by
  rw [List.any_eq_true]
  exact ⟨fun ⟨k, hk, h⟩ => by rw [← dE_eqv k e h]; exact hk, fun h => ⟨e, h, dE_self e⟩⟩
theorem ded_fold : ∀ (es ks : List E), (ks ++ es).Nodup → es.foldl dedF ks = ks ++ es
  | [], ks, _ => (List.append_nil ks).symm
  | e :: es, ks, h => by
    have hn : e ∉ ks := fun hm => (List.nodup_append.mp h).2.2 e hm e List.mem_cons_self rfl
    have e1 : dedF ks e = ks ++ [e] := by
      unfold dedF
      rw [if_neg fun c => hn (ded_any.mp c)]
    rw [List.foldl_cons, e1, ded_fold es (ks ++ [e]) (by rw [List.append_assoc]; exact h), List.append_assoc]
    rfl
theorem ded_nodup : ∀ (es ks : List E), ks.Nodup → (es.foldl dedF ks).Nodup
  | [], ks, h => h
  | e :: es, ks, h => by
    rw [List.foldl_cons]
    refine ded_nodup es _ ?_
    unfold dedF
    by_cases c : (ks.any fun k => PyData.eqv (dE k) (dE e)) = true
    · rw [if_pos c]
      exact h
    · rw [if_neg c, List.nodup_append]
      refine ⟨h, List.pairwise_singleton _ _, fun a ha b hb => ?_⟩
      rw [List.mem_singleton.mp hb]
      rintro rfl
      exact c (ded_any.mpr ha)
theorem dedE_fix {es : List E} (h : es.Nodup) : dedE es = es := ded_fold es [] h
theorem dedE_nodup (es : List E) : (dedE es).Nodup := ded_nodup es [] List.nodup_nil
def nf : E → Prop
  | .eps => True
  | .sym _ => True
  | .maybe e => nf e ∧ e.least ≠ 0
  | .many e => nf e ∧ manyS e = .many e
  | .join es => nfs es ∧ (∀ x ∈ es, isJoin x = false ∧ x.isEps = false) ∧ 2 ≤ es.length
  | .alt es => nfs es ∧ (∀ x ∈ es, isAlt x = false) ∧ 2 ≤ es.length ∧ es.Nodup ∧ ((∃ x ∈ es, x.isEps = false ∧ x.least = 0) → ∀ x ∈ es, x.isEps = false)
where nfs : List E → Prop
  | [] => True
  | e :: es => nf e ∧ nfs es
theorem nfs_all : ∀ {es : List E}, nf.nfs es ↔ ∀ e ∈ es, nf e
  | [] => ⟨fun _ e h => (by cases h), fun _ => trivial⟩
  | e :: es => by
    show (nf e ∧ nf.nfs es) ↔ _
    rw [nfs_all (es := es)]
    refine ⟨fun h x hx => ?_, fun h => ⟨h e List.mem_cons_self, fun x hx => h x (List.mem_cons_of_mem _ hx)⟩⟩
    rcases List.mem_cons.mp hx with rfl | hx
    · exact h.1
    · exact h.2 x hx
theorem open_fix {j : Bool} {es : List E} (h : ∀ x ∈ es, isB j x = false) : openE j es = es := by
  induction es with
  | nil => rfl
  | cons e es ih =>
    rw [open_cons, ih fun x hx => h x (List.mem_cons_of_mem _ hx), h e List.mem_cons_self]
    rfl
theorem ne_fix {es : List E} (h : ∀ x ∈ es, x.isEps = false) : neE es = es := by
  unfold neE
  exact List.filter_eq_self.mpr fun x hx => by rw [h x hx]; rfl
theorem rowJ_fix {es : List E} (h : 2 ≤ es.length) : rowS true es = .join es := by
  match es, h with
  | e1 :: e2 :: r, _ => rfl
theorem rowA_fix {es : List E} (h : 2 ≤ es.length) : rowS false es = .alt es := by
  match es, h with
  | e1 :: e2 :: r, _ => rfl
mutual
theorem nf_fix : ∀ e : E, nf e → simpE e = e
  | .eps, _ => rfl
  | .sym c, _ => rfl
  | .maybe e, h => by
    rw [simpE, nf_fix e h.1]
    unfold maybeS
    rw [if_neg h.2]
  | .many e, h => by rw [simpE, nf_fix e h.1, h.2]
  | .join es, h => by
    rw [simpE, nfs_fix es h.1]
    unfold joinS
    rw [open_fix (j := true) fun x hx => (h.2.1 x hx).1, ne_fix fun x hx => (h.2.1 x hx).2, rowJ_fix h.2.2]
  | .alt es, h => by
    obtain ⟨h1, h2, h3, h4, h5⟩ := h
    rw [simpE, nfs_fix es h1, open_fix (j := false) h2]
    unfold orS
    rw [dedE_fix h4]
    split
    · rename_i c
      obtain ⟨x, hx, hl⟩ := List.any_eq_true.mp c
      have hx := neE_mem.mp hx
      rw [ne_fix (h5 ⟨x, hx.1, hx.2, of_decide_eq_true hl⟩), rowA_fix h3]
    · rw [rowA_fix h3]
theorem nfs_fix : ∀ es : List E, nf.nfs es → simpE.simps es = es
  | [], _ => rfl
  | e :: es, h => by rw [simpE.simps, nf_fix e h.1, nfs_fix es h.2]
end
theorem nf_many {e : E} (h : nf e) : nf (manyS e) := by
  cases e with
  | eps => trivial
  | maybe x =>
    refine ⟨h.1, ?_⟩
    have hl : x.least ≠ 0 := h.2
    cases x with
    | eps => exact absurd rfl hl
    | maybe y => exact absurd rfl hl
    | many y => exact absurd rfl hl
    | _ => rfl
  | many x => exact h
  | _ => exact ⟨h, rfl⟩
theorem nf_maybe {e : E} (h : nf e) : nf (maybeS e) := by
  unfold maybeS
  split
  · exact h
  · rename_i c
    exact ⟨h, c⟩
theorem nf_rowJ {L : List E} (h : ∀ e ∈ L, nf e) (h2 : ∀ x ∈ L, isJoin x = false ∧ x.isEps = false) : nf (rowS true L) := by
  match L with
  | [] => trivial
  | [e] => exact h e List.mem_cons_self
  | e1 :: e2 :: r => exact ⟨nfs_all.mpr h, h2, by show 2 ≤ r.length + 1 + 1; omega⟩
theorem nf_rowA {L : List E} (h : ∀ e ∈ L, nf e) (h2 : ∀ x ∈ L, isAlt x = false) (h4 : L.Nodup) (h5 : (∃ x ∈ L, x.isEps = false ∧ x.least = 0) → ∀ x ∈ L, x.isEps = false) : nf (rowS false L) := by
  match L with
  | [] => trivial
  | [e] => exact h e List.mem_cons_self
  | e1 :: e2 :: r => exact ⟨nfs_all.mpr h, h2, by show 2 ≤ r.length + 1 + 1; omega, h4, h5⟩
theorem nf_kids {j : Bool} {e : E} (h : nf e) (hb : isB j e = true) : ∀ k ∈ e.kids, nf k := by
  cases j with
  | true =>
    cases e with
    | join es => exact nfs_all.mp h.1
    | _ => cases hb
  | false =>
    cases e with
    | alt es => exact nfs_all.mp h.1
    | _ => cases hb
theorem open_nf {j : Bool} {es : List E} (h : ∀ e ∈ es, nf e ∧ e.ok = true) : ∀ x ∈ openE j es, nf x ∧ isB j x = false := fun x hx => by
  unfold openE at hx
  obtain ⟨e, he, hx⟩ := List.mem_flatMap.mp hx
  cases hb : isB j e with
  | true =>
    rw [hb] at hx
    exact ⟨nf_kids (h e he).1 hb x hx, isB_kids (h e he).2 hb hx⟩
  | false =>
    rw [hb] at hx
    obtain rfl := List.mem_singleton.mp hx
    exact ⟨(h _ he).1, hb⟩
mutual
theorem simp_nf : ∀ e : E, e.ok = true → nf (simpE e)
  | .eps, _ => trivial
  | .sym c, _ => trivial
  | .maybe e, ho => by rw [simpE]; exact nf_maybe (simp_nf e (by rw [E.ok] at ho; exact ho))
  | .many e, ho => by rw [simpE]; exact nf_many (simp_nf e (by rw [E.ok] at ho; exact ho))
  | .join es, ho => by
    rw [E.ok, oks_eq] at ho
    simp only [Bool.and_eq_true] at ho
    have hn := open_nf (j := true) (simps_nf es ho.1.2)
    rw [simpE]
    unfold joinS
    exact nf_rowJ (fun e he => (hn e (neE_mem.mp he).1).1) fun x hx => ⟨(hn x (neE_mem.mp hx).1).2, (neE_mem.mp hx).2⟩
  | .alt es, ho => by
    rw [E.ok, oks_eq] at ho
    simp only [Bool.and_eq_true] at ho
    have hn := open_nf (j := false) (simps_nf es ho.1.2)
    rw [simpE]
    unfold orS
    split
    · exact nf_rowA (fun e he => (hn e ((dedE_mem _ e).mp (neE_mem.mp he).1)).1) (fun x hx => (hn x ((dedE_mem _ x).mp (neE_mem.mp hx).1)).2) ((dedE_nodup _).filter _) fun _ x hx => (neE_mem.mp hx).2
    · rename_i c
      refine nf_rowA (fun e he => (hn e ((dedE_mem _ e).mp he)).1) (fun x hx => (hn x ((dedE_mem _ x).mp hx)).2) (dedE_nodup _) fun ⟨x, hx, h1, h2⟩ => ?_
      exact absurd (List.any_eq_true.mpr ⟨x, neE_mem.mpr ⟨hx, h1⟩, decide_eq_true h2⟩) c
theorem simps_nf : ∀ es : List E, es.all E.ok = true → ∀ x ∈ simpE.simps es, nf x ∧ x.ok = true
  | [], _, x, hx => by cases hx
  | e :: es, ho, x, hx => by
    rw [List.all_cons, Bool.and_eq_true] at ho
    rw [simpE.simps] at hx
    rcases List.mem_cons.mp hx with rfl | hx
    · exact ⟨simp_nf e ho.1, (simp_sm e ho.1).ok⟩
    · exact simps_nf es ho.2 x hx
end
theorem simp_twice {e : E} (h : e.ok = true) : simpE (simpE e) = simpE e := nf_fix _ (simp_nf e h)
end My
namespace My
open PySem PySem.Spec PyProof.Rows L2
/-! ### does it match the empty word -/
def wrapW (b : Bool) : Str := if b then sMany else sMaybe
def wrapE (b : Bool) (e : E) : E := if b then .many e else .maybe e
theorem node2 {H : Hp} {v : V} {e : E} (hok : e.ok = true) (hR : Rep H v e.toD) (hs : ¬ isStr e.toD = true) : ∃ (w : Str) (p : Addr) (x : V), v = .ref p ∧ H p = some (.tup [.str w, x]) ∧ w.length ≤ 1000 ∧
    ((inV (V.str w) [V.str sMaybe, V.str sMany] = true ∧ ∃ b k, w = wrapW b ∧ e = wrapE b k ∧ Rep H x k.toD ∧ k.ok = true ∧ k.depth + 1 ≤ e.depth) ∨
     (inV (V.str w) [V.str sMaybe, V.str sMany] = false ∧ ∃ b es p2 xs, w = rowW b ∧ e = rowE b es ∧ x = .ref p2 ∧ H p2 = some (.tup xs) ∧ xs.length ≤ 100000 ∧ Two (Rep H) xs (es.map E.toD) ∧ ∀ k ∈ es, k.ok = true ∧ k.depth + 1 ≤ e.depth)) := by
  obtain ⟨w, y, p, x, hw, hv, hp, hx, h⟩ := node_of hok hR hs
  refine ⟨w, p, x, hv, hp, hw, ?_⟩
  have kd : ∀ k ∈ e.kids, k.ok = true ∧ k.depth + 1 ≤ e.depth := fun k hk => ⟨ok_kids hok k hk, depth_kids e k hk⟩
  rcases h with (⟨rfl, k, rfl, rfl⟩ | ⟨rfl, k, rfl, rfl⟩) | (⟨rfl, es, rfl, h2, rfl⟩ | ⟨rfl, es, rfl, h2, rfl⟩)
  · exact .inl ⟨by decide +kernel, false, k, rfl, rfl, hx, kd k (by rw [E.kids]; exact List.mem_singleton.mpr rfl)⟩
  · exact .inl ⟨by decide +kernel, true, k, rfl, rfl, hx, kd k (by rw [E.kids]; exact List.mem_singleton.mpr rfl)⟩
  · obtain ⟨p2, xs, h3, h4, h5, h6⟩ := hx.untup
    exact .inr ⟨by decide +kernel, true, es, p2, xs, rfl, rfl, h3, h4, h5, h6, kd⟩
  · obtain ⟨p2, xs, h3, h4, h5, h6⟩ := hx.untup
    exact .inr ⟨by decide +kernel, false, es, p2, xs, rfl, rfl, h3, h4, h5, h6, kd⟩
/-- a leaf is its letters -/
theorem leaf2 {H : Hp} {v : V} {e : E} (hR : Rep H v e.toD) (hs : isStr e.toD = true) : ∃ z : Str, v = .str z ∧ z.cps.toList = e.letters ∧ z.length = e.places ∧ ((z = sNo ∧ e = .eps) ∨ ∃ c, z = ⟨#[c]⟩ ∧ e = .sym c) := by
  cases e with
  | eps =>
    rw [E.toD] at hR
    cases hR with
    | str h => exact ⟨_, rfl, by decide +kernel, by decide +kernel, .inl ⟨rfl, rfl⟩⟩
  | sym c =>
    rw [E.toD] at hR
    cases hR with
    | str h => exact ⟨_, rfl, rfl, rfl, .inr ⟨c, rfl, rfl⟩⟩
  | maybe k => exact absurd hs (by rw [E.toD]; intro c; cases c)
  | many k => exact absurd hs (by rw [E.toD]; intro c; cases c)
  | join es => exact absurd hs (by rw [E.toD]; intro c; cases c)
  | alt es => exact absurd hs (by rw [E.toD]; intro c; cases c)

def spEmpty (n : Nat) : Sp := fun vs H Q _ => ∃ (v : V) (e : E), vs = [v] ∧ e.ok = true ∧ e.depth < n ∧ e.parts ≤ 1000 ∧ Rep H v e.toD ∧ ∀ H', Same H H' → Q (.bl (decide (e.least = 0))) H'
theorem sum_zero (l : List Nat) : l.sum = 0 ↔ ∀ x ∈ l, x = 0 := by
  induction l with
  | nil => simp
  | cons x l ih =>
    rw [List.sum_cons]
    constructor
    · intro h y hy
      rcases List.mem_cons.mp hy with rfl | hy
      · omega
      · exact ih.mp (by omega) y hy
    · intro h
      have := h x List.mem_cons_self
      have := ih.mpr fun y hy => h y (List.mem_cons_of_mem _ hy)
      omega
theorem row_least {b : Bool} {es : List E} (h2 : es ≠ []) : decide ((rowE b es).least = 0) = if b then (es.map fun k => decide (k.least = 0)).all id else (es.map fun k => decide (k.least = 0)).any id := by
  cases b with
  | true =>
    show decide ((E.join es).least = 0) = (es.map fun k => decide (k.least = 0)).all id
    rw [E.least, leastl_eq, List.all_map]
    refine Bool.eq_iff_iff.mpr ?_
    rw [decide_eq_true_eq, sum_zero, List.all_eq_true]
    constructor
    · intro h k hk
      exact decide_eq_true (h _ (List.mem_map.mpr ⟨k, hk, rfl⟩))
    · intro h x hx
      obtain ⟨k, hk, rfl⟩ := List.mem_map.mp hx
      exact of_decide_eq_true (h k hk)
  | false =>
    show decide ((E.alt es).least = 0) = (es.map fun k => decide (k.least = 0)).any id
    rw [E.least, leastl_eq, List.any_map]
    refine Bool.eq_iff_iff.mpr ?_
    rw [decide_eq_true_eq, minL_zero (by intro h; exact h2 (List.map_eq_nil_iff.mp h)), List.any_eq_true]
    constructor
    · intro h
      obtain ⟨k, hk, e⟩ := List.mem_map.mp h
      exact ⟨k, hk, decide_eq_true e⟩
    · rintro ⟨k, hk, h⟩
      exact List.mem_map.mpr ⟨k, hk, of_decide_eq_true h⟩
theorem iteN {w z : Str} {A B : Prop} (h : w ≠ z) (b : B) : if decide (V.str w = V.str z) = true then A else B := by
  rw [if_neg fun c => h (vstr c)]
  exact b
theorem iteY {w z : Str} {A B : Prop} (h : w = z) (a : A) : if decide (V.str w = V.str z) = true then A else B := by
  rw [if_pos (by rw [h]; exact decide_eq_true rfl)]
  exact a
section
variable {P : Program} {w : World} {K : PySem.W.Frag} {mg : Str → Option Value} {base : Heap} {a_BOUNDS a_LONG_BOUNDS : Addr} {tL tM : Tok}
abbrev N__law_empty : List Str := ["expression", "told", "part"]
theorem sc__law_empty : FnScope ["expression", "told", "part"] ["expression"] (defScope s__law_empty) := ⟨rfl, rfl, rfl, by decide +kernel, rfl, by decide +kernel, by decide +kernel⟩
theorem ok_empty_step {f : Addr} {fd : FuncData} (B : Bt K mg a_BOUNDS a_LONG_BOUNDS tL tM) (Dd : Df K mg "_law_empty" s__law_empty ["expression"] f fd) (n : Nat) (G_law_empty : Cl P w K mg base n "_law_empty" ["expression"] (spEmpty n)) : FnOk P w K mg base CX0 (n + 1) f fd ["expression"] (spEmpty (n + 1)) := by
  refine Dd.F.ok sc__law_empty (fun vs H Q Ex h => ?_) (fun cdv A outer s H vs Q Ex hr h => ?_)
  · obtain ⟨v, e, rfl, _⟩ := h
    rfl
  obtain ⟨v, e, rfl, hok, hd, hpt, hR, q⟩ := h
  refine ⟨_, (pss_cons (ps_if (pt_val (pe_callB call_isi rfl B.b_isinstance boot_isinstance (pa_cons (pv 0) (pa_cons (pe_bltn (v := .ty "str") rfl B.b_str boot_str rfl) pa_nil)))) (pss_one (ps_ret (pe_cmpR op_eq (pv 0) pe_str (nomark _)))) pss_nil)
    (pss_cons (ps_if (pt_cmpR op_in_seq (pe_ix (r := rIxT K) ix_tup (pv 0) pe_int (fun _ _ => rfl)) (pe_lst (pa_cons pe_str (pa_cons pe_str pa_nil))) rfl) (pss_one (ps_ret pe_bl)) pss_nil)
    (pss_cons (ps_setLc (i := 1) (own := [("part", 2)]) (g := gName 2) (tt := tYes) rfl sc__law_empty.nd rfl rfl (sw_true rfl rfl rfl (by decide +kernel)) (pi_tup (pe_ix (r := rIxT K) ix_tup (pv 0) pe_int (fun _ _ => rfl))) (blkOk_by (N := N__law_empty) (sc := defScope s__law_empty) (by decide +kernel)) (fun _ _ _ _ _ => pg_name (i := 2) sc__law_empty.nd rfl (Or.inl rfl)) (fun _ _ _ _ _ => pts_nil) (fun _ _ _ _ _ => (pe_cl G_law_empty (hr.mono (by omega)) rfl (pa_cons (pv 2) pa_nil))))
    (pss_one (ps_ret (pe_ifExp (pt_cmpR op_eq (pe_ix (r := rIxT K) ix_tup (pv 0) pe_int (fun _ _ => rfl)) pe_str (nomark _)) (pe_callB (cr_all rfl) rfl B.b_all boot_all (pa_cons (pv 1) pa_nil)) (pe_callB (cr_any rfl) rfl B.b_any boot_any (pa_cons (pv 1) pa_nil)))))))), ?_⟩
  obtain ⟨t, ht, k1, _⟩ := hR.ty (K := K)
  refine ⟨_, rfl, _, _, _, _, _, rfl, .ty _, ht, k1, _, rfl, ite2 (fun e1 => ?_) (fun e1 => ?_)⟩
  · obtain ⟨z, rfl, h1, h2, ⟨rfl, rfl⟩ | ⟨c, rfl, rfl⟩⟩ := leaf2 hR e1
    · exact ⟨_, rfl, rfl, q H (Same.refl H)⟩
    · refine ⟨_, rfl, rfl, ?_⟩
      have := q H (Same.refl H)
      exact this
  have pk := parts_kids e
  obtain ⟨w', p, x, rfl, hp, hw, hk⟩ := node2 hok hR e1
  refine ⟨_, rfl, p, _, 0, _, rfl, rfl, SqT.of hp, at_zero, (by show 2 ≤ sizeLine; decide), fun l hl => ⟨l, _, rfl, .inl (SqL.of upd_same), rfl, rfl, _, rfl, ?_⟩⟩
  have hp2 : (upd H l (.lst [V.str sMaybe, V.str sMany])) p = some (.tup [.str w', x]) := (same_upd hl) _ _ hp
  refine ite2 (fun e2 => ?_) (fun e2 => ?_)
  · obtain ⟨_, b, k, rfl, rfl, hx, hko, hkd⟩ := hk.resolve_right fun c => by
      have e3 : inV (V.str w') [V.str sMaybe, V.str sMany] = true := e2
      rw [c.1] at e3
      cases e3
    have := q _ (same_upd (o := .lst [V.str sMaybe, V.str sMany]) hl)
    rw [show decide ((wrapE b k).least = 0) = true from by cases b <;> rfl] at this
    exact this
  · obtain ⟨_, b, es, p2, xs, rfl, rfl, rfl, h4, h5, hX, hks⟩ := hk.resolve_left fun c => e2 c.1
    have hl2 := hX.len
    rw [List.length_map] at hl2
    have hX1 : Two (Rep (upd H l (.lst [V.str sMaybe, V.str sMany]))) xs (es.map E.toD) := Rep.pers2 (Pers.new hl) hX
    have h41 := (same_upd (o := .lst [V.str sMaybe, V.str sMany]) hl) _ _ h4
    have kids : (rowE b es).kids = es := by cases b <;> rfl
    refine ⟨_, rfl, p, _, 1, _, rfl, rfl, SqT.of hp2, at_of (j := 1) rfl rfl, p2, rfl, ⟨_, SqT.of h41⟩, fun L hL => ?_⟩
    refine lc_tup (K := K) (a := p2) (xs := xs) (fun i H2 => Same (upd H l (.lst [V.str sMaybe, V.str sMany])) H2 ∧ H2 L = some (.lst (((es.take i).map fun k => decide (k.least = 0)).map V.bl))) ⟨same_upd hL, upd_same⟩ (fun i H2 _ h => SqT.of (h.1 _ _ h41)) (fun i y H2 hx h => ?_) (fun H2 h => ?_)
    · obtain ⟨h0, h2⟩ := h
      obtain ⟨d, hd1, hxd⟩ := hX1.get hx
      rw [List.getElem?_map] at hd1
      obtain ⟨k, hk, rfl⟩ := Option.map_eq_some_iff.mp hd1
      have hmem := List.mem_of_getElem? hk
      obtain ⟨hk1, hk2⟩ := hks k hmem
      have hkp := (kid_parts (e := rowE b es) (k := k) (by rw [kids]; exact hmem)).1
      have hix : i < xs.length := (List.getElem?_eq_some_iff.mp hx).1
      refine ⟨rfl, tyes ⟨_, rfl, y, k, rfl, hk1, by omega, by omega, hxd.pers (Pers.same h0), fun H3 s3 => ⟨_, s3 _ _ h2, ?_, fun b o e => ?_, ?_⟩⟩⟩
      · rw [List.length_map, List.length_map, List.length_take]
        exact Nat.lt_of_le_of_lt (m := 100000) (by omega) (by decide)
      · rw [upd_ne (ne_of_none e hL)]
        exact s3 _ _ (h0 b o e)
      · rw [upd_same, take_snoc hk, List.map_append, List.map_append]
        rfl
    obtain ⟨h0, h2⟩ := h
    rw [hl2, List.take_length] at h2
    have hne : es ≠ [] := fun h => by
      rw [h] at hok
      cases b <;> cases hok
    have q := q _ ((same_upd (o := .lst [V.str sMaybe, V.str sMany]) hl).trans h0)
    rw [row_least hne] at q
    have hp3 := h0 _ _ hp2
    refine ⟨_, rfl, p, _, 0, _, rfl, rfl, SqT.of hp3, at_zero, rfl, _, rfl, ?_⟩
    cases b with
    | true => exact iteY rfl ⟨_, rfl, L, _, rfl, SqL.of h2, q⟩
    | false => exact iteN (by decide +kernel) ⟨_, rfl, L, _, rfl, SqL.of h2, q⟩
end
end My
namespace My
open PySem PySem.Spec PyProof.Rows L2
theorem cutN_take (xs : List V) (i : Nat) : cutV xs none (some (i : Int)) = xs.take i := by
  unfold cutV
  rw [HT.sIx_none, HT.sIx_nat, List.drop_zero, Nat.sub_zero]
  by_cases h : i ≤ xs.length
  · rw [Nat.min_eq_left h]
  · rw [Nat.min_eq_right (by omega), List.take_length, List.take_of_length_le (by omega)]
theorem ded_snoc (l : List E) (e : E) : dedE (l ++ [e]) = dedF (dedE l) e := by
  unfold dedE
  rw [List.foldl_append]
  rfl
theorem ded_yes {l : List E} {e : E} (h : e ∈ l) : dedE (l ++ [e]) = dedE l := by
  rw [ded_snoc, dedF, if_pos (ded_any.mpr ((dedE_mem l e).mpr h))]
theorem ded_no {l : List E} {e : E} (h : e ∉ l) : dedE (l ++ [e]) = dedE l ++ [e] := by
  rw [ded_snoc, dedF, if_neg fun c => h ((dedE_mem l e).mp (ded_any.mp c))]
theorem any_ne (l : List E) (p : E → Bool) : (neE l).any p = l.any fun x => !x.isEps && p x := by
  unfold neE
  rw [List.any_filter]
theorem two_takeV {R : V → My.D → Prop} : ∀ {xs : List V} {es : List My.D}, Two R xs es → ∀ n, Two R (xs.take n) (es.take n)
  | _, _, .nil, n => by rw [List.take_nil, List.take_nil]; exact .nil
  | _, _, .cons h t, 0 => .nil
  | _, _, .cons h t, n + 1 => .cons h (two_takeV t n)
def unw : E → E
  | .maybe x => x
  | .many x => x
  | e => e
theorem many_unw {e : E} (h : nf e) : manyS e = if (unw e).isEps = true then .eps else .many (unw e) := by
  cases e with
  | maybe x =>
    have hl : x.least ≠ 0 := h.2
    show E.many x = if x.isEps = true then _ else _
    rw [if_neg (fun c => by cases x with | eps => exact hl rfl | _ => cases c)]
    rfl
  | many x =>
    have hl : manyS x = .many x := h.2
    show E.many x = if x.isEps = true then _ else _
    rw [if_neg (fun c => by cases x with | eps => cases hl | _ => cases c)]
    rfl
  | _ => rfl
section
variable {P : Program} {w : World} {K : PySem.W.Frag} {mg : Str → Option Value} {base : Heap} {a_BOUNDS a_LONG_BOUNDS : Addr} {tL tM : Tok}
def spLSimp (n : Nat) : Sp := fun vs H Q _ => ∃ (v : V) (e : E), vs = [v] ∧ e.ok = true ∧ e.depth < n ∧ n ≤ 20 ∧ (dE e).depth ≤ 60 ∧ e.parts ≤ 400 ∧ Rep H v e.toD ∧ ∀ u H', Same H H' → Rep H' u (simpE e).toD → Q u H'
abbrev N__law_simple : List Str := ["expression", "rows", "inner", "flat", "row", "part", "k"]
theorem sc__law_simple : FnScope ["expression", "rows", "inner", "flat", "row", "part", "k"] ["expression"] (defScope s__law_simple) := ⟨rfl, rfl, rfl, by decide +kernel, rfl, by decide +kernel, by decide +kernel⟩
theorem ok_lsimp_step {f : Addr} {fd : FuncData} (B : Bt K mg a_BOUNDS a_LONG_BOUNDS tL tM) (Dd : Df K mg "_law_simple" s__law_simple ["expression"] f fd) (G_law_inside : Cl P w K mg base 1 "_law_inside" ["expression"] spInside) (G_law_empty : Cl P w K mg base 20 "_law_empty" ["expression"] (spEmpty 20)) (n : Nat) (G_law_simple : Cl P w K mg base (n + 20) "_law_simple" ["expression"] (spLSimp n)) : FnOk P w K mg base CX0 (n + 21) f fd ["expression"] (spLSimp (n + 1)) := by
  refine Dd.F.ok sc__law_simple (fun vs H Q Ex h => ?_) (fun cdv A outer s H vs Q Ex hr h => ?_)
  · obtain ⟨v, e, rfl, _⟩ := h
    rfl
  obtain ⟨v, e, rfl, hok, hd, hn, hdd, hpt, hR, q⟩ := h
  refine ⟨_, (pss_cons (ps_if (pt_val (pe_callB call_isi rfl B.b_isinstance boot_isinstance (pa_cons (pv 0) (pa_cons (pe_bltn (v := .ty "str") rfl B.b_str boot_str rfl) pa_nil)))) (pss_one (ps_ret (pv 0))) pss_nil)
    (pss_cons (ps_setLc (i := 1) (own := [("part", 5)]) (g := gName 5) (tt := tYes) rfl sc__law_simple.nd rfl rfl (sw_true rfl rfl rfl (by decide +kernel)) (pi_tup (pe_cl G_law_inside (hr.mono (by omega)) rfl (pa_cons (pv 0) pa_nil))) (blkOk_by (N := N__law_simple) (sc := defScope s__law_simple) (by decide +kernel)) (fun _ _ _ _ _ => pg_name (i := 5) sc__law_simple.nd rfl (Or.inl rfl)) (fun _ _ _ _ _ => pts_nil) (fun _ _ _ _ _ => (pe_cl G_law_simple (hr.mono (by omega)) rfl (pa_cons (pv 5) pa_nil))))
    (pss_cons (ps_if (pt_cmpR op_eq (pe_ix (r := rIxT K) ix_tup (pv 0) pe_int (fun _ _ => rfl)) pe_str (nomark _)) (pss_one (ps_ret (pe_ifExp (pt_val (pe_cl G_law_empty (hr.mono (by omega)) rfl (pa_cons (pe_ix (r := rIxL K) ix_list (pv 1) pe_int (fun _ _ => rfl)) pa_nil))) (pe_ix (r := rIxL K) ix_list (pv 1) pe_int (fun _ _ => rfl)) (pe_tup (pa_cons pe_str (pa_cons (pe_ix (r := rIxL K) ix_list (pv 1) pe_int (fun _ _ => rfl)) pa_nil)))))) pss_nil)
    (pss_cons (ps_if (pt_cmpR op_eq (pe_ix (r := rIxT K) ix_tup (pv 0) pe_int (fun _ _ => rfl)) pe_str (nomark _)) (pss_cons (ps_set (i := 2) sc__law_simple.nd rfl (Or.inl rfl) (pe_ix (r := rIxL K) ix_list (pv 1) pe_int (fun _ _ => rfl)))
    (C8.pss_cut (ps_if (PW.pt (pw_and (pt_val (pe_callB call_isi rfl B.b_isinstance boot_isinstance (pa_cons (pv 2) (pa_cons (pe_bltn (v := .ty "tuple") rfl B.b_tuple boot_tuple rfl) pa_nil)))) (pw_and1 (pt_cmpR op_in_seq (pe_ix (r := rIxT K) ix_tup (pv 2) pe_int (fun _ _ => rfl)) (pe_lst (pa_cons pe_str (pa_cons pe_str pa_nil))) rfl)))) (pss_one (ps_set (i := 2) sc__law_simple.nd rfl (Or.inl rfl) (pe_ix (r := rIxT K) ix_tup (pv 2) pe_int (fun _ _ => rfl)))) pss_nil)
    (pss_one (ps_ret (pe_ifExp (pt_cmpR (r := rNeD K) (op_neD (u64 hr)) (pv 2) pe_str (nomark _)) (pe_tup (pa_cons pe_str (pa_cons (pv 2) pa_nil))) pe_str))))) pss_nil)
    (pss_cons (ps_set (i := 3) sc__law_simple.nd rfl (Or.inr rfl) (pe_lst pa_nil))
    (pss_cons (ps_for PassesOwn.never rfl (pi_list (pv 1)) (pg_name (i := 4) sc__law_simple.nd rfl (Or.inl rfl)) (pss_one (ps_expr (pe_bm PySem.F.plainAttrs_list PySem.F.slot_list_extend PySem.F.type_list_extend mt_extend (pv 3) (pa_cons (pe_ifExp (PW.pt (pw_and (pt_val (pe_callB call_isi rfl B.b_isinstance boot_isinstance (pa_cons (pv 4) (pa_cons (pe_bltn (v := .ty "tuple") rfl B.b_tuple boot_tuple rfl) pa_nil)))) (pw_and1 (pt_cmpR op_eq (pe_ix (r := rIxT K) ix_tup (pv 4) pe_int (fun _ _ => rfl)) (pe_ix (r := rIxT K) ix_tup (pv 0) pe_int (fun _ _ => rfl)) (nomark _))))) (pe_callTy call_list_of rfl B.b_list boot_list (pa_cons (pe_ix (r := rIxT K) ix_tup (pv 4) pe_int (fun _ _ => rfl)) pa_nil)) (pe_lst (pa_cons (pv 4) pa_nil))) pa_nil)))))
    (C8.pss_cut (ps_if (pt_cmpR op_eq (pe_ix (r := rIxT K) ix_tup (pv 0) pe_int (fun _ _ => rfl)) pe_str (nomark _)) (pss_one (ps_set (i := 3) sc__law_simple.nd rfl (Or.inr rfl) (pe_lc (own := [("part", 5)]) (g := gName 5) rfl sc__law_simple.nd (pi_list (pv 3)) (blkOk_by (N := N__law_simple) (sc := defScope s__law_simple) (by decide +kernel)) (fun _ _ _ _ _ => pg_name (i := 5) sc__law_simple.nd rfl (Or.inl rfl)) (fun _ _ _ _ _ => pts_one (pt_cmpR (r := rNeD K) (op_neD (u64 hr)) (pv 5) pe_str (nomark _))) (fun _ _ _ _ _ => (pv 5))))) (pss_cons (ps_set (i := 3) sc__law_simple.nd rfl (Or.inr rfl) (pe_lc (own := [("k", 6)]) (g := gName 6) rfl sc__law_simple.nd (pi_range1 rfl B.b_range (pa_cons (pe_callB call_len rfl B.b_len boot_len (pa_cons (pv 3) pa_nil)) pa_nil)) (blkOk_by (N := N__law_simple) (sc := defScope s__law_simple) (by decide +kernel)) (fun _ _ _ _ _ => pg_name (i := 6) sc__law_simple.nd rfl (Or.inl rfl)) (fun _ _ _ _ _ => pts_one (pt_cmpR (r := rNotInD K) (op_notInD hr.u65) (pe_ix (r := rIxL K) ix_list (pv 3) (pv 6) (fun _ _ => rfl)) (pe_slice (r := rSlL K) sl_list (pv 3) po_none (po_some (pv 6))) rfl)) (fun _ _ _ _ _ => (pe_ix (r := rIxL K) ix_list (pv 3) (pv 6) (fun _ _ => rfl)))))
    (pss_one (ps_if (pt_val (pe_callB (cr_any rfl) rfl B.b_any boot_any (pa_cons (pe_lc (own := [("part", 5)]) (g := gName 5) (tt := tYes) rfl sc__law_simple.nd (pi_list (pv 3)) (blkOk_by (N := N__law_simple) (sc := defScope s__law_simple) (by decide +kernel)) (fun _ _ _ _ _ => pg_name (i := 5) sc__law_simple.nd rfl (Or.inl rfl)) (fun _ _ _ _ _ => pts_nil) (fun _ _ _ _ _ => (pe_and (pe_cmpR (r := rNeD K) (op_neD (u64 hr)) (pv 5) pe_str (nomark _)) (pe_one (pe_cl G_law_empty (hr.mono (by omega)) rfl (pa_cons (pv 5) pa_nil)))))) pa_nil))) (pss_one (ps_set (i := 3) sc__law_simple.nd rfl (Or.inr rfl) (pe_lc (own := [("part", 5)]) (g := gName 5) rfl sc__law_simple.nd (pi_list (pv 3)) (blkOk_by (N := N__law_simple) (sc := defScope s__law_simple) (by decide +kernel)) (fun _ _ _ _ _ => pg_name (i := 5) sc__law_simple.nd rfl (Or.inl rfl)) (fun _ _ _ _ _ => pts_one (pt_cmpR (r := rNeD K) (op_neD (u64 hr)) (pv 5) pe_str (nomark _))) (fun _ _ _ _ _ => (pv 5))))) pss_nil))))
    (pss_cons (ps_if (pt_cmpR op_gt (pe_callB call_len rfl B.b_len boot_len (pa_cons (pv 3) pa_nil)) pe_int (nomark _)) (pss_one (ps_ret (pe_tup (pa_cons (pe_ix (r := rIxT K) ix_tup (pv 0) pe_int (fun _ _ => rfl)) (pa_cons (pe_callTy (r := rTupOf K) call_tuple_ofK rfl B.b_tuple boot_tuple (pa_cons (pv 3) pa_nil)) pa_nil))))) pss_nil)
    (pss_one (ps_ret (pe_ifExp (pt_truth (pv 3) (by intro _; rfl)) (pe_ix (r := rIxL K) ix_list (pv 3) pe_int (fun _ _ => rfl)) pe_str))))))))))), ?_⟩
  obtain ⟨t, ht, k1, _⟩ := hR.ty (K := K)
  refine ⟨_, rfl, _, _, _, _, _, rfl, .ty _, ht, k1, _, rfl, ite2 (fun e1 => ?_) (fun e1 => ?_)⟩
  · have : simpE e = e := by
      obtain ⟨z, _, _, ⟨rfl, _⟩ | ⟨c, rfl, _⟩⟩ := str_cases hR e1 <;> rfl
    rw [this] at q
    exact ⟨_, rfl, q _ H (Same.refl H) hR⟩
  obtain ⟨w, y, p0, x0, hlw, rfl, hp0, hx0, hk⟩ := node_of hok hR e1
  have hnf := simp_nf e hok
  have kok := ok_kids hok
  refine ⟨_, rfl, .ref p0, e, rfl, hok, hR, fun p1 xs H1 s1 hp1 hxz hX => ⟨p1, rfl, ⟨_, SqT.of hp1⟩, fun L hL => ?_⟩⟩
  have hxl : xs.length = e.kids.length := by rw [hX.len, List.length_map]
  have kl := (parts_len (es := e.kids))
  have pk := parts_kids e
  refine lc_tup (K := K) (a := p1) (xs := xs) (fun i H2 => Same H1 H2 ∧ ∃ zs : List V, H2 L = some (.lst zs) ∧ Two (Rep H2) zs (((e.kids.map simpE).take i).map E.toD)) ⟨same_upd hL, [], upd_same, by rw [List.take_zero]; exact .nil⟩ (fun i H2 _ h => SqT.of (h.1 _ _ hp1)) (fun i x H2 hx h => ?_) (fun H2 h => ?_)
  · obtain ⟨s2, zs, h1, h2⟩ := h
    obtain ⟨d, hd1, hxd⟩ := hX.get hx
    rw [List.getElem?_map] at hd1
    obtain ⟨k, hk2, rfl⟩ := Option.map_eq_some_iff.mp hd1
    have hmem := List.mem_of_getElem? hk2
    have hkd := depth_kids e k hmem
    have hzl := h2.len
    rw [List.length_map, List.length_take] at hzl
    have hkp := (kid_parts hmem).1
    refine ⟨rfl, tyes ⟨_, rfl, x, k, rfl, kok k hmem, by omega, by omega, Nat.le_trans (dE_kids hmem) hdd, by omega, hxd.pers (Pers.same s2), fun u H3 s3 r3 => ⟨zs, s3 _ _ h1, ?_, ?_, zs ++ [u], upd_same, ?_⟩⟩⟩
    · have : i < xs.length := (List.getElem?_eq_some_iff.mp hx).1
      exact Nat.lt_of_le_of_lt (m := 400) (by omega) (by decide)
    · exact fun b o hb => by rw [upd_ne (ne_of_none hb hL)]; exact s3 _ _ (s2 _ _ hb)
    · have hm : (e.kids.map simpE)[i]? = some (simpE k) := by rw [List.getElem?_map, hk2]; rfl
      have P3 : Pers H3 (upd H3 L (.lst (zs ++ [u]))) := Pers.store (s3 _ _ h1)
      rw [take_snoc hm, List.map_append]
      exact (h2.mono fun _ _ => Rep.pers ((Pers.same s3).trans P3)).app (.cons (r3.pers P3) .nil)
  obtain ⟨s2, zs, h1, h2⟩ := h
  have el2 : xs.length = (e.kids.map simpE).length := by rw [List.length_map, hxl]
  rw [el2, List.take_length] at h2
  have S2 := s1.trans s2
  have hp02 := S2 _ _ hp0
  refine ⟨_, rfl, p0, _, 0, _, rfl, rfl, SqT.of hp02, at_zero, rfl, _, rfl, ite2 (fun e2 => ?_) (fun e2 => ?_)⟩
  · have hw := vstr e2
    rcases hk with (⟨h, k, rfl, rfl⟩ | ⟨h, k, rfl, rfl⟩) | ⟨h, es, rfl, hes, rfl⟩ | ⟨h, es, rfl, _, rfl⟩
    · cases h2 with
      | @cons z _ _ _ hz t =>
        cases t
        have ho : k.ok = true := by rw [E.ok] at hok; exact hok
        have sk := simp_sm k ho
        have d1 := sk.dep
        have d2 := sk.pts
        rw [E.depth] at hd
        rw [E.parts] at hpt
        refine ⟨_, rfl, L, _, 0, z, rfl, rfl, SqL.of h1, at_zero, z, simpE k, rfl, sk.ok, by omega, by omega, hz, fun H3 s3 => ⟨_, rfl, ite2 (fun c => ?_) (fun c => ?_)⟩⟩
        · refine ⟨_, rfl, L, _, 0, z, rfl, rfl, SqL.of (s3 _ _ h1), at_zero, q _ _ (S2.trans s3) ?_⟩
          rw [simpE, maybeS, if_pos (of_decide_eq_true c)]
          exact hz.pers (Pers.same s3)
        · refine ⟨_, rfl, L, _, 0, z, rfl, rfl, SqL.of (s3 _ _ h1), at_zero, by show 2 ≤ sizeLine; decide, fun p2 hp2 => q _ _ ((S2.trans s3).trans (same_upd hp2)) ?_⟩
          rw [simpE, maybeS, if_neg (fun h => c (decide_eq_true h)), E.toD]
          exact rep_node upd_same (by decide +kernel) ((hz.pers (Pers.same s3)).pers (Pers.new hp2))
    · exact absurd (hw.symm.trans h) mn
    · exact absurd (h.symm.trans hw) jm
    · exact absurd (h.symm.trans hw) om
  refine ⟨_, rfl, p0, _, 0, _, rfl, rfl, SqT.of hp02, at_zero, rfl, _, rfl, ite2 (fun e3 => ?_) (fun e3 => ?_)⟩
  · have hw := vstr e3
    rcases hk with (⟨h, k, rfl, rfl⟩ | ⟨h, k, rfl, rfl⟩) | ⟨h, es, rfl, hes, rfl⟩ | ⟨h, es, rfl, _, rfl⟩
    · exact absurd (h.symm.trans hw) mn
    · cases h2 with
      | @cons z _ _ _ hz t =>
        cases t
        have ho : k.ok = true := by rw [E.ok] at hok; exact hok
        have sk := simp_sm k ho
        have nk := simp_nf k ho
        have e9 : simpE (.many k) = if (unw (simpE k)).isEps = true then .eps else .many (unw (simpE k)) := by rw [simpE]; exact many_unw nk
        rw [e9] at q
        rw [dd_many] at hdd
        have d3 := sk.dd
        generalize simpE k = E0 at hz sk nk q d3
        have uok : (unw E0).ok = true ∧ (dE (unw E0)).depth ≤ 60 := by
          have o1 := sk.ok
          cases E0 with
          | maybe x =>
            rw [E.ok] at o1
            rw [dd_maybe] at d3
            exact ⟨o1, by show (dE x).depth ≤ 60; omega⟩
          | many x =>
            rw [E.ok] at o1
            rw [dd_many] at d3
            exact ⟨o1, by show (dE x).depth ≤ 60; omega⟩
          | eps => exact ⟨o1, by show (dE .eps).depth ≤ 60; omega⟩
          | sym c => exact ⟨o1, by show (dE (.sym c)).depth ≤ 60; omega⟩
          | join es => exact ⟨o1, by show (dE (.join es)).depth ≤ 60; omega⟩
          | alt es => exact ⟨o1, by show (dE (.alt es)).depth ≤ 60; omega⟩
        refine ⟨_, rfl, L, _, 0, z, rfl, rfl, SqL.of h1, at_zero, ?_⟩
        refine ⟨fun σ' H' => ∃ u, σ' = [some (.ref p0), some (.ref L), some u, none, none, none, none] ∧ Same H2 H' ∧ Rep H' u (unw E0).toD, ?_, ?_⟩
        · obtain ⟨t2, ht2, _, k2⟩ := hz.ty (K := K)
          refine ⟨_, rfl, _, _, _, _, _, rfl, .ty _, ht2, k2, _, rfl, ?_⟩
          rw [tup_str]
          cases hs : isStr E0.toD with
          | true =>
            have : unw E0 = E0 := by
              cases E0 with
              | maybe x => rw [E.toD] at hs; cases hs
              | many x => rw [E.toD] at hs; cases hs
              | _ => rfl
            exact iteF ⟨z, rfl, Same.refl _, by rw [this]; exact hz⟩
          | false =>
            obtain ⟨w2, y2, q0, x2, _, rfl, hq0, hx2, hk2⟩ := node_of sk.ok hz (by rw [hs]; exact Bool.false_ne_true)
            refine iteT ⟨_, rfl, q0, _, 0, _, rfl, rfl, SqT.of hq0, at_zero, (by show 2 ≤ sizeLine; decide), fun l hl => ⟨l, _, rfl, .inl (SqL.of upd_same), rfl, rfl, _, rfl, ?_⟩⟩
            have u9 := same_upd (o := .lst [V.str sMaybe, V.str sMany]) hl
            rcases hk2 with (⟨h, x9, rfl, rfl⟩ | ⟨h, x9, rfl, rfl⟩) | ⟨h, es, rfl, hes, rfl⟩ | ⟨h, es, rfl, _, rfl⟩
            · subst h
              exact iteT ⟨_, rfl, q0, _, 1, _, rfl, rfl, SqT.of (u9 _ _ hq0), at_of (j := 1) rfl rfl, x2, rfl, u9, hx2.pers (Pers.same u9)⟩
            · subst h
              exact iteT ⟨_, rfl, q0, _, 1, _, rfl, rfl, SqT.of (u9 _ _ hq0), at_of (j := 1) rfl rfl, x2, rfl, u9, hx2.pers (Pers.same u9)⟩
            · subst h
              exact iteF ⟨.ref q0, rfl, u9, hz.pers (Pers.same u9)⟩
            · subst h
              exact iteF ⟨.ref q0, rfl, u9, hz.pers (Pers.same u9)⟩
        · rintro σ' H3 ⟨u, rfl, s3, hu⟩
          refine ⟨_, rfl, dE (unw E0), .str sNo, rep_dp _ _ hu, .str _, dE_shaped uok.1 uok.2, no_shaped, _, rfl, ?_⟩
          rw [dE_no]
          refine ite2 (fun c => ?_) (fun c => ?_)
          · have c1 : ¬ (unw E0).isEps = true := fun h => by rw [decide_eq_true h] at c; cases c
            refine ⟨_, rfl, by show 2 ≤ sizeLine; decide, fun p2 hp2 => q _ _ ((S2.trans s3).trans (same_upd hp2)) ?_⟩
            rw [if_neg c1, E.toD]
            exact rep_node upd_same (by decide +kernel) (hu.pers (Pers.new hp2))
          · have c1 : (unw E0).isEps = true := Classical.byContradiction fun h => c (by rw [decide_eq_false h]; rfl)
            refine q _ _ (S2.trans s3) ?_
            rw [if_pos c1, E.toD]
            exact .str (by decide +kernel)
    · exact absurd (h.symm.trans hw) jn
    · exact absurd (h.symm.trans hw) on
  obtain ⟨j, hwj, hej, hyj⟩ : ∃ j : Bool, w = wJ j ∧ y = .tup (e.kids.map E.toD) ∧ simpE e = (if j then joinS (e.kids.map simpE) else orS (openE false (e.kids.map simpE))) := by
    rcases hk with (⟨h, k, rfl, rfl⟩ | ⟨h, k, rfl, rfl⟩) | ⟨h, es, rfl, hes, rfl⟩ | ⟨h, es, rfl, _, rfl⟩
    · exact absurd h (vstrN e2)
    · exact absurd h (vstrN e3)
    · exact ⟨true, h, rfl, by rw [simpE, simps_eq]; rfl⟩
    · exact ⟨false, h, rfl, by rw [simpE, simps_eq]; rfl⟩
  subst hwj
  have ksm : ∀ x ∈ e.kids.map simpE, x.ok = true ∧ (dE x).depth ≤ 60 ∧ x.depth < 20 ∧ x.parts ≤ 400 := fun x hx => by
    obtain ⟨k, hk, rfl⟩ := List.mem_map.mp hx
    have a1 := simp_sm k (kok k hk)
    have a2 := depth_kids e k hk
    have a3 := dE_kids hk
    have a4 := (kid_parts hk).1
    have b1 := a1.dep
    have b2 := a1.dd
    have b3 := a1.pts
    exact ⟨a1.ok, by omega, by omega, by omega⟩
  have psum : ((e.kids.map simpE).map E.parts).sum ≤ 400 := by
    have : ∀ l : List E, (∀ k ∈ l, Sm k (simpE k)) → ((l.map simpE).map E.parts).sum ≤ (l.map E.parts).sum := fun l => by
      induction l with
      | nil => intro _; exact Nat.le_refl _
      | cons k l ih =>
        intro hl
        have a1 := (hl k List.mem_cons_self).pts
        have a2 := ih fun x hx => hl x (List.mem_cons_of_mem _ hx)
        rw [List.map_cons, List.map_cons, List.sum_cons, List.map_cons, List.sum_cons]
        omega
    have := this e.kids fun k hk => simp_sm k (kok k hk)
    omega
  have zl := h2.len
  rw [List.length_map] at zl
  have openle : ∀ i, (openE j ((e.kids.map simpE).take i)).length ≤ 400 := fun i => Nat.le_trans (open_len j _) (Nat.le_trans (sub_sum ((List.take_sublist i _).map E.parts)) psum)
  refine ⟨Nat.zero_le _, fun F hF => ?_⟩
  have uF := same_upd (o := .lst []) hF
  refine ⟨_, rfl, L, rfl, ⟨_, SqL.of (uF _ _ h1)⟩, for_list (K := K) (a := L) (xs := zs) (fun i σ' H' => ∃ (ys : List V) (o4 : Option V), σ' = [some (.ref p0), some (.ref L), none, some (.ref F), o4, none, none] ∧ Same H2 H' ∧ H' F = some (.lst ys) ∧ Two (Rep H') ys ((openE j ((e.kids.map simpE).take i)).map E.toD)) ?_ ?_ ?_ ?_⟩
  · exact ⟨[], none, rfl, uF, upd_same, .nil⟩
  · rintro i σ' H' _ ⟨ys, o4, rfl, s3, _⟩
    exact SqL.of (s3 _ _ h1)
  · rintro i z σ' H3 hz ⟨ys, o4, rfl, s3, hys, tw⟩
    obtain ⟨d, hd1, hzd⟩ := h2.get hz
    rw [List.getElem?_map] at hd1
    obtain ⟨E0, hE0, rfl⟩ := Option.map_eq_some_iff.mp hd1
    obtain ⟨o1, o2, o3, o5⟩ := ksm E0 (List.mem_of_getElem? hE0)
    have hz3 := hzd.pers (Pers.same s3)
    have yl : ys.length ≤ 400 := by
      have := tw.len
      rw [List.length_map] at this
      have := openle i
      omega
    have one : isB j E0 = false → ∀ l, H3 l = none → ∃ l' b xs' zs', (V.ref F = V.ref l' ∧ [V.ref l] = [V.ref b] ∧ (upd H3 l (.lst [z])) l' = some (.lst xs') ∧ (upd H3 l (.lst [z])) b = some (.lst zs') ∧ xs'.length + zs'.length ≤ sizeLine ∧ ∃ (ys2 : List V) (o4 : Option V), [some (.ref p0), some (.ref L), none, some (.ref F), some z, none, none] = [some (.ref p0), some (.ref L), none, some (.ref F), o4, none, none] ∧ Same H2 (upd (upd H3 l (.lst [z])) l' (.lst (xs' ++ zs'))) ∧ (upd (upd H3 l (.lst [z])) l' (.lst (xs' ++ zs'))) F = some (.lst ys2) ∧ Two (Rep (upd (upd H3 l (.lst [z])) l' (.lst (xs' ++ zs')))) ys2 ((openE j ((e.kids.map simpE).take (i + 1))).map E.toD)) := fun hb l hl => by
      have ul := same_upd (o := .lst [z]) hl
      have P1 : Pers (upd H3 l (.lst [z])) (upd (upd H3 l (.lst [z])) F (.lst (ys ++ [z]))) := Pers.store (ul _ _ hys)
      refine ⟨F, l, ys, [z], rfl, rfl, ul _ _ hys, upd_same, Nat.le_trans (m := 401) (by rw [List.length_singleton]; omega) (by decide), ys ++ [z], _, rfl, fun b o hb => ?_, upd_same, ?_⟩
      · rw [upd_ne (ne_of_none hb hF)]
        exact ul _ _ (s3 _ _ hb)
      · rw [take_snoc hE0, open_snoc, hb, List.map_append]
        exact (tw.mono fun _ _ h => (h.pers (Pers.same ul)).pers P1).app (.cons ((hz3.pers (Pers.same ul)).pers P1) .nil)
    obtain ⟨t2, ht2, _, k2⟩ := hz3.ty (K := K)
    refine ⟨_, rfl, .inl ⟨rfl, _, SqL.of hys⟩, _, rfl, _, _, _, _, _, rfl, .ty _, ht2, k2, _, rfl, ?_⟩
    rw [tup_str]
    cases hs : isStr E0.toD with
    | true =>
      have hb : isB j E0 = false := by
        cases E0 with
        | eps => cases j <;> rfl
        | sym c => cases j <;> rfl
        | _ => rw [E.toD] at hs; cases hs
      refine iteF ⟨_, rfl, by show 1 ≤ sizeLine; decide, fun l hl => ?_⟩
      exact one hb l hl
    | false =>
      obtain ⟨w2, y2, q0, x2, _, rfl, hq0, hx2, hk2⟩ := node_of o1 hz3 (by rw [hs]; exact Bool.false_ne_true)
      refine iteT ⟨_, rfl, q0, _, 0, _, rfl, rfl, SqT.of hq0, at_zero, _, rfl, p0, _, 0, _, rfl, rfl, SqT.of (s3 _ _ hp02), at_zero, rfl, _, rfl, ?_⟩
      have ht : tagE E0 = some w2 := by
        rcases hk2 with (⟨h, k, rfl, rfl⟩ | ⟨h, k, rfl, rfl⟩) | ⟨h, es, rfl, hes, rfl⟩ | ⟨h, es, rfl, _, rfl⟩ <;> (rw [h]; rfl)
      refine ite2 (fun c => ?_) (fun c => ?_)
      · have hb : isB j E0 = true := by
          rw [← tag_isB]
          exact decide_eq_true (ht.trans (by rw [vstr c]))
        obtain ⟨p1', zs1, h0, h1', hz1⟩ : ∃ p1' zs1, H3 q0 = some (.tup [.str (wJ j), .ref p1']) ∧ H3 p1' = some (.tup zs1) ∧ Two (Rep H3) zs1 (E0.kids.map E.toD) := by
          cases j with
          | true =>
            cases E0 with
            | join ks =>
              rw [E.toD, toDs_eq] at hz3
              obtain ⟨q1, x, e9, a1, a2⟩ := unpair hz3
              cases e9
              obtain ⟨p1, zs, rfl, a3, _, a4⟩ := a2.untup
              exact ⟨p1, zs, a1, a3, a4⟩
            | _ => cases hb
          | false =>
            cases E0 with
            | alt ks =>
              rw [E.toD, toDs_eq] at hz3
              obtain ⟨q1, x, e9, a1, a2⟩ := unpair hz3
              cases e9
              obtain ⟨p1, zs, rfl, a3, _, a4⟩ := a2.untup
              exact ⟨p1, zs, a1, a3, a4⟩
            | _ => cases hb
        have zl1 := hz1.len
        rw [List.length_map] at zl1
        have kk := (parts_len (es := E0.kids))
        have kp := parts_kids E0
        refine ⟨_, rfl, q0, _, 1, _, rfl, rfl, SqT.of h0, at_of (j := 1) rfl rfl, p1', zs1, rfl, .inr (SqT.of h1'), fun l hl => ?_⟩
        have ul := same_upd (o := .lst zs1) hl
        have P1 : Pers (upd H3 l (.lst zs1)) (upd (upd H3 l (.lst zs1)) F (.lst (ys ++ zs1))) := Pers.store (ul _ _ hys)
        refine ⟨F, l, ys, zs1, rfl, rfl, ul _ _ hys, upd_same, Nat.le_trans (m := 1000) (by omega) (by decide), ys ++ zs1, _, rfl, fun b o hb' => ?_, upd_same, ?_⟩
        · rw [upd_ne (ne_of_none hb' hF)]
          exact ul _ _ (s3 _ _ hb')
        · rw [take_snoc hE0, open_snoc, hb, List.map_append]
          exact (tw.mono fun _ _ h => (h.pers (Pers.same ul)).pers P1).app (hz1.mono fun _ _ h => (h.pers (Pers.same ul)).pers P1)
      · have hb : isB j E0 = false := by
          rw [← tag_isB]
          exact decide_eq_false fun h => c (decide_eq_true (by rw [Option.some.inj (ht.symm.trans h)]))
        refine ⟨_, rfl, by show 1 ≤ sizeLine; decide, fun l hl => ?_⟩
        exact one hb l hl
  · rintro σ' H3 ⟨ys, o4, rfl, s3, hys, tw⟩
    have tk : (e.kids.map simpE).take zs.length = e.kids.map simpE := by rw [zl, List.take_length]
    rw [tk] at tw
    have okM := open_all (j := j) (es := e.kids.map simpE) (p := fun x => x.ok = true ∧ (dE x).depth ≤ 60 ∧ x.depth < 20 ∧ x.parts ≤ 400) (fun x hx k hk => ⟨ok_kids hx.1 k hk, Nat.le_trans (dE_kids hk) hx.2.1, by have := depth_kids x k hk; omega, Nat.le_trans (kid_parts hk).1 hx.2.2.2⟩) ksm
    have Ml := openle zs.length
    rw [tk] at Ml
    have hyM : simpE e = if j then rowS true (neE (openE j (e.kids.map simpE))) else orS (openE j (e.kids.map simpE)) := by
      rw [hyj]
      cases j <;> rfl
    generalize openE j (e.kids.map simpE) = M0 at tw okM Ml hyM
    have yl := tw.len
    rw [List.length_map] at yl
    have hp03 := s3 _ _ hp02
    have S3 := S2.trans s3
    refine ⟨fun σ' H' => ∃ (f : Addr) (us : List V) (M : List E) (o5 o6 : Option V), σ' = [some (.ref p0), some (.ref L), none, some (.ref f), o4, o5, o6] ∧ Same H3 H' ∧ H' f = some (.lst us) ∧ Two (Rep H') us (M.map E.toD) ∧ simpE e = rowS j M ∧ M.length ≤ 400, ?_, ?_⟩
    · refine ⟨_, rfl, p0, _, 0, _, rfl, rfl, SqT.of hp03, at_zero, rfl, _, rfl, ?_⟩
      cases j with
      | true =>
        refine iteY rfl ⟨_, rfl, F, rfl, ⟨_, SqL.of hys⟩, fun D hD => ?_⟩
        refine lc_list (K := K) (a := F) (xs := ys) (fun i H' => NeI H3 H' D (M0.take i)) ⟨same_upd hD, [], upd_same, .nil⟩ (fun i H' _ h => SqL.of (h.1 _ _ hys)) (fun i x H4 hx h => ?_) (fun H4 h => ?_)
        · obtain ⟨d, hd, hvd⟩ := tw.get hx
          rw [List.getElem?_map] at hd
          obtain ⟨e0, he, rfl⟩ := Option.map_eq_some_iff.mp hd
          have heo := okM e0 (List.mem_of_getElem? he)
          have hvR := hvd.pers (Pers.same h.1)
          rw [take_snoc he]
          refine ⟨rfl, _, rfl, dE e0, .str sNo, rep_dp e0 x hvR, .str _, dE_shaped heo.1 heo.2.1, no_shaped, _, rfl, ?_⟩
          rw [dE_no]
          refine ite2 (fun c => ?_) (fun c => ?_)
          · have c1 : ¬ e0.isEps = true := fun h => by rw [decide_eq_true h] at c; cases c
            obtain ⟨s2, us, h1, h2⟩ := h
            have ul := h2.len
            rw [List.length_map] at ul
            have := neE_len (M0.take i)
            rw [List.length_take] at this
            refine ⟨_, rfl, us, h1, Nat.lt_of_le_of_lt (m := 1000) (by omega) (by decide), fun b o hb => by rw [upd_ne (ne_of_none hb hD)]; exact s2 _ _ hb, ?_⟩
            exact (nei_yes hD s2 h1 h2 c1 hvR).2
          · have c1 : e0.isEps = true := Classical.byContradiction fun h => c (by rw [decide_eq_false h]; rfl)
            exact nei_no h c1
        · obtain ⟨s4, us, h3, h4⟩ := h
          rw [yl, List.take_length] at h4
          have := neE_len M0
          exact ⟨D, us, neE M0, _, _, rfl, s4, h3, h4, by rw [hyM]; rfl, by omega⟩
      | false =>
        refine iteN (by decide +kernel) ?_
        refine ⟨_, rfl, _, ys.length, rfl, .inl ⟨ys, SqL.of hys, rfl⟩, _, rfl, by omega, by omega, fun D hD => ?_⟩
        have nodd := fun n => (dedE_sub (M0.take n)).length_le
        refine lc_range (lo := 0) (n := ys.length) (fun k H' => Same H3 H' ∧ ∃ us, H' D = some (.lst us) ∧ Two (Rep H') us ((dedE (M0.take k)).map E.toD)) ⟨same_upd hD, [], upd_same, .nil⟩ (fun k H4 hk h => ?_) (fun H4 h => ?_)
        · obtain ⟨s4, us, h3, h4⟩ := h
          have hkM : k < M0.length := by omega
          have he : M0[k]? = some M0[k] := List.getElem?_eq_getElem hkM
          generalize M0[k] = e0 at he
          have hz : ys[k]? = some ys[k] := List.getElem?_eq_getElem (by omega)
          generalize ys[k] = z at hz
          obtain ⟨d, hd, hvd⟩ := tw.get hz
          rw [List.getElem?_map, he] at hd
          obtain rfl := Option.some.inj hd
          have heo := okM e0 (List.mem_of_getElem? he)
          have tw4 : Two (Rep H4) ys (M0.map E.toD) := tw.mono fun _ _ h => h.pers (Pers.same s4)
          have z0 : (0 : Int) + (k : Int) = k := Int.zero_add _
          have c1 : cutV ys none (some ((0 : Int) + (k : Int))) = ys.take k := by rw [z0]; exact cutN_take ys k
          have hus := h4.len
          rw [List.length_map] at hus
          have hnd := nodd k
          rw [List.length_take] at hnd
          refine ⟨rfl, _, rfl, _, rfl, F, ys, _, z, rfl, rfl, SqL.of (s4 _ _ hys), (by rw [z0]; exact atI_nat hz), _, rfl, _, rfl, _, rfl, F, ys, rfl, SqL.of (s4 _ _ hys), fun Z hZ => ?_⟩
          rw [c1]
          have uZ := same_upd (o := .lst (ys.take k)) hZ
          have twk : Two (Rep (upd H4 Z (.lst (ys.take k)))) (ys.take k) ((M0.take k).map E.toD) := by
            have := two_takeV (tw4.mono fun _ _ h => h.pers (Pers.same uZ)) k
            rw [List.map_take]
            exact this
          have mt : ∀ x ∈ M0.take k, x ∈ M0 := fun x hx => List.mem_of_mem_take hx
          have hvz := (hvd.pers (Pers.same s4)).pers (Pers.same uZ)
          refine ⟨dE e0, dE.dEs (M0.take k), rep_dp e0 z hvz, .lst (SqL.of upd_same) (ded_dp twk), dE_shaped heo.1 heo.2.1, dEs_shaped (fun x hx => (okM x (mt x hx)).1) (fun x hx => (okM x (mt x hx)).2.1), _, rfl, ?_⟩
          rw [dEs_any]
          refine ite2 (fun c => ?_) (fun c => ?_)
          · have c2 : e0 ∉ M0.take k := fun h => by rw [ded_any.mpr h] at c; cases c
            have P1 : Pers (upd H4 Z (.lst (ys.take k))) (upd (upd H4 Z (.lst (ys.take k))) D (.lst (us ++ [z]))) := Pers.store (uZ _ _ h3)
            refine ⟨_, rfl, _, rfl, F, ys, _, z, rfl, rfl, SqL.of ((s4.trans uZ) _ _ hys), (by rw [z0]; exact atI_nat hz), us, uZ _ _ h3, Nat.lt_of_le_of_lt (m := 400) (by omega) (by decide), fun b o hb => by rw [upd_ne (ne_of_none hb hD)]; exact (s4.trans uZ) _ _ hb, us ++ [z], upd_same, ?_⟩
            rw [take_snoc he, ded_no c2, List.map_append]
            exact (h4.mono fun _ _ h => (h.pers (Pers.same uZ)).pers P1).app (.cons (hvz.pers P1) .nil)
          · have c2 : e0 ∈ M0.take k := ded_any.mp (Classical.byContradiction fun h => c (by rw [Bool.eq_false_iff.mpr h]; rfl))
            refine ⟨s4.trans uZ, us, uZ _ _ h3, ?_⟩
            rw [take_snoc he, ded_yes c2]
            exact h4.mono fun _ _ h => h.pers (Pers.same uZ)
        obtain ⟨s4, us, h3, h4⟩ := h
        rw [yl, List.take_length] at h4
        have okD : ∀ x ∈ dedE M0, x.ok = true ∧ (dE x).depth ≤ 60 ∧ x.depth < 20 ∧ x.parts ≤ 400 := fun x hx => okM x ((dedE_mem M0 x).mp hx)
        have Dl := Nat.le_trans (dedE_sub M0).length_le Ml
        have hyO : simpE e = if ((dedE M0).any fun x => !x.isEps && decide (x.least = 0)) then rowS false (neE (dedE M0)) else rowS false (dedE M0) := by
          rw [hyM, ← any_ne]
          rfl
        generalize dedE M0 = D0 at h4 okD Dl hyO
        have dl := h4.len
        rw [List.length_map] at dl
        refine ⟨_, rfl, D, rfl, ⟨_, SqL.of h3⟩, fun B0 hB0 => ?_⟩
        refine lc_list (K := K) (a := D) (xs := us) (fun i H' => Same H4 H' ∧ H' B0 = some (.lst (((D0.take i).map fun x => !x.isEps && decide (x.least = 0)).map V.bl))) ⟨same_upd hB0, upd_same⟩ (fun i H' _ h => SqL.of (h.1 _ _ h3)) (fun i x H5 hx h => ?_) (fun H5 h => ?_)
        · obtain ⟨s5, hbs⟩ := h
          obtain ⟨d, hd, hvd⟩ := h4.get hx
          rw [List.getElem?_map] at hd
          obtain ⟨e0, he, rfl⟩ := Option.map_eq_some_iff.mp hd
          have heo := okD e0 (List.mem_of_getElem? he)
          have hvR := hvd.pers (Pers.same s5)
          have bl : ((((D0.take i).map fun x => !x.isEps && decide (x.least = 0))).map V.bl).length < sizeLine := by
            rw [List.length_map, List.length_map, List.length_take]
            exact Nat.lt_of_le_of_lt (m := 400) (by omega) (by decide)
          rw [take_snoc he]
          refine ⟨rfl, tyes ⟨_, rfl, dE e0, .str sNo, rep_dp e0 x hvR, .str _, dE_shaped heo.1 heo.2.1, no_shaped, _, rfl, ?_⟩⟩
          rw [dE_no]
          cases hb : e0.isEps with
          | true =>
            refine iteF ⟨_, hbs, bl, fun b o hb' => by rw [upd_ne (ne_of_none hb' hB0)]; exact s5 _ _ hb', ?_⟩
            rw [upd_same, List.map_append, List.map_append, List.map_singleton, hb]
            rfl
          | false =>
            refine iteT ⟨_, rfl, x, e0, rfl, heo.1, heo.2.2.1, by omega, hvR, fun H6 s6 => ⟨_, s6 _ _ hbs, bl, fun b o hb' => by rw [upd_ne (ne_of_none hb' hB0)]; exact s6 _ _ (s5 _ _ hb'), ?_⟩⟩
            rw [upd_same, List.map_append, List.map_append, List.map_singleton, hb]
            rfl
        obtain ⟨s5, hbs⟩ := h
        rw [dl, List.take_length] at hbs
        refine ⟨B0, _, rfl, SqL.of hbs, _, rfl, ?_⟩
        rw [show ((D0.map fun x => !x.isEps && decide (x.least = 0)).any id) = (D0.any fun x => !x.isEps && decide (x.least = 0)) from by rw [List.any_map]; rfl]
        have h45 : Two (Rep H5) us (D0.map E.toD) := h4.mono fun _ _ h => h.pers (Pers.same s5)
        cases hany : D0.any fun x => !x.isEps && decide (x.least = 0) with
        | false =>
          rw [hany] at hyO
          exact iteF ⟨D, us, D0, _, _, rfl, s4.trans s5, s5 _ _ h3, h45, hyO, Dl⟩
        | true =>
          rw [hany] at hyO
          refine iteT ⟨_, rfl, D, rfl, ⟨_, SqL.of (s5 _ _ h3)⟩, fun D2 hD2 => ?_⟩
          refine lc_list (K := K) (a := D) (xs := us) (fun i H' => NeI H5 H' D2 (D0.take i)) ⟨same_upd hD2, [], upd_same, .nil⟩ (fun i H' _ h => SqL.of (h.1 _ _ (s5 _ _ h3))) (fun i x H6 hx h => ?_) (fun H6 h => ?_)
          · obtain ⟨d, hd, hvd⟩ := h45.get hx
            rw [List.getElem?_map] at hd
            obtain ⟨e0, he, rfl⟩ := Option.map_eq_some_iff.mp hd
            have heo := okD e0 (List.mem_of_getElem? he)
            have hvR := hvd.pers (Pers.same h.1)
            rw [take_snoc he]
            refine ⟨rfl, _, rfl, dE e0, .str sNo, rep_dp e0 x hvR, .str _, dE_shaped heo.1 heo.2.1, no_shaped, _, rfl, ?_⟩
            rw [dE_no]
            refine ite2 (fun c => ?_) (fun c => ?_)
            · have c1 : ¬ e0.isEps = true := fun h => by rw [decide_eq_true h] at c; cases c
              obtain ⟨s6, vs, h5, h6⟩ := h
              have vl := h6.len
              rw [List.length_map] at vl
              have := neE_len (D0.take i)
              rw [List.length_take] at this
              refine ⟨_, rfl, vs, h5, Nat.lt_of_le_of_lt (m := 1000) (by omega) (by decide), fun b o hb => by rw [upd_ne (ne_of_none hb hD2)]; exact s6 _ _ hb, ?_⟩
              exact (nei_yes hD2 s6 h5 h6 c1 hvR).2
            · have c1 : e0.isEps = true := Classical.byContradiction fun h => c (by rw [decide_eq_false h]; rfl)
              exact nei_no h c1
          · obtain ⟨s6, vs, h5, h6⟩ := h
            rw [dl, List.take_length] at h6
            have := neE_len D0
            exact ⟨D2, vs, neE D0, _, _, rfl, s4.trans (s5.trans s6), h5, h6, hyO, by omega⟩
    · rintro σ' H4 ⟨f, us, M, o5, o6, rfl, s4, hus, tw4, hM, Ml4⟩
      have ul := tw4.len
      rw [List.length_map] at ul
      have S4 := S3.trans s4
      have hp04 := s4 _ _ hp03
      refine ⟨_, rfl, _, us.length, rfl, .inl ⟨us, SqL.of hus, rfl⟩, _, _, rfl, rfl, _, rfl, ite2 (fun c => ?_) (fun c => ?_)⟩
      · have c := of_decide_eq_true c
        have e9 : (rowS j M).toD = .tup [.str (wJ j), .tup (M.map E.toD)] := by
          match M, ul with
          | x1 :: x2 :: r, _ =>
            cases j
            · show E.toD (.alt (x1 :: x2 :: r)) = _
              rw [E.toD, toDs_eq]
              rfl
            · show E.toD (.join (x1 :: x2 :: r)) = _
              rw [E.toD, toDs_eq]
              rfl
          | [x1], ul => exact absurd c (by rw [show us.length = 1 from ul]; decide)
          | [], ul => exact absurd c (by rw [show us.length = 0 from ul]; decide)
        refine ⟨_, rfl, p0, _, 0, _, rfl, rfl, SqT.of hp04, at_zero, _, rfl, f, us, rfl, .inl ⟨SqL.of hus, fun p2 hp2 => ⟨by show 2 ≤ sizeLine; decide, fun p3 hp3 => q _ _ (S4.trans ((same_upd hp2).trans (same_upd hp3))) ?_⟩⟩⟩
        have P2 := (Pers.new (o := .tup us) hp2).trans (Pers.new (o := .tup [V.str (wJ j), V.ref p2]) hp3)
        rw [hM, e9]
        exact rep_node upd_same hlw (Rep.tup2 ((same_upd hp3) _ _ upd_same) (by omega) (Rep.pers2 P2 tw4))
      · have c : ¬ 1 < us.length := fun h => c (decide_eq_true (by omega))
        refine ⟨_, rfl, !us.isEmpty, .inl ⟨_, SqL.of hus, rfl⟩, ?_⟩
        match M, us, tw4, c, hM, hus with
        | [], _, .nil, _, hM, _ =>
          refine iteF (q _ _ S4 ?_)
          rw [hM]
          show Rep H4 _ (E.toD .eps)
          rw [E.toD]
          exact .str (by decide +kernel)
        | [x], _, .cons hx .nil, _, hM, hus =>
          refine iteT ⟨_, rfl, f, _, 0, _, rfl, rfl, SqL.of hus, at_zero, q _ _ S4 ?_⟩
          rw [hM]
          exact hx
        | x1 :: x2 :: r, _, .cons _ (.cons _ _), c, _, _ => exact absurd (by rw [List.length_cons, List.length_cons]; omega) c
end
end My
namespace My
open PySem PySem.Spec PyProof.Rows L2
/-! ### how deep -/
def spDepth (n : Nat) : Sp := fun vs H Q _ => ∃ (v : V) (e : E), vs = [v] ∧ e.ok = true ∧ e.depth < n ∧ e.parts ≤ 1000 ∧ Rep H v e.toD ∧ ∀ H', Same H H' → Q (.int (e.depth : Int)) H'
theorem depth_max : ∀ {es : List E}, E.depth.depths es = maxL (es.map E.depth)
  | [] => rfl
  | e :: es => by
    rw [E.depth.depths, depth_max]
    rfl
theorem depth_kids_max {e : E} (h : isTup e.toD = true) : e.depth = 1 + maxL (e.kids.map E.depth) := by
  cases e with
  | eps => rw [E.toD] at h; cases h
  | sym c => rw [E.toD] at h; cases h
  | maybe k =>
    show E.depth (.maybe k) = 1 + max k.depth 0
    rw [E.depth]
    omega
  | many k =>
    show E.depth (.many k) = 1 + max k.depth 0
    rw [E.depth]
    omega
  | join es => rw [E.depth, depth_max]; exact Nat.add_comm _ _
  | alt es => rw [E.depth, depth_max]; exact Nat.add_comm _ _
section
variable {P : Program} {w : World} {K : PySem.W.Frag} {mg : Str → Option Value} {base : Heap} {a_BOUNDS a_LONG_BOUNDS : Addr} {tL tM : Tok}
abbrev N__law_depth : List Str := ["expression", "part"]
theorem sc__law_depth : FnScope ["expression", "part"] ["expression"] (defScope s__law_depth) := ⟨rfl, rfl, rfl, by decide +kernel, rfl, by decide +kernel, by decide +kernel⟩
theorem ok_depth_step {f : Addr} {fd : FuncData} (B : Bt K mg a_BOUNDS a_LONG_BOUNDS tL tM) (Dd : Df K mg "_law_depth" s__law_depth ["expression"] f fd) (G_law_inside : Cl P w K mg base 1 "_law_inside" ["expression"] spInside) (n : Nat) (G_law_depth : Cl P w K mg base (n + 1) "_law_depth" ["expression"] (spDepth n)) : FnOk P w K mg base CX0 (n + 2) f fd ["expression"] (spDepth (n + 1)) := by
  refine Dd.F.ok sc__law_depth (fun vs H Q Ex h => ?_) (fun cdv A outer s H vs Q Ex hr h => ?_)
  · obtain ⟨v, e, rfl, _⟩ := h
    rfl
  obtain ⟨v, e, rfl, hok, hd, hpt, hR, q⟩ := h
  refine ⟨_, (pss_one (ps_ret (pe_ifExp (pt_val (pe_callB call_isi rfl B.b_isinstance boot_isinstance (pa_cons (pv 0) (pa_cons (pe_bltn (v := .ty "tuple") rfl B.b_tuple boot_tuple rfl) pa_nil)))) (pe_op op_add pe_int (pe_callB (cr_max rfl) rfl B.b_max boot_max (pa_cons (pe_lc (own := [("part", 1)]) (g := gName 1) (tt := tYes) rfl sc__law_depth.nd (pi_tup (pe_cl G_law_inside (hr.mono (by omega)) rfl (pa_cons (pv 0) pa_nil))) (blkOk_by (N := N__law_depth) (sc := defScope s__law_depth) (by decide +kernel)) (fun _ _ _ _ _ => pg_name (i := 1) sc__law_depth.nd rfl (Or.inl rfl)) (fun _ _ _ _ _ => pts_nil) (fun _ _ _ _ _ => (pe_cl G_law_depth (hr.mono (by omega)) rfl (pa_cons (pv 1) pa_nil)))) pa_nil))) pe_int))), ?_⟩
  obtain ⟨t, ht, _, k2⟩ := hR.ty (K := K)
  refine ⟨_, rfl, _, _, _, _, _, rfl, .ty _, ht, k2, _, rfl, ite2 (fun e1 => ?_) (fun e1 => ?_)⟩
  · have hk0 : e.kids ≠ [] := by
      cases e with
      | eps => rw [E.toD] at e1; cases e1
      | sym c => rw [E.toD] at e1; cases e1
      | maybe k => intro h; cases h
      | many k => intro h; cases h
      | join es =>
        intro h
        have h : es = [] := h
        rw [h] at hok
        cases hok
      | alt es =>
        intro h
        have h : es = [] := h
        rw [h] at hok
        cases hok
    refine ⟨_, rfl, v, e, rfl, hok, hR, fun p xs H1 s1 hp hz hX => ⟨p, rfl, ⟨_, SqT.of hp⟩, fun L hL => ?_⟩⟩
    have hl := hX.len
    rw [List.length_map] at hl
    have kl := parts_len (es := e.kids)
    have pk := parts_kids e
    refine lc_tup (K := K) (a := p) (xs := xs) (fun i H2 => Same H1 H2 ∧ H2 L = some (.lst ((((e.kids.take i).map E.depth).map fun (d : Nat) => (d : Int)).map V.int))) ⟨same_upd hL, upd_same⟩ (fun i H2 _ h => SqT.of (h.1 _ _ hp)) (fun i x H2 hx h => ?_) (fun H2 h => ?_)
    · obtain ⟨d, hd1, hxd⟩ := hX.get hx
      rw [List.getElem?_map] at hd1
      obtain ⟨k, hk, rfl⟩ := Option.map_eq_some_iff.mp hd1
      have hmem := List.mem_of_getElem? hk
      have hkd := depth_kids e k hmem
      have hkp := (kid_parts hmem).1
      refine ⟨rfl, tyes ⟨_, rfl, x, k, rfl, ok_kids hok k hmem, by omega, by omega, hxd.pers (Pers.same h.1), fun H3 s3 => ⟨_, s3 _ _ h.2, ?_, ?_, ?_⟩⟩⟩
      · have : i < xs.length := (List.getElem?_eq_some_iff.mp hx).1
        rw [List.length_map, List.length_map, List.length_map, List.length_take]
        exact Nat.lt_of_le_of_lt (m := 100000) (by omega) (by decide)
      · exact fun b o e => by rw [upd_ne (ne_of_none e hL)]; exact s3 _ _ (h.1 b o e)
      · rw [upd_same, List.take_add_one, hk, List.map_append, List.map_append, List.map_append]
        rfl
    · obtain ⟨h1, h2⟩ := h
      rw [hl, List.take_length] at h2
      refine ⟨L, _, rfl, SqL.of h2, ?_, fun m hm hle => ⟨_, _, rfl, rfl, ?_⟩⟩
      · rw [List.length_map, List.length_map]
        exact List.length_pos_iff.mpr hk0
      · have q := q _ (s1.trans h1)
        rw [depth_kids_max (e := e) e1] at q
        rw [maxL_is _ m hm hle]
        have e9 : ((1 + maxL (e.kids.map E.depth) : Nat) : Int) = 1 + (maxL (e.kids.map E.depth) : Int) := by omega
        rw [e9] at q
        exact q
  · have : e.depth = 0 := by
      cases e with
      | eps => rfl
      | sym c => rfl
      | _ => exact absurd (by rw [E.toD]; rfl) e1
    have q := q H (Same.refl H)
    rw [this] at q
    exact q
end
end My
namespace My
open PySem PySem.Spec PyProof.Rows L2
/-! ### the simple form has no more places -/
def plS (es : List E) : Nat := (es.map E.places).sum
theorem plS_cons (e : E) (es : List E) : plS (e :: es) = e.places + plS es := rfl
theorem plS_app (xs ys : List E) : plS (xs ++ ys) = plS xs + plS ys := by
  unfold plS
  rw [List.map_append, List.sum_append]
theorem plS_sub {xs ys : List E} (h : xs.Sublist ys) : plS xs ≤ plS ys := sub_sum (h.map E.places)
theorem isB_own {j : Bool} {e : E} (h : isB j e = true) : e.places = plS e.kids := by
  have := places_kids e
  cases j with
  | true =>
    cases e with
    | join es => rw [this]; exact Nat.zero_add _
    | _ => cases h
  | false =>
    cases e with
    | alt es => rw [this]; exact Nat.zero_add _
    | _ => cases h
theorem plS_open (j : Bool) : ∀ es : List E, plS (openE j es) = plS es
  | [] => rfl
  | e :: es => by
    rw [open_cons, plS_app, plS_open j es, plS_cons]
    cases hb : isB j e with
    | true =>
      show plS e.kids + plS es = _
      rw [← isB_own hb]
    | false => rfl
theorem pl_row (j : Bool) : ∀ L : List E, (rowS j L).places ≤ plS L
  | [] => Nat.zero_le _
  | [e] => Nat.le_refl _
  | e1 :: e2 :: r => by
    cases j with
    | true =>
      show (E.join (e1 :: e2 :: r)).places ≤ _
      rw [E.places, placess_eq]
      exact Nat.le_refl _
    | false =>
      show (E.alt (e1 :: e2 :: r)).places ≤ _
      rw [E.places, placess_eq]
      exact Nat.le_refl _
mutual
theorem simp_pl : ∀ e : E, (simpE e).places ≤ e.places
  | .eps => Nat.le_refl _
  | .sym c => Nat.le_refl _
  | .maybe e => by
    have := simp_pl e
    rw [simpE, E.places]
    unfold maybeS
    split
    · exact this
    · rw [E.places]
      exact this
  | .many e => by
    have h := simp_pl e
    rw [simpE]
    show (manyS (simpE e)).places ≤ E.places (.many e)
    rw [E.places]
    cases hs : simpE e with
    | maybe x =>
      rw [hs, E.places] at h
      show E.places (.many x) ≤ _
      rw [E.places]
      exact h
    | many x =>
      rw [hs, E.places] at h
      show E.places (.many x) ≤ _
      rw [E.places]
      exact h
    | eps => exact Nat.zero_le _
    | sym c =>
      rw [hs] at h
      show E.places (.many _) ≤ _
      rw [E.places]
      exact h
    | join es =>
      rw [hs] at h
      show E.places (.many _) ≤ _
      rw [E.places]
      exact h
    | alt es =>
      rw [hs] at h
      show E.places (.many _) ≤ _
      rw [E.places]
      exact h
  | .join es => by
    have h := simps_pl es
    rw [simpE, E.places, placess_eq]
    unfold joinS
    exact Nat.le_trans (pl_row true _) (Nat.le_trans (plS_sub (neE_sub _)) (by rw [plS_open]; exact h))
  | .alt es => by
    have h := simps_pl es
    rw [simpE, E.places, placess_eq]
    unfold orS
    split
    · exact Nat.le_trans (pl_row false _) (Nat.le_trans (plS_sub ((neE_sub _).trans (dedE_sub _))) (by rw [plS_open]; exact h))
    · exact Nat.le_trans (pl_row false _) (Nat.le_trans (plS_sub (dedE_sub _)) (by rw [plS_open]; exact h))
theorem simps_pl : ∀ es : List E, plS (simpE.simps es) ≤ (es.map E.places).sum
  | [] => Nat.le_refl _
  | e :: es => by
    rw [simpE.simps, plS_cons, List.map_cons, List.sum_cons]
    exact Nat.add_le_add (simp_pl e) (simps_pl es)
end
end My
namespace My
open PySem PySem.Spec PyProof.Rows L2
/-! ### sorted texts -/
theorem nat_tri : ∀ xs ys : List Nat, xs < ys ∨ xs = ys ∨ ys < xs
  | [], [] => .inr (.inl rfl)
  | [], _ :: _ => .inl (List.nil_lt_cons _ _)
  | _ :: _, [] => .inr (.inr (List.nil_lt_cons _ _))
  | x :: xs, y :: ys => by
    rcases Nat.lt_trichotomy x y with h | rfl | h
    · exact .inl (List.cons_lt_cons_iff.mpr (.inl h))
    · rcases nat_tri xs ys with h | rfl | h
      · exact .inl (List.cons_lt_cons_iff.mpr (.inr ⟨rfl, h⟩))
      · exact .inr (.inl rfl)
      · exact .inr (.inr (List.cons_lt_cons_iff.mpr (.inr ⟨rfl, h⟩)))
    · exact .inr (.inr (List.cons_lt_cons_iff.mpr (.inl h)))
theorem str_anti {x y : Str} (h1 : PySem.W.dataLt (.str y) (.str x) = false) (h2 : PySem.W.dataLt (.str x) (.str y) = false) : x = y := by
  rw [PySem.W.dataLt_str] at h1 h2
  have h1 := of_decide_eq_false h1
  have h2 := of_decide_eq_false h2
  have h3 : x.cps.toList = y.cps.toList := by
    rcases nat_tri x.cps.toList y.cps.toList with h | h | h
    · exact absurd h h2
    · exact h
    · exact absurd h h1
  cases x
  cases y
  have h3 := Array.toList_inj.mp h3
  have h3 : _ = _ := h3
  subst h3
  rfl
theorem str_sorted {xs ys cs ds : List Str} (hp : cs.Perm xs) (hq : ds.Perm ys) (nx : xs.Nodup) (ny : ys.Nodup) (hm : ∀ z, z ∈ xs ↔ z ∈ ys) (sc : cs.Pairwise fun x y => PySem.W.dataLt (.str y) (.str x) = false) (sd : ds.Pairwise fun x y => PySem.W.dataLt (.str y) (.str x) = false) : cs = ds := by
  have h0 : xs.Perm ys := (List.perm_ext_iff_of_nodup nx ny).mpr hm
  exact List.Perm.eq_of_pairwise (fun a b _ _ h1 h2 => str_anti h1 h2) sc sd (hp.trans (h0.trans hq.symm))
end My
namespace My
open PySem PySem.Spec PyProof.Rows L2
mutual
theorem lets_all : ∀ e : E, e.ok = true → ∀ c ∈ e.letters, 97 ≤ c ∧ c ≤ 100
  | .eps, _, c, h => by cases h
  | .sym d, ho, c, h => by
    rw [E.letters, List.mem_singleton] at h
    subst h
    rw [E.ok] at ho
    simp only [Bool.and_eq_true, decide_eq_true_eq] at ho
    exact ho
  | .maybe e, ho, c, h => lets_all e (by rw [E.ok] at ho; exact ho) c (by rw [E.letters] at h; exact h)
  | .many e, ho, c, h => lets_all e (by rw [E.ok] at ho; exact ho) c (by rw [E.letters] at h; exact h)
  | .join es, ho, c, h => by
    rw [E.ok, oks_eq] at ho
    simp only [Bool.and_eq_true] at ho
    exact lets_alls es ho.1.2 c (by rw [E.letters] at h; exact h)
  | .alt es, ho, c, h => by
    rw [E.ok, oks_eq] at ho
    simp only [Bool.and_eq_true] at ho
    exact lets_alls es ho.1.2 c (by rw [E.letters] at h; exact h)
theorem lets_alls : ∀ es : List E, es.all E.ok = true → ∀ c ∈ E.letters.letterss es, 97 ≤ c ∧ c ≤ 100
  | [], _, c, h => by cases h
  | e :: es, ho, c, h => by
    rw [List.all_cons, Bool.and_eq_true] at ho
    rw [E.letters.letterss] at h
    rcases List.mem_append.mp h with h | h
    · exact lets_all e ho.1 c h
    · exact lets_alls es ho.2 c h
end
theorem sum_ones {α : Type} (l : List α) : (l.map fun _ => 1).sum = l.length := by
  induction l with
  | nil => rfl
  | cons a l ih => rw [List.map_cons, List.sum_cons, ih, List.length_cons]; omega
theorem in_strs (x : Str) (ys : List Str) : inV (V.str x) (ys.map V.str) = decide (x ∈ ys) := by
  unfold inV
  rw [Bool.eq_iff_iff]
  simp [eqV]
theorem flat_strs (ys : List Str) : (ys.map V.str).all flatV = true := by
  rw [List.all_eq_true]
  intro v hv
  obtain ⟨i, _, rfl⟩ := List.mem_map.mp hv
  rfl
theorem repj_pair {H : Hp} {p : Addr} {b1 b2 : Bool} (h : H p = some (.lst [.bl b1, .bl b2])) : RepJ H (.ref p) (.lst [.bl b1, .bl b2]) 1 := by
  refine .lst h (by show 2 ≤ 100000; decide) rfl fun i x j hx hj => ?_
  match i, hx, hj with
  | 0, hx, hj => cases hx; cases hj; exact .bl _
  | 1, hx, hj => cases hx; cases hj; exact .bl _
theorem RepJ.le {H : Hp} {v : V} {j : J} {n m : Nat} (h : RepJ H v j n) (l : n ≤ m) : RepJ H v j m := by
  induction l with
  | refl => exact h
  | step _ ih => exact ih.up
def eJ : E → J
  | .eps => .str sNo
  | .sym c => .str ⟨#[c]⟩
  | .maybe e => .tup [.str sMaybe, eJ e]
  | .many e => .tup [.str sMany, eJ e]
  | .join es => .tup [.str sJoin, .tup (eJs es)]
  | .alt es => .tup [.str sOr, .tup (eJs es)]
where eJs : List E → List J
  | [] => []
  | e :: es => eJ e :: eJs es
theorem repj_tup {H : Hp} {p : Addr} {xs : List V} {js : List J} {n : Nat} (h : H p = some (.tup xs)) (z : xs.length ≤ 100000) (k : Two (fun x j => RepJ H x j n) xs js) : RepJ H (.ref p) (.tup js) (n + 1) := .tup h z k.len fun _ _ _ h1 h2 => k.get2 h1 h2
theorem repj_lst {H : Hp} {p : Addr} {xs : List V} {js : List J} {n : Nat} (h : H p = some (.lst xs)) (z : xs.length ≤ 100000) (k : Two (fun x j => RepJ H x j n) xs js) : RepJ H (.ref p) (.lst js) (n + 1) := .lst h z k.len fun _ _ _ h1 h2 => k.get2 h1 h2
mutual
theorem rep_repj {H : Hp} : ∀ (e : E) (v : V), Rep H v e.toD → RepJ H v (eJ e) (2 * e.depth)
  | .eps, v, h => by
    rw [E.toD] at h
    cases h with
    | str _ => exact .str _
  | .sym c, v, h => by
    rw [E.toD] at h
    cases h with
    | str _ => exact .str _
  | .maybe e, v, h => by
    rw [E.toD] at h
    obtain ⟨p, x, rfl, h1, h2⟩ := unpair h
    rw [eJ, E.depth]
    exact (repj_tup h1 (by show 2 ≤ 100000; decide) (.cons (.str _) (.cons (rep_repj e x h2) .nil))).le (by omega)
  | .many e, v, h => by
    rw [E.toD] at h
    obtain ⟨p, x, rfl, h1, h2⟩ := unpair h
    rw [eJ, E.depth]
    exact (repj_tup h1 (by show 2 ≤ 100000; decide) (.cons (.str _) (.cons (rep_repj e x h2) .nil))).le (by omega)
  | .join es, v, h => by
    rw [E.toD] at h
    obtain ⟨p, x, rfl, h1, h2⟩ := unpair h
    obtain ⟨p2, xs, rfl, h3, hz, h4⟩ := h2.untup
    rw [eJ, E.depth]
    exact (repj_tup h1 (by show 2 ≤ 100000; decide) (.cons (.str _) (.cons (repj_tup h3 hz (reps_repj es xs h4)) .nil))).le (by omega)
  | .alt es, v, h => by
    rw [E.toD] at h
    obtain ⟨p, x, rfl, h1, h2⟩ := unpair h
    obtain ⟨p2, xs, rfl, h3, hz, h4⟩ := h2.untup
    rw [eJ, E.depth]
    exact (repj_tup h1 (by show 2 ≤ 100000; decide) (.cons (.str _) (.cons (repj_tup h3 hz (reps_repj es xs h4)) .nil))).le (by omega)
theorem reps_repj {H : Hp} : ∀ (es : List E) (vs : List V), Two (Rep H) vs (E.toD.toDs es) → Two (fun x j => RepJ H x j (2 * E.depth.depths es)) vs (eJ.eJs es)
  | [], vs, h => by
    rw [E.toD.toDs] at h
    cases h
    rw [eJ.eJs]
    exact .nil
  | e :: es, vs, h => by
    rw [E.toD.toDs] at h
    cases h with
    | cons h1 h2 =>
      rw [eJ.eJs, E.depth.depths]
      exact .cons ((rep_repj e _ h1).le (by omega)) ((reps_repj es _ h2).mono fun a b hab => hab.le (by omega))
end
theorem canLayAll_strs : ∀ cs : List Str, (∀ c ∈ cs, PyData.strOk c = true) → PyData.canLayAll0 (cs.map PyData.str) = true ∧ PyData.depthAll (cs.map PyData.str) = 0
  | [], _ => ⟨rfl, rfl⟩
  | c :: cs, h => by
    obtain ⟨h1, h2⟩ := canLayAll_strs cs fun x hx => h x (List.mem_cons_of_mem _ hx)
    rw [List.map_cons, PyData.canLayAll0, PyData.depthAll, h1, h2, PyData.canLay0, h c (List.mem_cons_self ..)]
    exact ⟨rfl, rfl⟩
theorem strs_shaped {cs : List Str} (h : ∀ c ∈ cs, PyData.strOk c = true) : SeqAt.shaped (.list (cs.map PyData.str)) = true := by
  obtain ⟨h1, h2⟩ := canLayAll_strs cs h
  unfold SeqAt.shaped
  rw [PyData.canLay0, PyData.depth, h1, h2]
  rfl
theorem strs_dp {K : PySem.W.Frag} {H : Hp} {p : Addr} {cs : List Str} (h : H p = some (.lst (cs.map V.str))) : Dp K H (.ref p) (.list (cs.map PyData.str)) := by
  refine .lst (SqL.of h) ?_
  clear h
  induction cs with
  | nil => exact .nil
  | cons c cs ih => exact .cons (.str c) ih
theorem eqvAll_strs : ∀ cs : List Str, PyData.eqvAll (cs.map PyData.str) (cs.map PyData.str) = true
  | [] => rfl
  | c :: cs => by
    rw [List.map_cons, PyData.eqvAll, eqvAll_strs cs, PyData.eqv]
    simp
theorem strOk_lets {z : Str} (h : ∀ c ∈ z.cps.toList, 97 ≤ c ∧ c ≤ 100) : PyData.strOk z = true := by
  unfold PyData.strOk
  rw [← Array.all_toList, List.all_eq_true]
  intro c hc
  have := h c hc
  exact decide_eq_true (by omega)
/-- sorted() of texts: what it asks of the data -/
theorem strs_alike (xs : List Str) : PySem.W.AllAlike (xs.map PyData.str) := PySem.W.AllAlike.of fun b b' => by simp [PySem.W.alike]
theorem strs_sortable (xs : List Str) : PySem.W.Sortable (xs.map PyData.str) := PySem.W.Sortable.others (fun _ => ⟨fun c => (nomatch c), fun _ c => (nomatch c)⟩)
end My
namespace My
open PySem PySem.Spec PyProof.Rows L2
def spLaw (K : PySem.W.Frag) : Sp := fun vs H Q _ => ∃ (s : Addr) (ns : List Int), vs = [.ref s] ∧ SqL K H s (ns.map V.int) ∧ ns.length ≤ 63 ∧ ∀ H', Q (.bl true) H'
structure Szs (e : E) (d p n : Nat) : Prop where
  ok : e.ok = true
  dep : e.depth ≤ d
  pl : e.places ≤ p
  pts : e.parts ≤ n
theorem szs_drawn {e : E} {m : Nat} (hm : m ≤ 4) (h : Drawn e m 4 none) : Szs e 4 m 40 := ⟨h.ok, h.dp, h.pl, Nat.le_trans h.pt.2 (by omega)⟩
theorem Szs.maybe {e : E} {d p n : Nat} (h : Szs e d p n) : Szs (.maybe e) (d + 1) p (n + 1) := ⟨by rw [E.ok]; exact h.ok, by rw [E.depth]; have := h.dep; omega, by rw [E.places]; exact h.pl, by rw [E.parts]; have := h.pts; omega⟩
theorem Szs.many {e : E} {d p n : Nat} (h : Szs e d p n) : Szs (.many e) (d + 1) p (n + 1) := ⟨by rw [E.ok]; exact h.ok, by rw [E.depth]; have := h.dep; omega, by rw [E.places]; exact h.pl, by rw [E.parts]; have := h.pts; omega⟩
theorem Szs.up {e : E} {d p n d' p' n' : Nat} (h : Szs e d p n) (h1 : d ≤ d') (h2 : p ≤ p') (h3 : n ≤ n') : Szs e d' p' n' := ⟨h.ok, Nat.le_trans h.dep h1, Nat.le_trans h.pl h2, Nat.le_trans h.pts h3⟩
theorem szs_eps : Szs .eps 0 0 1 := ⟨rfl, Nat.le_refl _, Nat.le_refl _, Nat.le_refl _⟩
theorem szs_a : Szs (.sym 97) 0 1 1 := ⟨by decide, Nat.le_refl _, Nat.le_refl _, Nat.le_refl _⟩
theorem rep_a {H : Hp} : Rep H (.str "a") (E.toD (.sym 97)) := by
  have e : (Str.ofString "a") = ⟨#[97]⟩ := by decide +kernel
  show Rep H (.str (Str.ofString "a")) _
  rw [e]
  exact rep_sym 97
theorem rep_mb {H : Hp} {t : Addr} {v : V} {e : E} (h : H t = some (.tup [.str "maybe", v])) (r : Rep H v e.toD) : Rep H (.ref t) (E.toD (.maybe e)) := by
  rw [E.toD]
  exact rep_node h (by decide +kernel) r
theorem rep_mn {H : Hp} {t : Addr} {v : V} {e : E} (h : H t = some (.tup [.str "many", v])) (r : Rep H v e.toD) : Rep H (.ref t) (E.toD (.many e)) := by
  rw [E.toD]
  exact rep_node h (by decide +kernel) r
theorem row_szs {j : Bool} {L : List E} (h2 : 2 ≤ L.length) (ok : ∀ x ∈ L, Szs x 5 4 41) (no : ∀ x ∈ L, isB j x = false) (hp : (L.map E.parts).sum ≤ 164) (hl : (L.map E.places).sum ≤ 16) : Szs (rowS j L) 8 16 165 := by
  have h := rowS_sm (j := j) (d := 5) (p := 164) (q := 10) (L := L) ⟨fun x hx => (ok x hx).ok, no, fun x hx => (ok x hx).dep, fun x hx => Nat.le_trans (dE_dep x) (by have := (ok x hx).dep; omega), hp⟩
  exact ⟨h.1, by omega, Nat.le_trans (pl_row j L) hl, by omega⟩
theorem row_toD {j : Bool} : ∀ {M : List E}, 2 ≤ M.length → (rowS j M).toD = .tup [.str (wJ j), .tup (M.map E.toD)]
  | x1 :: x2 :: r, _ => by
    cases j
    · show E.toD (.alt (x1 :: x2 :: r)) = _
      rw [E.toD, toDs_eq]
      rfl
    · show E.toD (.join (x1 :: x2 :: r)) = _
      rw [E.toD, toDs_eq]
      rfl
  | [_], h => absurd h (by show ¬ 2 ≤ 1; decide)
  | [], h => absurd h (by show ¬ 2 ≤ 0; decide)
theorem wJ_len (j : Bool) : (wJ j).length ≤ 1000 := by cases j <;> decide +kernel
theorem rep_row {H : Hp} {t p : Addr} {j : Bool} {us : List V} {M : List E} (h2 : 2 ≤ M.length) (hl : M.length ≤ 1000) (ht : H t = some (.tup [.str (wJ j), .ref p])) (hp : H p = some (.tup us)) (tw : Two (Rep H) us (M.map E.toD)) : Rep H (.ref t) (rowS j M).toD := by
  have ul := tw.len
  rw [List.length_map] at ul
  rw [row_toD h2]
  exact rep_node ht (wJ_len j) (Rep.tup2 hp (by omega) tw)
section
variable {P : Program} {w : World} {K : PySem.W.Frag} {mg : Str → Option Value} {base : Heap} {a_BOUNDS a_LONG_BOUNDS : Addr} {tL tM : Tok}
abbrev N_law : List Str := ["script", "stream", "inner", "more", "word", "rows", "expression", "due", "told", "letters", "most", "part"]
theorem sc_law : FnScope ["script", "stream", "inner", "more", "word", "rows", "expression", "due", "told", "letters", "most", "part"] ["script"] (defScope s_law) := ⟨rfl, rfl, rfl, by decide +kernel, rfl, by decide +kernel, by decide +kernel⟩
set_option maxHeartbeats 8000000 in
theorem ok_law {f : Addr} {fd : FuncData} (B : Bt K mg a_BOUNDS a_LONG_BOUNDS tL tM) (Dd : Df K mg "law" s_law ["script"] f fd)
    (G_law_stream : Cl P w K mg base 1 "_law_stream" ["script"] (spStream K)) (G_law_expression : Cl P w K mg base 8 "_law_expression" ["stream", "most"] spExpr) (G_law_pick : Cl P w K mg base 2 "_law_pick" ["stream", "rows"] (spPickB K)) (G_law_simple : Cl P w K mg base 40 "_law_simple" ["expression"] (spLSimp 20)) (Gsimple : Cl P w K mg base 88 "simple" ["expression"] spSimple) (Gis_long : Cl P w K mg base 5 "is_long" ["value"] (spIs (40, 40, 200)))
    (G_law_equal : Cl P w K mg base 31 "_law_equal" ["actual", "due"] (spEqual 30)) (G_law_letters : Cl P w K mg base 13 "_law_letters" ["expression"] (spLets 12)) (G_law_once : Cl P w K mg base 1 "_law_once" ["rows"] spOnceS) (G_law_words : Cl P w K mg base 14 "_law_words" ["expression", "most"] (spWords 12)) (G_law_count : Cl P w K mg base 13 "_law_count" ["expression"] (spCount 12)) (G_law_depth : Cl P w K mg base 13 "_law_depth" ["expression"] (spDepth 12)) : FnOk P w K mg base CX0 89 f fd ["script"] (spLaw K) := by
  refine Dd.F.ok sc_law (fun vs H Q Ex h => ?_) (fun cdv A outer s H vs Q Ex hr h => ?_)
  · obtain ⟨s, ns, rfl, _⟩ := h
    rfl
  obtain ⟨s, ns, rfl, hs, hn, q⟩ := h
  refine ⟨_, (pss_cons (ps_set (i := 1) sc_law.nd rfl (Or.inl rfl) (pe_cl G_law_stream (hr.mono (by omega)) rfl (pa_cons (pv 0) pa_nil)))
    (pss_cons (ps_set (i := 2) sc_law.nd rfl (Or.inl rfl) (pe_cl G_law_expression (hr.mono (by omega)) rfl (pa_cons (pv 1) (pa_cons pe_int pa_nil))))
    (pss_cons (ps_set (i := 3) sc_law.nd rfl (Or.inl rfl) (pe_cl G_law_pick (hr.mono (by omega)) rfl (pa_cons (pv 1) (pa_cons (pe_lst (pa_cons pe_str (pa_cons pe_str (pa_cons (pv 2) (pa_cons (pe_tup (pa_cons pe_str (pa_cons (pv 2) pa_nil))) (pa_cons (pe_cl G_law_expression (hr.mono (by omega)) rfl (pa_cons (pv 1) (pa_cons pe_int pa_nil))) (pa_cons (pe_tup (pa_cons pe_str (pa_cons pe_str pa_nil))) pa_nil))))))) pa_nil))))
    (pss_cons (ps_set (i := 4) sc_law.nd rfl (Or.inr rfl) (pe_cl G_law_pick (hr.mono (by omega)) rfl (pa_cons (pv 1) (pa_cons (pe_lst (pa_cons pe_str (pa_cons pe_str pa_nil))) pa_nil))))
    (pss_cons (ps_setLc (i := 5) (own := [("part", 11)]) (g := gName 11) rfl sc_law.nd rfl rfl (sw_true rfl rfl rfl (by decide +kernel)) (pi_list (pe_lst (pa_cons (pv 3) (pa_cons (pv 2) (pa_cons pe_str pa_nil))))) (blkOk_by (N := N_law) (sc := defScope s_law) (by decide +kernel)) (fun _ _ _ _ _ => pg_name (i := 11) sc_law.nd rfl (Or.inl rfl)) (fun _ _ _ _ _ => pts_one (PW.pt (pw_or (pt_val (pe_callB (r := rIsi K) call_isi rfl B.b_isinstance boot_isinstance (pa_cons (pv 11) (pa_cons (pe_bltn (v := .ty "str") rfl B.b_str boot_str rfl) pa_nil)))) (pw_or1 (pt_cmpR op_ne (pe_ix (r := rIxT K) ix_tup (pv 11) pe_int (fun _ _ => rfl)) (pv 4) (nomark _)))))) (fun _ _ _ _ _ => (pv 11)))
    (pss_cons (ps_set (i := 6) sc_law.nd rfl (Or.inl rfl) (pe_cl G_law_pick (hr.mono (by omega)) rfl (pa_cons (pv 1) (pa_cons (pe_lst (pa_cons (pv 2) (pa_cons (pe_tup (pa_cons pe_str (pa_cons (pv 2) pa_nil))) (pa_cons (pe_tup (pa_cons pe_str (pa_cons (pv 3) pa_nil))) (pa_cons (pe_tup (pa_cons pe_str (pa_cons (pe_tup (pa_cons pe_str (pa_cons (pe_tup (pa_cons pe_str (pa_cons (pv 2) pa_nil))) pa_nil))) pa_nil))) (pa_cons (pe_tup (pa_cons (pv 4) (pa_cons (pe_callTy (r := rTupOf K) call_tuple_ofK rfl B.b_tuple boot_tuple (pa_cons (pe_op op_cat (pv 5) (pv 5)) pa_nil)) pa_nil))) (pa_cons (pe_tup (pa_cons (pv 4) (pa_cons (pe_callTy (r := rTupOf K) call_tuple_ofK rfl B.b_tuple boot_tuple (pa_cons (pe_op op_cat (pe_lst (pa_cons pe_str pa_nil)) (pv 5)) pa_nil)) pa_nil))) pa_nil))))))) pa_nil))))
    (pss_cons (ps_set (i := 7) sc_law.nd rfl (Or.inl rfl) (pe_cl G_law_simple (hr.mono (by omega)) rfl (pa_cons (pv 6) pa_nil)))
    (pss_cons (ps_set (i := 8) sc_law.nd rfl (Or.inl rfl) (pe_cl Gsimple (hr.mono (by omega)) rfl (pa_cons (pv 6) pa_nil)))
    (pss_cons (ps_if (pt_not (pt_val (pe_cl G_law_equal (hr.mono (by omega)) rfl (pa_cons (pe_lst (pa_cons (pv 8) (pa_cons (pe_cl Gsimple (hr.mono (by omega)) rfl (pa_cons (pv 8) pa_nil)) (pa_cons (pe_cl Gis_long (hr.mono (by omega)) rfl (pa_cons (pv 8) pa_nil)) pa_nil)))) (pa_cons (pe_lst (pa_cons (pv 7) (pa_cons (pv 7) (pa_cons pe_bl pa_nil)))) pa_nil))))) (pss_one (ps_ret pe_bl)) pss_nil)
    (pss_cons (ps_set (i := 9) sc_law.nd rfl (Or.inl rfl) (pe_join pe_str (pe_callB cr_sortedS rfl B.b_sorted boot_sorted (pa_cons (pe_cl G_law_once (hr.mono (by omega)) rfl (pa_cons (pe_op op_add_str (pe_cl G_law_letters (hr.mono (by omega)) rfl (pa_cons (pv 6) pa_nil)) pe_str) pa_nil)) pa_nil))))
    (C8.pss_cut (ps_set (i := 10) sc_law.nd rfl (Or.inl rfl) (pe_ifExp (pt_cmpR op_eq (pe_callB call_len rfl B.b_len boot_len (pa_cons (pv 9) pa_nil)) pe_int (nomark _)) pe_int pe_int))
    (pss_cons (ps_if (pt_cmpR (r := rNeD K) (op_neD (u64 hr)) (pe_callB (cr_sortedP (u64 hr)) rfl B.b_sorted boot_sorted (pa_cons (pe_cl G_law_words (hr.mono (by omega)) rfl (pa_cons (pv 8) (pa_cons (pv 10) pa_nil))) pa_nil)) (pe_callB (cr_sortedP (u64 hr)) rfl B.b_sorted boot_sorted (pa_cons (pe_cl G_law_words (hr.mono (by omega)) rfl (pa_cons (pv 6) (pa_cons (pv 10) pa_nil))) pa_nil)) (nomark _)) (pss_one (ps_ret pe_bl)) pss_nil)
    (pss_one (ps_ret (pe_and (pe_cmpR op_le (pe_callB call_len rfl B.b_len boot_len (pa_cons (pe_cl G_law_letters (hr.mono (by omega)) rfl (pa_cons (pv 8) pa_nil)) pa_nil)) (pe_callB call_len rfl B.b_len boot_len (pa_cons (pe_cl G_law_letters (hr.mono (by omega)) rfl (pa_cons (pv 6) pa_nil)) pa_nil)) (nomark _)) (pe_and (pe_cmpR op_le (pe_cl G_law_count (hr.mono (by omega)) rfl (pa_cons (pv 8) pa_nil)) (pe_cl G_law_count (hr.mono (by omega)) rfl (pa_cons (pv 6) pa_nil)) (nomark _)) (pe_one (pe_cmpR op_le (pe_cl G_law_depth (hr.mono (by omega)) rfl (pa_cons (pv 8) pa_nil)) (pe_cl G_law_depth (hr.mono (by omega)) rfl (pa_cons (pv 6) pa_nil)) (nomark _))))))))))))))))))), ?_⟩
  refine ⟨_, rfl, s, ns, rfl, hs, hn, fun a H1 s1 ha st1 => ?_⟩
  refine ⟨_, rfl, a, 4, rfl, st1, by decide, by decide, fun v0 H2 e0 g2 R0 dr0 => ?_⟩
  have z0 := szs_drawn (by decide) dr0
  have st2 := g2.st
  refine ⟨_, rfl, _, rfl, _, rfl, by show 2 ≤ sizeLine; decide, fun t3 ht3 => ?_⟩
  obtain ⟨H3, f3, u3, st3, n3, k3⟩ := newO (o := .tup [V.str "maybe", v0]) st2 ht3
  have f3 : upd H2 t3 (.tup [V.str (Str.ofString "maybe"), v0]) = H3 := f3
  rw [f3]
  refine ⟨_, rfl, a, 2, rfl, st3, by decide, by decide, fun v4 H4 e4 g4 R4 dr4 => ?_⟩
  have z4 := szs_drawn (by decide) dr4
  refine ⟨by show 2 ≤ sizeLine; decide, fun t5 ht5 => ?_⟩
  obtain ⟨H5, f5, u5, st5, n5, k5⟩ := newO (o := .tup [V.str "maybe", V.str ""]) g4.st ht5
  have f5 : upd H4 t5 (.tup [V.str (Str.ofString "maybe"), V.str (Str.ofString "")]) = H5 := f5
  rw [f5]
  refine ⟨by show 6 ≤ sizeLine; decide, fun l6 hl6 => ?_⟩
  obtain ⟨H6, f6, u6, st6, n6, k6⟩ := newO (o := .lst [V.str "", V.str "a", v0, V.ref t3, v4, V.ref t5]) st5 hl6
  have f6 : upd H5 l6 (.lst [V.str (Str.ofString ""), V.str (Str.ofString "a"), v0, V.ref t3, v4, V.ref t5]) = H6 := f6
  rw [f6]
  refine ⟨a, l6, _, rfl, st6, SqL.of k6, n6, by show 0 < 6; decide, by show 6 < 100000; decide, fun mv H7 hmv g7 => ?_⟩
  have P27 : Pers H2 H7 := (((Pers.same u3).trans g4.pers).trans (Pers.same (u5.trans u6))).trans g7.pers
  have P47 : Pers H4 H7 := (Pers.same (u5.trans u6)).trans g7.pers
  have hmore : ∃ em, Rep H7 mv em.toD ∧ Szs em 5 4 41 := by
    rcases List.mem_cons.mp hmv with rfl | hmv
    · exact ⟨.eps, rep_eps, szs_eps.up (by decide) (by decide) (by decide)⟩
    rcases List.mem_cons.mp hmv with rfl | hmv
    · exact ⟨.sym 97, rep_a, szs_a.up (by decide) (by decide) (by decide)⟩
    rcases List.mem_cons.mp hmv with rfl | hmv
    · exact ⟨e0, R0.pers P27, z0.up (by decide) (by decide) (by decide)⟩
    rcases List.mem_cons.mp hmv with rfl | hmv
    · exact ⟨.maybe e0, (rep_mb k3 (R0.pers (Pers.same u3))).pers ((g4.pers.trans (Pers.same (u5.trans u6))).trans g7.pers), z0.maybe⟩
    rcases List.mem_cons.mp hmv with rfl | hmv
    · exact ⟨e4, R4.pers P47, z4.up (by decide) (by decide) (by decide)⟩
    · rw [List.mem_singleton.mp hmv]
      exact ⟨.maybe .eps, (rep_mb k5 rep_eps).pers ((Pers.same u6).trans g7.pers), szs_eps.maybe.up (by decide) (by decide) (by decide)⟩
  obtain ⟨em, Rm, zm⟩ := hmore
  have R07 := R0.pers P27
  clear hmv k3 k5 k6 f3 f5 f6 P47 R4 dr4 z4
  have st7 := g7.st
  refine ⟨_, rfl, by show 2 ≤ sizeLine; decide, fun l8 hl8 => ?_⟩
  obtain ⟨H8, f8, u8, st8, n8, k8⟩ := newO (o := .lst [V.str "join", V.str "or"]) st7 hl8
  have f8 : upd H7 l8 (.lst [V.str (Str.ofString "join"), V.str (Str.ofString "or")]) = H8 := f8
  rw [f8]
  refine ⟨a, l8, _, rfl, st8, SqL.of k8, n8, by show 0 < 2; decide, by show 2 < 100000; decide, fun wv H9 hwv g9 => ?_⟩
  obtain ⟨j, rfl⟩ : ∃ j : Bool, wv = .str (wJ j) := by
    rcases List.mem_cons.mp hwv with rfl | hwv
    · exact ⟨true, rfl⟩
    · rw [List.mem_singleton.mp hwv]
      exact ⟨false, rfl⟩
  have P79 : Pers H7 H9 := (Pers.same u8).trans g9.pers
  have R09 := R07.pers P79
  have Rm9 := Rm.pers P79
  have st9 := g9.st
  clear hwv k8 f8
  refine ⟨_, rfl, _, rfl, by show 3 ≤ sizeLine; decide, fun l10 hl10 => ?_⟩
  obtain ⟨H10, f10, u10, st10, n10, k10⟩ := newO (o := .lst [mv, v0, V.str ""]) st9 hl10
  have f10 : upd H9 l10 (.lst [mv, v0, V.str (Str.ofString "")]) = H10 := f10
  rw [f10]
  have tw3 : Two (Rep H10) [mv, v0, V.str ""] ([em, e0, .eps].map E.toD) := .cons (Rm9.pers (Pers.same u10)) (.cons (R09.pers (Pers.same u10)) (.cons rep_eps .nil))
  have z0b := z0.up (d' := 5) (p' := 4) (n' := 41) (by decide) (by decide) (by decide)
  have ok3 : ∀ x ∈ [em, e0, E.eps], Szs x 5 4 41 := fun x hx => by
    rcases List.mem_cons.mp hx with rfl | hx
    · exact zm
    rcases List.mem_cons.mp hx with rfl | hx
    · exact z0b
    rw [List.mem_singleton.mp hx]
    exact szs_eps.up (by decide) (by decide) (by decide)
  have l3 : ([em, e0, E.eps] : List E).length = 3 := rfl
  have hin : E.eps ∈ [em, e0, E.eps] := List.mem_cons_of_mem _ (List.mem_cons_of_mem _ (List.mem_cons_self ..))
  have sp3 : ([em, e0, E.eps].map E.parts).sum ≤ 82 := by
    show em.parts + (e0.parts + (1 + 0)) ≤ 82
    have := zm.pts
    have := z0.pts
    omega
  have sl3 : ([em, e0, E.eps].map E.places).sum ≤ 8 := by
    show em.places + (e0.places + (0 + 0)) ≤ 8
    have := zm.pl
    have := z0.pl
    omega
  have hrows : ∃ rE : List E, rE = [em, e0, E.eps].filter fun x => !isB j x := ⟨_, rfl⟩
  generalize [em, e0, E.eps] = es3 at tw3 ok3 l3 hrows hin sp3 sl3
  refine ⟨l10, rfl, ⟨_, SqL.of k10⟩, fun D hD => ?_⟩
  refine lc_list (K := K) (a := l10) (xs := [mv, v0, V.str ""]) (fun i H' => Same H10 H' ∧ ∃ us, H' D = some (.lst us) ∧ Two (Rep H') us (((es3.take i).filter fun x => !isB j x).map E.toD)) ⟨same_upd hD, [], upd_same, .nil⟩ (fun i H' _ h => SqL.of (h.1 _ _ k10)) (fun i x H11 hx h => ?_) (fun H11 h => ?_)
  · obtain ⟨s11, us, hus, tw⟩ := h
    obtain ⟨d, hd1, hxd⟩ := tw3.get hx
    rw [List.getElem?_map] at hd1
    obtain ⟨e9, he9, rfl⟩ := Option.map_eq_some_iff.mp hd1
    have hx9 := hxd.pers (Pers.same s11)
    have ok9 := (ok3 e9 (List.mem_of_getElem? he9)).ok
    have hi : i < 3 := (List.getElem?_eq_some_iff.mp hx).1
    have ul := tw.len
    rw [List.length_map] at ul
    have fl := List.length_filter_le (fun x => !isB j x) (es3.take i)
    rw [List.length_take] at fl
    have yes : isB j e9 = false → ∃ acc, H11 D = some (.lst acc) ∧ acc.length < sizeLine ∧ Same H10 (upd H11 D (.lst (acc ++ [x]))) ∧ ∃ us, upd H11 D (.lst (acc ++ [x])) D = some (.lst us) ∧ Two (Rep (upd H11 D (.lst (acc ++ [x])))) us (((es3.take (i + 1)).filter fun x => !isB j x).map E.toD) := fun hb => by
      have P1 : Pers H11 (upd H11 D (.lst (us ++ [x]))) := Pers.store hus
      refine ⟨us, hus, Nat.lt_of_le_of_lt (m := 3) (by omega) (by decide), fun b o hb' => by rw [upd_ne (ne_of_none hb' hD)]; exact s11 _ _ hb', us ++ [x], upd_same, ?_⟩
      rw [take_snoc he9, List.filter_append, List.filter_cons, hb, List.map_append]
      exact (tw.mono fun _ _ h => h.pers P1).app (.cons (hx9.pers P1) .nil)
    obtain ⟨t9, ht9, k19, _⟩ := hx9.ty (K := K)
    refine ⟨rfl, _, rfl, _, _, _, _, _, rfl, .ty _, ht9, k19, _, rfl, ?_⟩
    cases hs9 : isStr e9.toD with
    | true =>
      refine iteT ⟨_, rfl, yes ?_⟩
      rw [← tag_isB, tag_str hs9]
      rfl
    | false =>
      obtain ⟨w2, y2, q0, x2, _, rfl, hq0, hx2, hk2⟩ := node_of ok9 hx9 (by rw [hs9]; exact Bool.false_ne_true)
      have ht : tagE e9 = some w2 := by
        rcases hk2 with (⟨h, k, rfl, rfl⟩ | ⟨h, k, rfl, rfl⟩) | ⟨h, es, rfl, hes, rfl⟩ | ⟨h, es, rfl, _, rfl⟩ <;> (rw [h]; rfl)
      refine iteF ⟨_, rfl, q0, _, 0, _, rfl, rfl, SqT.of hq0, at_zero, _, rfl, rfl, _, rfl, ?_⟩
      refine ite2 (fun c => ?_) (fun c => ?_)
      · refine ⟨_, rfl, yes ?_⟩
        rw [← tag_isB]
        exact decide_eq_false fun h => by
          have h := Option.some.inj (ht.symm.trans h)
          rw [h, decide_eq_true rfl] at c
          cases c
      · have hb : isB j e9 = true := by
          rw [← tag_isB]
          refine decide_eq_true (ht.trans ?_)
          have : decide (V.str w2 = V.str (wJ j)) = true := Classical.byContradiction fun h => c (by rw [Bool.eq_false_iff.mpr h]; rfl)
          rw [vstr this]
        refine ⟨s11, us, hus, ?_⟩
        rw [take_snoc he9, List.filter_append, List.filter_cons, hb]
        show Two _ us ((_ ++ []).map E.toD)
        rw [List.append_nil]
        exact tw
  obtain ⟨s11, us, hus, tw⟩ := h
  have e33 : es3.take [mv, v0, V.str ""].length = es3 := by rw [show [mv, v0, V.str ""].length = es3.length from l3.symm, List.take_length]
  obtain ⟨rE, hrE⟩ := hrows
  rw [e33, ← hrE] at tw
  have sub : rE.Sublist es3 := by rw [hrE]; exact List.filter_sublist
  have okE : ∀ x ∈ rE, Szs x 5 4 41 := fun x hx => ok3 x (sub.subset hx)
  have noE : ∀ x ∈ rE, isB j x = false := fun x hx => by
    rw [hrE] at hx
    have := (List.mem_filter.mp hx).2
    simpa using this
  have spE := Nat.le_trans (sub_sum (sub.map E.parts)) sp3
  have slE := Nat.le_trans (sub_sum (sub.map E.places)) sl3
  have ne0 : 1 ≤ rE.length := by
    have : E.eps ∈ rE := by rw [hrE]; exact List.mem_filter.mpr ⟨hin, by cases j <;> rfl⟩
    exact List.length_pos_of_mem this
  have rl3 : rE.length ≤ 3 := Nat.le_trans sub.length_le (by omega)
  have ul := tw.len
  rw [List.length_map] at ul
  have P0 : Pers H9 H11 := (Pers.same u10).trans (Pers.same s11)
  have st11 := st10.same s11
  have R011 := R09.pers P0
  have Rm11 := Rm9.pers P0
  clear hrE tw3 ok3 sp3 sl3 e33 l3 hin sub R09 Rm9 P0 f10 k10
  -- the six expressions
  refine ⟨_, rfl, _, rfl, _, rfl, by show 2 ≤ sizeLine; decide, fun t12 ht12 => ?_⟩
  obtain ⟨H12, f12, u12, st12, n12, k12⟩ := newO (o := .tup [V.str "maybe", v0]) st11 ht12
  have f12 : upd H11 t12 (.tup [V.str (Str.ofString "maybe"), v0]) = H12 := f12
  rw [f12]
  refine ⟨_, rfl, by show 2 ≤ sizeLine; decide, fun t13 ht13 => ?_⟩
  obtain ⟨H13, f13, u13, st13, n13, k13⟩ := newO (o := .tup [V.str "many", mv]) st12 ht13
  have f13 : upd H12 t13 (.tup [V.str (Str.ofString "many"), mv]) = H13 := f13
  rw [f13]
  refine ⟨_, rfl, by show 2 ≤ sizeLine; decide, fun t14 ht14 => ?_⟩
  obtain ⟨H14, f14, u14, st14, n14, k14⟩ := newO (o := .tup [V.str "many", v0]) st13 ht14
  have f14 : upd H13 t14 (.tup [V.str (Str.ofString "many"), v0]) = H14 := f14
  rw [f14]
  refine ⟨by show 2 ≤ sizeLine; decide, fun t15 ht15 => ?_⟩
  obtain ⟨H15, f15, u15, st15, n15, k15⟩ := newO (o := .tup [V.str "maybe", .ref t14]) st14 ht15
  have f15 : upd H14 t15 (.tup [V.str (Str.ofString "maybe"), .ref t14]) = H15 := f15
  rw [f15]
  refine ⟨by show 2 ≤ sizeLine; decide, fun t16 ht16 => ?_⟩
  obtain ⟨H16, f16, u16, st16, n16, k16⟩ := newO (o := .tup [V.str "many", .ref t15]) st15 ht16
  have f16 : upd H15 t16 (.tup [V.str (Str.ofString "many"), .ref t15]) = H16 := f16
  rw [f16]
  have U16 := u12.trans (u13.trans (u14.trans (u15.trans u16)))
  have hus16 := U16 _ _ hus
  have sz6 : us.length + us.length ≤ sizeLine := Nat.le_trans (m := 6) (by omega) (by decide)
  refine ⟨_, rfl, _, rfl, _, rfl, D, D, us, us, rfl, rfl, hus16, hus16, sz6, fun c17 hc17 => ?_⟩
  obtain ⟨H17, f17, u17, st17, n17, k17⟩ := newO (o := .lst (us ++ us)) st16 hc17
  rw [f17]
  refine ⟨c17, us ++ us, rfl, .inl ⟨SqL.of k17, fun t18 ht18 => ?_⟩⟩
  obtain ⟨H18, f18, u18, st18, n18, k18⟩ := newO (o := .tup (us ++ us)) st17 ht18
  rw [f18]
  refine ⟨by show 2 ≤ sizeLine; decide, fun t19 ht19 => ?_⟩
  obtain ⟨H19, f19, u19, st19, n19, k19⟩ := newO (o := .tup [V.str (wJ j), .ref t18]) st18 ht19
  rw [f19]
  refine ⟨_, rfl, by show 1 ≤ sizeLine; decide, fun l20 hl20 => ?_⟩
  obtain ⟨H20, f20, u20, st20, n20, k20⟩ := newO (o := .lst [V.str "a"]) st19 hl20
  have f20 : upd H19 l20 (.lst [V.str (Str.ofString "a")]) = H20 := f20
  rw [f20]
  have U20 := U16.trans (u17.trans (u18.trans (u19.trans u20)))
  refine ⟨_, rfl, l20, D, [V.str "a"], us, rfl, rfl, k20, U20 _ _ hus, Nat.le_trans (m := 4) (by show 1 + us.length ≤ 4; omega) (by decide), fun c21 hc21 => ?_⟩
  obtain ⟨H21, f21, u21, st21, n21, k21⟩ := newO (o := .lst ([V.str "a"] ++ us)) st20 hc21
  rw [f21]
  refine ⟨c21, [V.str "a"] ++ us, rfl, .inl ⟨SqL.of k21, fun t22 ht22 => ?_⟩⟩
  obtain ⟨H22, f22, u22, st22, n22, k22⟩ := newO (o := .tup ([V.str "a"] ++ us)) st21 ht22
  rw [f22]
  refine ⟨by show 2 ≤ sizeLine; decide, fun t23 ht23 => ?_⟩
  obtain ⟨H23, f23, u23, st23, n23, k23⟩ := newO (o := .tup [V.str (wJ j), .ref t22]) st22 ht23
  rw [f23]
  refine ⟨by show 6 ≤ sizeLine; decide, fun l24 hl24 => ?_⟩
  obtain ⟨H24, f24, u24, st24, n24, k24⟩ := newO (o := .lst [v0, .ref t12, .ref t13, .ref t16, .ref t19, .ref t23]) st23 hl24
  rw [f24]
  refine ⟨a, l24, _, rfl, st24, SqL.of k24, n24, by show 0 < 6; decide, by show 6 < 100000; decide, fun ev H25 hev g25 => ?_⟩
  have V13 := u14.trans (u15.trans (u16.trans (u17.trans (u18.trans (u19.trans (u20.trans (u21.trans (u22.trans (u23.trans u24)))))))))
  have V12 := u13.trans V13
  have V16 := u17.trans (u18.trans (u19.trans (u20.trans (u21.trans (u22.trans (u23.trans u24))))))
  have V19 := u20.trans (u21.trans (u22.trans (u23.trans u24)))
  have P24 : Pers H11 H24 := Pers.same (u12.trans V12)
  have R024 := R011.pers P24
  have Rm24 := Rm11.pers P24
  have tw24 : Two (Rep H24) us (rE.map E.toD) := tw.mono fun _ _ h => h.pers P24
  have hexp : ∃ ee, Rep H24 ev ee.toD ∧ Szs ee 8 16 165 := by
    rcases List.mem_cons.mp hev with rfl | hev
    · exact ⟨e0, R024, z0.up (by decide) (by decide) (by decide)⟩
    rcases List.mem_cons.mp hev with rfl | hev
    · exact ⟨.maybe e0, rep_mb (V12 _ _ k12) R024, z0.maybe.up (by decide) (by decide) (by decide)⟩
    rcases List.mem_cons.mp hev with rfl | hev
    · exact ⟨.many em, rep_mn (V13 _ _ k13) Rm24, zm.many.up (by decide) (by decide) (by decide)⟩
    rcases List.mem_cons.mp hev with rfl | hev
    · exact ⟨.many (.maybe (.many e0)), rep_mn (V16 _ _ k16) (rep_mb (u16.trans V16 _ _ k15) (rep_mn ((u15.trans (u16.trans V16)) _ _ k14) R024)), z0.many.maybe.many.up (by decide) (by decide) (by decide)⟩
    rcases List.mem_cons.mp hev with rfl | hev
    · refine ⟨rowS j (rE ++ rE), rep_row (by rw [List.length_append]; omega) (by rw [List.length_append]; omega) (V19 _ _ k19) ((u19.trans V19) _ _ k18) (by rw [List.map_append]; exact tw24.app tw24), row_szs (by rw [List.length_append]; omega) (fun x hx => okE x ((List.mem_append.mp hx).elim id id)) (fun x hx => noE x ((List.mem_append.mp hx).elim id id)) ?_ ?_⟩
      · rw [List.map_append, List.sum_append]
        omega
      · rw [List.map_append, List.sum_append]
        omega
    · rw [List.mem_singleton.mp hev]
      refine ⟨rowS j (.sym 97 :: rE), rep_row (by rw [List.length_cons]; omega) (by rw [List.length_cons]; omega) (u24 _ _ k23) ((u23.trans u24) _ _ k22) ?_, row_szs (by rw [List.length_cons]; omega) (fun x hx => (List.mem_cons.mp hx).elim (fun h => by rw [h]; exact szs_a.up (by decide) (by decide) (by decide)) (okE x)) (fun x hx => (List.mem_cons.mp hx).elim (fun h => by rw [h]; cases j <;> rfl) (noE x)) ?_ ?_⟩
      · rw [List.map_cons]
        exact .cons rep_a tw24
      · rw [List.map_cons, List.sum_cons, show E.parts (.sym 97) = 1 from rfl]
        omega
      · rw [List.map_cons, List.sum_cons, show E.places (.sym 97) = 1 from rfl]
        omega
  obtain ⟨ee, Ree, zee⟩ := hexp
  have hR := Ree.pers g25.pers
  have g25st := g25.st
  clear hev k12 k13 k14 k15 k16 k17 k18 k19 k20 k21 k22 k23 k24 f12 f13 f14 f15 f16 f17 f18 f19 f20 f21 f22 f23 tw tw24 R024 Rm24 Ree okE noE
  have zd := zee.dep
  have zp := zee.pts
  have zl := zee.pl
  have hdd : (dE ee).depth ≤ 16 := Nat.le_trans (dE_dep ee) (by omega)
  have hE : Eok ee := ⟨zee.ok, by omega, by omega, by omega, by have := size_le ee; omega⟩
  have sm := simp_sm ee zee.ok
  have smd := sm.dep
  have smp := sm.pts
  have smq := sm.dd
  have spl := simp_pl ee
  have hE' : Eok (simpE ee) := ⟨sm.ok, by omega, by omega, by omega, by have := size_le (simpE ee); omega⟩
  refine ⟨_, rfl, ev, ee, rfl, zee.ok, by omega, by decide, by omega, by omega, hR, fun due H26 s26 rd => ?_⟩
  refine ⟨_, rfl, ev, ee, rfl, hE, by omega, hR.pers (Pers.same s26), fun told H27 s27 rt => ?_⟩
  refine ⟨_, rfl, _, rfl, told, simpE ee, rfl, hE', by omega, rt, fun told2 H28 s28 rt2 => ?_⟩
  rw [simp_twice zee.ok] at rt2
  refine ⟨_, rfl, told, (simpE ee).toD, rfl, rt.pers (Pers.same s28), fl_toD _, hE'.sz, fun H29 s29 => ?_⟩
  rw [long_top hE']
  refine ⟨by show 3 ≤ sizeLine; decide, fun l1 hl1 => ?_⟩
  have w1 := same_upd (o := .lst [told, told2, V.bl true]) hl1
  refine ⟨_, rfl, _, rfl, by show 3 ≤ sizeLine; decide, fun l2 hl2 => ?_⟩
  have w2 := same_upd (o := .lst [due, due, V.bl true]) hl2
  have S12 := w1.trans w2
  have rd' := rd.pers (Pers.same ((s27.trans (s28.trans s29)).trans S12))
  have rt' := rt.pers (Pers.same ((s28.trans s29).trans S12))
  have rt2' := rt2.pers (Pers.same (s29.trans S12))
  have b1 : 2 * (simpE ee).depth ≤ 16 := by omega
  refine ⟨.ref l1, .ref l2, .lst [eJ (simpE ee), eJ (simpE ee), .bl true], 17, rfl, by decide,
    repj_lst (w2 _ _ upd_same) (by show 3 ≤ 100000; decide) (.cons ((rep_repj _ _ rt').le b1) (.cons ((rep_repj _ _ rt2').le b1) (.cons (.bl true) .nil))),
    repj_lst upd_same (by show 3 ≤ 100000; decide) (.cons ((rep_repj _ _ rd').le b1) (.cons ((rep_repj _ _ rd').le b1) (.cons (.bl true) .nil))), fun H30 s30 => ⟨_, rfl, iteF ?_⟩⟩
  have S30 := (s26.trans (s27.trans (s28.trans s29))).trans (S12.trans s30)
  have hR30 := hR.pers (Pers.same S30)
  have rt30 := rt.pers (Pers.same ((s28.trans s29).trans (S12.trans s30)))
  clear rd rd' rt' rt2' rt2 rt
  -- letters
  refine ⟨⟨_, rfl⟩, _, rfl, ev, ee, rfl, zee.ok, by omega, by omega, hR30, fun z0 H31 s31 hz0 => ?_⟩
  have lz0 : z0.length ≤ 16 := by
    rw [len_cps, hz0, letters_len]
    exact zl
  have lab : (Str.ofString "ab").length = 2 := by decide +kernel
  have lsig : (signsS (z0 ++ Str.ofString "ab")).length ≤ 18 := by
    unfold signsS
    rw [List.length_map, ← len_cps, len_app, lab]
    omega
  refine ⟨_, _, rfl, rfl, by rw [lab]; exact Nat.le_trans (m := 18) (by omega) (by decide), .str (z0 ++ Str.ofString "ab"), signsS (z0 ++ Str.ofString "ab"), rfl, .inr ⟨_, rfl, rfl⟩, by omega, fun p4 H32 ms s32 hp4 h4 nd4 hm4 hl4 => ?_⟩
  refine ⟨p4, ms, rfl, SqL.of h4, by omega, fun ys p5 perm srt hp5 => ?_⟩
  have yl : ys.length ≤ 18 := by rw [perm.length_eq]; omega
  have y1 : ∀ y ∈ ys, y.length = 1 := fun y hy => by
    have h1 := (hm4 y).mp (perm.mem_iff.mp hy)
    unfold signsS at h1
    obtain ⟨c, hc, rfl⟩ := List.mem_map.mp h1
    rfl
  have ysum : (ys.map Str.length).sum = ys.length := by
    have : ys.map Str.length = ys.map fun _ => 1 := List.map_congr_left fun y hy => y1 y hy
    rw [this, sum_ones]
  have zlen : (Txt.join sNo ys).length = ys.length := by
    have e2 : ys.map Str.length = (ys.map fun z => z.cps.toList).map List.length := by
      rw [List.map_map]
      exact List.map_congr_left fun z _ => len_cps z
    rw [len_cps, join_flat2, List.length_flatten, ← e2, ysum]
  refine ⟨sNo, p5, ys, rfl, rfl, .inl (SqL.of upd_same), ?_, ?_⟩
  · show (ys.map Str.length).sum + ys.length * sNo.length ≤ 16777216
    rw [ysum, len_no]
    omega
  have s5 := (s31.trans s32).trans (same_upd (o := .lst (ys.map V.str)) hp5)
  revert zlen
  generalize Txt.join sNo ys = zj
  intro zlen
  have hR5 := hR30.pers (Pers.same s5)
  have rt5 := rt30.pers (Pers.same s5)
  revert hR5 rt5
  generalize (upd H32 p5 (.lst (ys.map V.str))) = H33
  intro hR5 rt5
  -- most
  refine ⟨fun σ' H' => ∃ most : Nat, σ' = [some (.ref s), some (.ref a), some v0, some mv, some (.str (wJ j)), some (.ref D), some ev, some due, some told, some (.str zj), some (.int most), none] ∧ H' = H33 ∧ most ≤ 4, ?_, ?_⟩
  · refine ⟨_, rfl, _, zj.length, rfl, ⟨Nat.le_trans (m := 18) (by omega) (by decide), rfl⟩, rfl, _, rfl, ite2 (fun _ => ?_) (fun _ => ?_)⟩
    · exact ⟨4, rfl, rfl, by decide⟩
    · exact ⟨3, rfl, rfl, by decide⟩
  rintro σ' H' ⟨most, rfl, rfl, hm4'⟩
  have hlt : ∀ k : E, k.ok = true → ∀ {m : Nat} {xs : List Str}, WordsOf (MW k) m xs → ∀ c ∈ xs, PyData.strOk c = true := fun k hk m xs W c hc => strOk_lets fun x hx => (mw_lets k hk _ ((W.mem c).mp hc).2 x hx).2
  refine ⟨_, rfl, _, rfl, told, simpE ee, most, rfl, hE'.ok, by omega, by omega, by omega, rt5, fun q1 H34 xs1 s34 hq1 hx1 W1 => ?_⟩
  refine ⟨q1, Str, xs1, V.str, PyData.str, rfl, SqL.of hx1, fun b _ => .str b, strs_alike _, strs_sortable _, fun _ _ => by rw [PyData.depth]; decide, fun cs q2 perm1 pw1 hq2 => ?_⟩
  have v1 := same_upd (o := .lst (cs.map V.str)) hq2
  have hcs : (upd H34 q2 (.lst (cs.map V.str))) q2 = some (.lst (cs.map V.str)) := upd_same
  refine ⟨_, rfl, _, rfl, ev, ee, most, rfl, zee.ok, by omega, by omega, by omega, hR5.pers (Pers.same (s34.trans v1)), fun q3 H35 xs2 s35 hq3 hx2 W2 => ?_⟩
  refine ⟨q3, Str, xs2, V.str, PyData.str, rfl, SqL.of hx2, fun b _ => .str b, strs_alike _, strs_sortable _, fun _ _ => by rw [PyData.depth]; decide, fun ds q4 perm2 pw2 hq4 => ?_⟩
  have v2 := same_upd (o := .lst (ds.map V.str)) hq4
  obtain rfl : cs = ds := str_sorted perm1 perm2 W1.nd W2.nd (fun z => by rw [W1.mem, W2.mem, simp_mw ee zee.ok]) pw1 pw2
  have okc : ∀ c ∈ cs, PyData.strOk c = true := fun c hc => hlt ee zee.ok W2 c (perm2.mem_iff.mp hc)
  refine ⟨_, _, strs_dp (v2 _ _ (s35 _ _ hcs)), strs_dp upd_same, strs_shaped okc, strs_shaped okc, _, rfl, ?_⟩
  rw [show PyData.eqv (.list (cs.map PyData.str)) (.list (cs.map PyData.str)) = true by rw [PyData.eqv]; exact eqvAll_strs cs]
  refine iteF ?_
  have Sf := s34.trans (v1.trans (s35.trans v2))
  have hRf := hR5.pers (Pers.same Sf)
  have rtf := rt5.pers (Pers.same Sf)
  refine ⟨_, rfl, told, simpE ee, rfl, hE'.ok, by omega, by omega, rtf, fun z1 H36 s36 hz1 => ?_⟩
  have lz1 : z1.length = (simpE ee).places := by rw [len_cps, hz1, letters_len]
  refine ⟨_, z1.length, rfl, ⟨Nat.le_trans (m := 16) (by omega) (by decide), rfl⟩, ?_⟩
  refine ⟨_, rfl, ev, ee, rfl, zee.ok, by omega, by omega, hRf.pers (Pers.same s36), fun z2 H37 s37 hz2 => ?_⟩
  have lz2 : z2.length = ee.places := by rw [len_cps, hz2, letters_len]
  refine ⟨_, z2.length, rfl, ⟨Nat.le_trans (m := 16) (by omega) (by decide), rfl⟩, ?_⟩
  refine ⟨_, _, rfl, rfl, _, rfl, ?_⟩
  rw [decide_eq_true (show (z1.length : Int) ≤ z2.length by omega)]
  refine iteT ?_
  have S37 := s36.trans s37
  refine ⟨_, rfl, told, simpE ee, rfl, hE'.ok, by omega, rtf.pers (Pers.same S37), fun H38 s38 => ⟨_, rfl, ev, ee, rfl, zee.ok, by omega, hRf.pers (Pers.same (S37.trans s38)), fun H39 s39 => ?_⟩⟩
  refine ⟨_, _, rfl, rfl, _, rfl, ?_⟩
  rw [decide_eq_true (show ((simpE ee).parts : Int) ≤ ee.parts by omega)]
  refine iteT ?_
  have S39 := S37.trans (s38.trans s39)
  refine ⟨_, rfl, told, simpE ee, rfl, hE'.ok, by omega, by omega, rtf.pers (Pers.same S39), fun H40 s40 => ⟨_, rfl, ev, ee, rfl, zee.ok, by omega, by omega, hRf.pers (Pers.same (S39.trans s40)), fun H41 s41 => ?_⟩⟩
  refine ⟨_, _, rfl, rfl, ?_⟩
  show Q (.bl (decide (((simpE ee).depth : Int) ≤ ee.depth))) H41
  rw [decide_eq_true (show ((simpE ee).depth : Int) ≤ ee.depth by omega)]
  exact q _
end
end My
namespace My
open PySem PySem.Spec PyProof.Rows L2
section
variable {P : Program} {w : World} {K : PySem.W.Frag} {mg : Str → Option Value} {base : Heap} {a_BOUNDS a_LONG_BOUNDS : Addr} {tL tM : Tok}
theorem all2_grown_step {f : Addr} {fd : FuncData} (B : Bt K mg a_BOUNDS a_LONG_BOUNDS tL tM) (Dd : Df K mg "_law_grown" s__law_grown ["stream", "letters", "room", "deep", "outer"] f fd) (G_law_next : Cl P w K mg base 1 "_law_next" ["stream", "many"] spNext) (G_law_pick : Cl P w K mg base 2 "_law_pick" ["stream", "rows"] (spPick K)) : ∀ n, FnOk P w K mg base CX0 (n + 2) f fd ["stream", "letters", "room", "deep", "outer"] (spGrown n)
  | 0 => none_left fun vs H Q Ex h => by
    unfold spGrown at h
    simp only [Nat.not_lt_zero, false_and, and_false, exists_false] at h
  | n + 1 => ok_grown_step B Dd G_law_next G_law_pick n (Dd.cl (all2_grown_step B Dd G_law_next G_law_pick n))
theorem all2_lsimp_step {f : Addr} {fd : FuncData} (B : Bt K mg a_BOUNDS a_LONG_BOUNDS tL tM) (Dd : Df K mg "_law_simple" s__law_simple ["expression"] f fd) (G_law_inside : Cl P w K mg base 1 "_law_inside" ["expression"] spInside) (G_law_empty : Cl P w K mg base 20 "_law_empty" ["expression"] (spEmpty 20)) : ∀ n, FnOk P w K mg base CX0 (n + 20) f fd ["expression"] (spLSimp n)
  | 0 => none_left fun vs H Q Ex h => by
    unfold spLSimp at h
    simp only [Nat.not_lt_zero, false_and, and_false, exists_false] at h
  | n + 1 => ok_lsimp_step B Dd G_law_inside G_law_empty n (Dd.cl (all2_lsimp_step B Dd G_law_inside G_law_empty n))
theorem all2_empty_step {f : Addr} {fd : FuncData} (B : Bt K mg a_BOUNDS a_LONG_BOUNDS tL tM) (Dd : Df K mg "_law_empty" s__law_empty ["expression"] f fd) : ∀ n, FnOk P w K mg base CX0 (n) f fd ["expression"] (spEmpty n)
  | 0 => none_left fun vs H Q Ex h => by
    unfold spEmpty at h
    simp only [Nat.not_lt_zero, false_and, and_false, exists_false] at h
  | n + 1 => ok_empty_step B Dd n (Dd.cl (all2_empty_step B Dd n))
theorem all2_simp_step {f : Addr} {fd : FuncData} (B : Bt K mg a_BOUNDS a_LONG_BOUNDS tL tM) (Dd : Df K mg "_simple" s__simple ["part"] f fd) (Gopened_parts : Cl P w K mg base 2 "opened_parts" ["word", "parts"] spOpen) (Gjoin_of : Cl P w K mg base 3 "join_of" ["parts"] spJoinOf) (G_simple_or : Cl P w K mg base 43 "_simple_or" ["parts"] spOrOf) (G_simple_maybe : Cl P w K mg base 43 "_simple_maybe" ["part"] spMaybeS) (G_simple_many : Cl P w K mg base 2 "_simple_many" ["part"] spManyS) : ∀ n, FnOk P w K mg base CX0 (n + 43) f fd ["part"] (spSimp n)
  | 0 => none_left fun vs H Q Ex h => by
    unfold spSimp at h
    simp only [Nat.not_lt_zero, false_and, and_false, exists_false] at h
  | n + 1 => ok_simp_step B Dd Gopened_parts Gjoin_of G_simple_or G_simple_maybe G_simple_many n (Dd.cl (all2_simp_step B Dd Gopened_parts Gjoin_of G_simple_or G_simple_maybe G_simple_many n))
theorem all2_least_step {f : Addr} {fd : FuncData} (B : Bt K mg a_BOUNDS a_LONG_BOUNDS tL tM) (Dd : Df K mg "_least" s__least ["part"] f fd) : ∀ n, FnOk P w K mg base CX0 (n) f fd ["part"] (spLeast n)
  | 0 => none_left fun vs H Q Ex h => by
    unfold spLeast at h
    simp only [Nat.not_lt_zero, false_and, and_false, exists_false] at h
  | n + 1 => ok_least_step B Dd n (Dd.cl (all2_least_step B Dd n))
theorem all2_equal_step {f : Addr} {fd : FuncData} (B : Bt K mg a_BOUNDS a_LONG_BOUNDS tL tM) (Dd : Df K mg "_law_equal" s__law_equal ["actual", "due"] f fd) (G_law_is_integer : Cl P w K mg base 1 "_law_is_integer" ["actual"] spIsInt) : ∀ n, FnOk P w K mg base CX0 (n + 1) f fd ["actual", "due"] (spEqual n)
  | 0 => none_left fun vs H Q Ex h => by
    unfold spEqual at h
    simp only [Nat.not_lt_zero, false_and, and_false, exists_false] at h
  | n + 1 => ok_equal_step B Dd G_law_is_integer n (Dd.cl (all2_equal_step B Dd G_law_is_integer n))
theorem all2_letters_step {f : Addr} {fd : FuncData} (B : Bt K mg a_BOUNDS a_LONG_BOUNDS tL tM) (Dd : Df K mg "_law_letters" s__law_letters ["expression"] f fd) (G_law_inside : Cl P w K mg base 1 "_law_inside" ["expression"] spInside) : ∀ n, FnOk P w K mg base CX0 (n + 1) f fd ["expression"] (spLets n)
  | 0 => none_left fun vs H Q Ex h => by
    unfold spLets at h
    simp only [Nat.not_lt_zero, false_and, and_false, exists_false] at h
  | n + 1 => ok_letters_step B Dd G_law_inside n (Dd.cl (all2_letters_step B Dd G_law_inside n))
theorem all2_words_step {f : Addr} {fd : FuncData} (B : Bt K mg a_BOUNDS a_LONG_BOUNDS tL tM) (Dd : Df K mg "_law_words" s__law_words ["expression", "most"] f fd) (G_law_inside : Cl P w K mg base 1 "_law_inside" ["expression"] spInside) (G_law_once : Cl P w K mg base 1 "_law_once" ["rows"] spOnceS) (G_law_joined : Cl P w K mg base 2 "_law_joined" ["first", "second", "most"] spJoined) : ∀ n, FnOk P w K mg base CX0 (n + 2) f fd ["expression", "most"] (spWords n)
  | 0 => none_left fun vs H Q Ex h => by
    unfold spWords at h
    simp only [Nat.not_lt_zero, false_and, and_false, exists_false] at h
  | n + 1 => ok_words_step B Dd G_law_inside G_law_once G_law_joined n (Dd.cl (all2_words_step B Dd G_law_inside G_law_once G_law_joined n))
theorem all2_count_step {f : Addr} {fd : FuncData} (B : Bt K mg a_BOUNDS a_LONG_BOUNDS tL tM) (Dd : Df K mg "_law_count" s__law_count ["expression"] f fd) (G_law_inside : Cl P w K mg base 1 "_law_inside" ["expression"] spInside) : ∀ n, FnOk P w K mg base CX0 (n + 1) f fd ["expression"] (spCount n)
  | 0 => none_left fun vs H Q Ex h => by
    unfold spCount at h
    simp only [Nat.not_lt_zero, false_and, and_false, exists_false] at h
  | n + 1 => ok_count_step B Dd G_law_inside n (Dd.cl (all2_count_step B Dd G_law_inside n))
theorem all2_depth_step {f : Addr} {fd : FuncData} (B : Bt K mg a_BOUNDS a_LONG_BOUNDS tL tM) (Dd : Df K mg "_law_depth" s__law_depth ["expression"] f fd) (G_law_inside : Cl P w K mg base 1 "_law_inside" ["expression"] spInside) : ∀ n, FnOk P w K mg base CX0 (n + 1) f fd ["expression"] (spDepth n)
  | 0 => none_left fun vs H Q Ex h => by
    unfold spDepth at h
    simp only [Nat.not_lt_zero, false_and, and_false, exists_false] at h
  | n + 1 => ok_depth_step B Dd G_law_inside n (Dd.cl (all2_depth_step B Dd G_law_inside n))
end
/-! ### what the top has left -/
set_option maxHeartbeats 4000000 in
theorem all_mk {l : PySem.W.OpenLaw} {w : World} {K : PySem.W.Frag} {h : Heap} {mg : Str → Option Value} {fa : Addr} (X : K.In h) (G : h.Ns mainGlobals mg) (hfa : mg "law" = some (.ref fa))
    {od1 an1 od2 an2 od3 an3 od4 an4 od5 an5 od6 an6 od7 an7 od8 an8 od9 an9 od10 an10 od11 an11 od12 an12 od13 an13 od14 an14 od15 an15 od16 an16 od17 an17 od18 an18 od19 an19 od20 an20 od21 an21 od22 an22 od23 an23 od24 an24 od25 an25 od26 an26 od27 an27 od28 an28 od29 an29 od30 an30 od31 an31 od32 an32 od33 an33 od34 an34 : Option Addr} {sl1 sl2 sl3 sl4 sl5 sl6 sl7 sl8 sl9 sl10 sl11 sl12 sl13 sl14 sl15 sl16 sl17 sl18 sl19 sl20 sl21 sl22 sl23 sl24 sl25 sl26 sl27 sl28 sl29 sl30 sl31 sl32 sl33 sl34 : Array (Option Value)} {oc1 kV1 dc1 pm1 cd1 ct1 oc2 kV2 dc2 pm2 cd2 ct2 oc3 kV3 dc3 pm3 cd3 ct3 oc4 kV4 dc4 pm4 cd4 ct4 oc5 kV5 dc5 pm5 cd5 ct5 oc6 kV6 dc6 pm6 cd6 ct6 oc7 kV7 dc7 pm7 cd7 ct7 oc8 kV8 dc8 pm8 cd8 ct8 oc9 kV9 dc9 pm9 cd9 ct9 oc10 kV10 dc10 pm10 cd10 ct10 oc11 kV11 dc11 pm11 cd11 ct11 oc12 kV12 dc12 pm12 cd12 ct12 oc13 kV13 dc13 pm13 cd13 ct13 oc14 kV14 dc14 pm14 cd14 ct14 oc15 kV15 dc15 pm15 cd15 ct15 oc16 kV16 dc16 pm16 cd16 ct16 oc17 kV17 dc17 pm17 cd17 ct17 oc18 kV18 dc18 pm18 cd18 ct18 oc19 kV19 dc19 pm19 cd19 ct19 oc20 kV20 dc20 pm20 cd20 ct20 oc21 kV21 dc21 pm21 cd21 ct21 oc22 kV22 dc22 pm22 cd22 ct22 oc23 kV23 dc23 pm23 cd23 ct23 oc24 kV24 dc24 pm24 cd24 ct24 oc25 kV25 dc25 pm25 cd25 ct25 oc26 kV26 dc26 pm26 cd26 ct26 oc27 kV27 dc27 pm27 cd27 ct27 oc28 kV28 dc28 pm28 cd28 ct28 oc29 kV29 dc29 pm29 cd29 ct29 oc30 kV30 dc30 pm30 cd30 ct30 oc31 kV31 dc31 pm31 cd31 ct31 oc32 kV32 dc32 pm32 cd32 ct32 oc33 kV33 dc33 pm33 cd33 ct33 oc34 kV34 dc34 pm34 cd34 ct34 : Value} {f1 f2 f3 f4 f5 f6 f7 f8 f9 f10 f11 f12 f13 f14 f15 f16 f17 f18 f19 f20 f21 f22 f23 f24 f25 f26 f27 f28 f29 f30 f31 f32 f33 f34 : Addr}
    (a1 : PySem.W.nsIn K mainGlobals "is_long" = some (some (.ref f1))) (l1 : K.lookup f1 = some ⟨oc1, od1, .func (PySem.W.fnOf "is_long" "is_long" (defArgs s_is_long) (defBody s_is_long) (defScope s_is_long) .none kV1 dc1 pm1 an1 cd1 ct1), sl1⟩) (c1 : PySem.W.codeIn K cd1 "is_long" = true) (k1 : PySem.W.keepIn K (.ref f1) = true)
    (a2 : PySem.W.nsIn K mainGlobals "is_letter" = some (some (.ref f2))) (l2 : K.lookup f2 = some ⟨oc2, od2, .func (PySem.W.fnOf "is_letter" "is_letter" (defArgs s_is_letter) (defBody s_is_letter) (defScope s_is_letter) .none kV2 dc2 pm2 an2 cd2 ct2), sl2⟩) (c2 : PySem.W.codeIn K cd2 "is_letter" = true) (k2 : PySem.W.keepIn K (.ref f2) = true)
    (a3 : PySem.W.nsIn K mainGlobals "check_long" = some (some (.ref f3))) (l3 : K.lookup f3 = some ⟨oc3, od3, .func (PySem.W.fnOf "check_long" "check_long" (defArgs s_check_long) (defBody s_check_long) (defScope s_check_long) .none kV3 dc3 pm3 an3 cd3 ct3), sl3⟩) (c3 : PySem.W.codeIn K cd3 "check_long" = true) (k3 : PySem.W.keepIn K (.ref f3) = true)
    (a4 : PySem.W.nsIn K mainGlobals "sizes_within" = some (some (.ref f4))) (l4 : K.lookup f4 = some ⟨oc4, od4, .func (PySem.W.fnOf "sizes_within" "sizes_within" (defArgs s_sizes_within) (defBody s_sizes_within) (defScope s_sizes_within) .none kV4 dc4 pm4 an4 cd4 ct4), sl4⟩) (c4 : PySem.W.codeIn K cd4 "sizes_within" = true) (k4 : PySem.W.keepIn K (.ref f4) = true)
    (a5 : PySem.W.nsIn K mainGlobals "_parts_of" = some (some (.ref f5))) (l5 : K.lookup f5 = some ⟨oc5, od5, .func (PySem.W.fnOf "_parts_of" "_parts_of" (defArgs s__parts_of) (defBody s__parts_of) (defScope s__parts_of) .none kV5 dc5 pm5 an5 cd5 ct5), sl5⟩) (c5 : PySem.W.codeIn K cd5 "_parts_of" = true) (k5 : PySem.W.keepIn K (.ref f5) = true)
    (a6 : PySem.W.nsIn K mainGlobals "_is_row" = some (some (.ref f6))) (l6 : K.lookup f6 = some ⟨oc6, od6, .func (PySem.W.fnOf "_is_row" "_is_row" (defArgs s__is_row) (defBody s__is_row) (defScope s__is_row) .none kV6 dc6 pm6 an6 cd6 ct6), sl6⟩) (c6 : PySem.W.codeIn K cd6 "_is_row" = true) (k6 : PySem.W.keepIn K (.ref f6) = true)
    (a7 : PySem.W.nsIn K mainGlobals "_begins_with" = some (some (.ref f7))) (l7 : K.lookup f7 = some ⟨oc7, od7, .func (PySem.W.fnOf "_begins_with" "_begins_with" (defArgs s__begins_with) (defBody s__begins_with) (defScope s__begins_with) .none kV7 dc7 pm7 an7 cd7 ct7), sl7⟩) (c7 : PySem.W.codeIn K cd7 "_begins_with" = true) (k7 : PySem.W.keepIn K (.ref f7) = true)
    (a8 : PySem.W.nsIn K mainGlobals "simple" = some (some (.ref f8))) (l8 : K.lookup f8 = some ⟨oc8, od8, .func (PySem.W.fnOf "simple" "simple" (defArgs s_simple) (defBody s_simple) (defScope s_simple) .none kV8 dc8 pm8 an8 cd8 ct8), sl8⟩) (c8 : PySem.W.codeIn K cd8 "simple" = true) (k8 : PySem.W.keepIn K (.ref f8) = true)
    (a9 : PySem.W.nsIn K mainGlobals "_simple" = some (some (.ref f9))) (l9 : K.lookup f9 = some ⟨oc9, od9, .func (PySem.W.fnOf "_simple" "_simple" (defArgs s__simple) (defBody s__simple) (defScope s__simple) .none kV9 dc9 pm9 an9 cd9 ct9), sl9⟩) (c9 : PySem.W.codeIn K cd9 "_simple" = true) (k9 : PySem.W.keepIn K (.ref f9) = true)
    (a10 : PySem.W.nsIn K mainGlobals "_simple_maybe" = some (some (.ref f10))) (l10 : K.lookup f10 = some ⟨oc10, od10, .func (PySem.W.fnOf "_simple_maybe" "_simple_maybe" (defArgs s__simple_maybe) (defBody s__simple_maybe) (defScope s__simple_maybe) .none kV10 dc10 pm10 an10 cd10 ct10), sl10⟩) (c10 : PySem.W.codeIn K cd10 "_simple_maybe" = true) (k10 : PySem.W.keepIn K (.ref f10) = true)
    (a11 : PySem.W.nsIn K mainGlobals "_simple_many" = some (some (.ref f11))) (l11 : K.lookup f11 = some ⟨oc11, od11, .func (PySem.W.fnOf "_simple_many" "_simple_many" (defArgs s__simple_many) (defBody s__simple_many) (defScope s__simple_many) .none kV11 dc11 pm11 an11 cd11 ct11), sl11⟩) (c11 : PySem.W.codeIn K cd11 "_simple_many" = true) (k11 : PySem.W.keepIn K (.ref f11) = true)
    (a12 : PySem.W.nsIn K mainGlobals "_simple_or" = some (some (.ref f12))) (l12 : K.lookup f12 = some ⟨oc12, od12, .func (PySem.W.fnOf "_simple_or" "_simple_or" (defArgs s__simple_or) (defBody s__simple_or) (defScope s__simple_or) .none kV12 dc12 pm12 an12 cd12 ct12), sl12⟩) (c12 : PySem.W.codeIn K cd12 "_simple_or" = true) (k12 : PySem.W.keepIn K (.ref f12) = true)
    (a13 : PySem.W.nsIn K mainGlobals "join_of" = some (some (.ref f13))) (l13 : K.lookup f13 = some ⟨oc13, od13, .func (PySem.W.fnOf "join_of" "join_of" (defArgs s_join_of) (defBody s_join_of) (defScope s_join_of) .none kV13 dc13 pm13 an13 cd13 ct13), sl13⟩) (c13 : PySem.W.codeIn K cd13 "join_of" = true) (k13 : PySem.W.keepIn K (.ref f13) = true)
    (a14 : PySem.W.nsIn K mainGlobals "opened_parts" = some (some (.ref f14))) (l14 : K.lookup f14 = some ⟨oc14, od14, .func (PySem.W.fnOf "opened_parts" "opened_parts" (defArgs s_opened_parts) (defBody s_opened_parts) (defScope s_opened_parts) .none kV14 dc14 pm14 an14 cd14 ct14), sl14⟩) (c14 : PySem.W.codeIn K cd14 "opened_parts" = true) (k14 : PySem.W.keepIn K (.ref f14) = true)
    (a15 : PySem.W.nsIn K mainGlobals "_has_word" = some (some (.ref f15))) (l15 : K.lookup f15 = some ⟨oc15, od15, .func (PySem.W.fnOf "_has_word" "_has_word" (defArgs s__has_word) (defBody s__has_word) (defScope s__has_word) .none kV15 dc15 pm15 an15 cd15 ct15), sl15⟩) (c15 : PySem.W.codeIn K cd15 "_has_word" = true) (k15 : PySem.W.keepIn K (.ref f15) = true)
    (a16 : PySem.W.nsIn K mainGlobals "row_of" = some (some (.ref f16))) (l16 : K.lookup f16 = some ⟨oc16, od16, .func (PySem.W.fnOf "row_of" "row_of" (defArgs s_row_of) (defBody s_row_of) (defScope s_row_of) .none kV16 dc16 pm16 an16 cd16 ct16), sl16⟩) (c16 : PySem.W.codeIn K cd16 "row_of" = true) (k16 : PySem.W.keepIn K (.ref f16) = true)
    (a17 : PySem.W.nsIn K mainGlobals "_least" = some (some (.ref f17))) (l17 : K.lookup f17 = some ⟨oc17, od17, .func (PySem.W.fnOf "_least" "_least" (defArgs s__least) (defBody s__least) (defScope s__least) .none kV17 dc17 pm17 an17 cd17 ct17), sl17⟩) (c17 : PySem.W.codeIn K cd17 "_least" = true) (k17 : PySem.W.keepIn K (.ref f17) = true)
    (a18 : PySem.W.nsIn K mainGlobals "_law_stream" = some (some (.ref f18))) (l18 : K.lookup f18 = some ⟨oc18, od18, .func (PySem.W.fnOf "_law_stream" "_law_stream" (defArgs s__law_stream) (defBody s__law_stream) (defScope s__law_stream) .none kV18 dc18 pm18 an18 cd18 ct18), sl18⟩) (c18 : PySem.W.codeIn K cd18 "_law_stream" = true) (k18 : PySem.W.keepIn K (.ref f18) = true)
    (a19 : PySem.W.nsIn K mainGlobals "_law_next" = some (some (.ref f19))) (l19 : K.lookup f19 = some ⟨oc19, od19, .func (PySem.W.fnOf "_law_next" "_law_next" (defArgs s__law_next) (defBody s__law_next) (defScope s__law_next) .none kV19 dc19 pm19 an19 cd19 ct19), sl19⟩) (c19 : PySem.W.codeIn K cd19 "_law_next" = true) (k19 : PySem.W.keepIn K (.ref f19) = true)
    (a20 : PySem.W.nsIn K mainGlobals "_law_is_integer" = some (some (.ref f20))) (l20 : K.lookup f20 = some ⟨oc20, od20, .func (PySem.W.fnOf "_law_is_integer" "_law_is_integer" (defArgs s__law_is_integer) (defBody s__law_is_integer) (defScope s__law_is_integer) .none kV20 dc20 pm20 an20 cd20 ct20), sl20⟩) (c20 : PySem.W.codeIn K cd20 "_law_is_integer" = true) (k20 : PySem.W.keepIn K (.ref f20) = true)
    (a21 : PySem.W.nsIn K mainGlobals "_law_equal" = some (some (.ref f21))) (l21 : K.lookup f21 = some ⟨oc21, od21, .func (PySem.W.fnOf "_law_equal" "_law_equal" (defArgs s__law_equal) (defBody s__law_equal) (defScope s__law_equal) .none kV21 dc21 pm21 an21 cd21 ct21), sl21⟩) (c21 : PySem.W.codeIn K cd21 "_law_equal" = true) (k21 : PySem.W.keepIn K (.ref f21) = true)
    (a22 : PySem.W.nsIn K mainGlobals "_law_pick" = some (some (.ref f22))) (l22 : K.lookup f22 = some ⟨oc22, od22, .func (PySem.W.fnOf "_law_pick" "_law_pick" (defArgs s__law_pick) (defBody s__law_pick) (defScope s__law_pick) .none kV22 dc22 pm22 an22 cd22 ct22), sl22⟩) (c22 : PySem.W.codeIn K cd22 "_law_pick" = true) (k22 : PySem.W.keepIn K (.ref f22) = true)
    (a23 : PySem.W.nsIn K mainGlobals "_law_grown" = some (some (.ref f23))) (l23 : K.lookup f23 = some ⟨oc23, od23, .func (PySem.W.fnOf "_law_grown" "_law_grown" (defArgs s__law_grown) (defBody s__law_grown) (defScope s__law_grown) .none kV23 dc23 pm23 an23 cd23 ct23), sl23⟩) (c23 : PySem.W.codeIn K cd23 "_law_grown" = true) (k23 : PySem.W.keepIn K (.ref f23) = true)
    (a24 : PySem.W.nsIn K mainGlobals "_law_expression" = some (some (.ref f24))) (l24 : K.lookup f24 = some ⟨oc24, od24, .func (PySem.W.fnOf "_law_expression" "_law_expression" (defArgs s__law_expression) (defBody s__law_expression) (defScope s__law_expression) .none kV24 dc24 pm24 an24 cd24 ct24), sl24⟩) (c24 : PySem.W.codeIn K cd24 "_law_expression" = true) (k24 : PySem.W.keepIn K (.ref f24) = true)
    (a25 : PySem.W.nsIn K mainGlobals "_law_inside" = some (some (.ref f25))) (l25 : K.lookup f25 = some ⟨oc25, od25, .func (PySem.W.fnOf "_law_inside" "_law_inside" (defArgs s__law_inside) (defBody s__law_inside) (defScope s__law_inside) .none kV25 dc25 pm25 an25 cd25 ct25), sl25⟩) (c25 : PySem.W.codeIn K cd25 "_law_inside" = true) (k25 : PySem.W.keepIn K (.ref f25) = true)
    (a26 : PySem.W.nsIn K mainGlobals "_law_letters" = some (some (.ref f26))) (l26 : K.lookup f26 = some ⟨oc26, od26, .func (PySem.W.fnOf "_law_letters" "_law_letters" (defArgs s__law_letters) (defBody s__law_letters) (defScope s__law_letters) .none kV26 dc26 pm26 an26 cd26 ct26), sl26⟩) (c26 : PySem.W.codeIn K cd26 "_law_letters" = true) (k26 : PySem.W.keepIn K (.ref f26) = true)
    (a27 : PySem.W.nsIn K mainGlobals "_law_depth" = some (some (.ref f27))) (l27 : K.lookup f27 = some ⟨oc27, od27, .func (PySem.W.fnOf "_law_depth" "_law_depth" (defArgs s__law_depth) (defBody s__law_depth) (defScope s__law_depth) .none kV27 dc27 pm27 an27 cd27 ct27), sl27⟩) (c27 : PySem.W.codeIn K cd27 "_law_depth" = true) (k27 : PySem.W.keepIn K (.ref f27) = true)
    (a28 : PySem.W.nsIn K mainGlobals "_law_count" = some (some (.ref f28))) (l28 : K.lookup f28 = some ⟨oc28, od28, .func (PySem.W.fnOf "_law_count" "_law_count" (defArgs s__law_count) (defBody s__law_count) (defScope s__law_count) .none kV28 dc28 pm28 an28 cd28 ct28), sl28⟩) (c28 : PySem.W.codeIn K cd28 "_law_count" = true) (k28 : PySem.W.keepIn K (.ref f28) = true)
    (a29 : PySem.W.nsIn K mainGlobals "_law_joined" = some (some (.ref f29))) (l29 : K.lookup f29 = some ⟨oc29, od29, .func (PySem.W.fnOf "_law_joined" "_law_joined" (defArgs s__law_joined) (defBody s__law_joined) (defScope s__law_joined) .none kV29 dc29 pm29 an29 cd29 ct29), sl29⟩) (c29 : PySem.W.codeIn K cd29 "_law_joined" = true) (k29 : PySem.W.keepIn K (.ref f29) = true)
    (a30 : PySem.W.nsIn K mainGlobals "_law_once" = some (some (.ref f30))) (l30 : K.lookup f30 = some ⟨oc30, od30, .func (PySem.W.fnOf "_law_once" "_law_once" (defArgs s__law_once) (defBody s__law_once) (defScope s__law_once) .none kV30 dc30 pm30 an30 cd30 ct30), sl30⟩) (c30 : PySem.W.codeIn K cd30 "_law_once" = true) (k30 : PySem.W.keepIn K (.ref f30) = true)
    (a31 : PySem.W.nsIn K mainGlobals "_law_words" = some (some (.ref f31))) (l31 : K.lookup f31 = some ⟨oc31, od31, .func (PySem.W.fnOf "_law_words" "_law_words" (defArgs s__law_words) (defBody s__law_words) (defScope s__law_words) .none kV31 dc31 pm31 an31 cd31 ct31), sl31⟩) (c31 : PySem.W.codeIn K cd31 "_law_words" = true) (k31 : PySem.W.keepIn K (.ref f31) = true)
    (a32 : PySem.W.nsIn K mainGlobals "_law_empty" = some (some (.ref f32))) (l32 : K.lookup f32 = some ⟨oc32, od32, .func (PySem.W.fnOf "_law_empty" "_law_empty" (defArgs s__law_empty) (defBody s__law_empty) (defScope s__law_empty) .none kV32 dc32 pm32 an32 cd32 ct32), sl32⟩) (c32 : PySem.W.codeIn K cd32 "_law_empty" = true) (k32 : PySem.W.keepIn K (.ref f32) = true)
    (a33 : PySem.W.nsIn K mainGlobals "_law_simple" = some (some (.ref f33))) (l33 : K.lookup f33 = some ⟨oc33, od33, .func (PySem.W.fnOf "_law_simple" "_law_simple" (defArgs s__law_simple) (defBody s__law_simple) (defScope s__law_simple) .none kV33 dc33 pm33 an33 cd33 ct33), sl33⟩) (c33 : PySem.W.codeIn K cd33 "_law_simple" = true) (k33 : PySem.W.keepIn K (.ref f33) = true)
    (a34 : PySem.W.nsIn K mainGlobals "law" = some (some (.ref f34))) (l34 : K.lookup f34 = some ⟨oc34, od34, .func (PySem.W.fnOf "law" "law" (defArgs s_law) (defBody s_law) (defScope s_law) .none kV34 dc34 pm34 an34 cd34 ct34), sl34⟩) (c34 : PySem.W.codeIn K cd34 "law" = true) (k34 : PySem.W.keepIn K (.ref f34) = true)
    (z_ValueError : PySem.W.nsIn K mainGlobals "ValueError" = some none) (z_abs : PySem.W.nsIn K mainGlobals "abs" = some none) (z_all : PySem.W.nsIn K mainGlobals "all" = some none) (z_any : PySem.W.nsIn K mainGlobals "any" = some none) (z_bool : PySem.W.nsIn K mainGlobals "bool" = some none) (z_int : PySem.W.nsIn K mainGlobals "int" = some none) (z_isinstance : PySem.W.nsIn K mainGlobals "isinstance" = some none) (z_len : PySem.W.nsIn K mainGlobals "len" = some none) (z_list : PySem.W.nsIn K mainGlobals "list" = some none) (z_max : PySem.W.nsIn K mainGlobals "max" = some none) (z_min : PySem.W.nsIn K mainGlobals "min" = some none) (z_range : PySem.W.nsIn K mainGlobals "range" = some none) (z_sorted : PySem.W.nsIn K mainGlobals "sorted" = some none) (z_str : PySem.W.nsIn K mainGlobals "str" = some none) (z_sum : PySem.W.nsIn K mainGlobals "sum" = some none) (z_super : PySem.W.nsIn K mainGlobals "super" = some none) (z_tuple : PySem.W.nsIn K mainGlobals "tuple" = some none)
    {tLONG_BOUNDS0 tLONG_BOUNDS1 tLONG_BOUNDS2 : Tok} {aLONG_BOUNDS : Addr} {dLONG_BOUNDS : Option Addr} {nLONG_BOUNDS : Nat} {sLONG_BOUNDS : Array (Option Value)}
    {tL : Tok}
    (gLONG_BOUNDS : PySem.W.nsIn K mainGlobals "LONG_BOUNDS" = some (some (.ref aLONG_BOUNDS)))
    (lLONG_BOUNDS : K.lookup aLONG_BOUNDS = some ⟨.type "tuple", dLONG_BOUNDS, .seq #[.int 40 tLONG_BOUNDS0, .int 40 tLONG_BOUNDS1, .int 200 tLONG_BOUNDS2] nLONG_BOUNDS, sLONG_BOUNDS⟩)
    (gLETTERS : PySem.W.nsIn K mainGlobals "LETTERS" = some (some (.str "abcd" tL)))
    :
    ∃ fd : FuncData, (∀ (s : Shared) (v : Value), BindsTo s fd ⟨[v], []⟩ [("script", v)]) ∧ ∀ base : Heap, K.In base → base.Ns mainGlobals mg → FnOk l.prog w K mg base CX0 89 fa fd ["script"] (spLaw K) := by
  have F1 := fun_mk (st := s_is_long) l1 c1 k1
  have b1 := F1.binds (ps := ["value"]) fun _ _ _ _ _ _ us hl => match us, hl with | [_], _ => rfl
  have D_is_long : Df K mg "is_long" s_is_long ["value"] f1 _ := ⟨F1, b1, PySem.W.mg_of X G a1⟩
  have F2 := fun_mk (st := s_is_letter) l2 c2 k2
  have b2 := F2.binds (ps := ["value"]) fun _ _ _ _ _ _ us hl => match us, hl with | [_], _ => rfl
  have D_is_letter : Df K mg "is_letter" s_is_letter ["value"] f2 _ := ⟨F2, b2, PySem.W.mg_of X G a2⟩
  have F3 := fun_mk (st := s_check_long) l3 c3 k3
  have b3 := F3.binds (ps := ["value"]) fun _ _ _ _ _ _ us hl => match us, hl with | [_], _ => rfl
  have D_check_long : Df K mg "check_long" s_check_long ["value"] f3 _ := ⟨F3, b3, PySem.W.mg_of X G a3⟩
  have F4 := fun_mk (st := s_sizes_within) l4 c4 k4
  have b4 := F4.binds (ps := ["value", "bounds"]) fun _ _ _ _ _ _ us hl => match us, hl with | [_, _], _ => rfl
  have D_sizes_within : Df K mg "sizes_within" s_sizes_within ["value", "bounds"] f4 _ := ⟨F4, b4, PySem.W.mg_of X G a4⟩
  have F5 := fun_mk (st := s__parts_of) l5 c5 k5
  have b5 := F5.binds (ps := ["value"]) fun _ _ _ _ _ _ us hl => match us, hl with | [_], _ => rfl
  have D__parts_of : Df K mg "_parts_of" s__parts_of ["value"] f5 _ := ⟨F5, b5, PySem.W.mg_of X G a5⟩
  have F6 := fun_mk (st := s__is_row) l6 c6 k6
  have b6 := F6.binds (ps := ["word", "value"]) fun _ _ _ _ _ _ us hl => match us, hl with | [_, _], _ => rfl
  have D__is_row : Df K mg "_is_row" s__is_row ["word", "value"] f6 _ := ⟨F6, b6, PySem.W.mg_of X G a6⟩
  have F7 := fun_mk (st := s__begins_with) l7 c7 k7
  have b7 := F7.binds (ps := ["value", "word"]) fun _ _ _ _ _ _ us hl => match us, hl with | [_, _], _ => rfl
  have D__begins_with : Df K mg "_begins_with" s__begins_with ["value", "word"] f7 _ := ⟨F7, b7, PySem.W.mg_of X G a7⟩
  have F8 := fun_mk (st := s_simple) l8 c8 k8
  have b8 := F8.binds (ps := ["expression"]) fun _ _ _ _ _ _ us hl => match us, hl with | [_], _ => rfl
  have D_simple : Df K mg "simple" s_simple ["expression"] f8 _ := ⟨F8, b8, PySem.W.mg_of X G a8⟩
  have F9 := fun_mk (st := s__simple) l9 c9 k9
  have b9 := F9.binds (ps := ["part"]) fun _ _ _ _ _ _ us hl => match us, hl with | [_], _ => rfl
  have D__simple : Df K mg "_simple" s__simple ["part"] f9 _ := ⟨F9, b9, PySem.W.mg_of X G a9⟩
  have F10 := fun_mk (st := s__simple_maybe) l10 c10 k10
  have b10 := F10.binds (ps := ["part"]) fun _ _ _ _ _ _ us hl => match us, hl with | [_], _ => rfl
  have D__simple_maybe : Df K mg "_simple_maybe" s__simple_maybe ["part"] f10 _ := ⟨F10, b10, PySem.W.mg_of X G a10⟩
  have F11 := fun_mk (st := s__simple_many) l11 c11 k11
  have b11 := F11.binds (ps := ["part"]) fun _ _ _ _ _ _ us hl => match us, hl with | [_], _ => rfl
  have D__simple_many : Df K mg "_simple_many" s__simple_many ["part"] f11 _ := ⟨F11, b11, PySem.W.mg_of X G a11⟩
  have F12 := fun_mk (st := s__simple_or) l12 c12 k12
  have b12 := F12.binds (ps := ["parts"]) fun _ _ _ _ _ _ us hl => match us, hl with | [_], _ => rfl
  have D__simple_or : Df K mg "_simple_or" s__simple_or ["parts"] f12 _ := ⟨F12, b12, PySem.W.mg_of X G a12⟩
  have F13 := fun_mk (st := s_join_of) l13 c13 k13
  have b13 := F13.binds (ps := ["parts"]) fun _ _ _ _ _ _ us hl => match us, hl with | [_], _ => rfl
  have D_join_of : Df K mg "join_of" s_join_of ["parts"] f13 _ := ⟨F13, b13, PySem.W.mg_of X G a13⟩
  have F14 := fun_mk (st := s_opened_parts) l14 c14 k14
  have b14 := F14.binds (ps := ["word", "parts"]) fun _ _ _ _ _ _ us hl => match us, hl with | [_, _], _ => rfl
  have D_opened_parts : Df K mg "opened_parts" s_opened_parts ["word", "parts"] f14 _ := ⟨F14, b14, PySem.W.mg_of X G a14⟩
  have F15 := fun_mk (st := s__has_word) l15 c15 k15
  have b15 := F15.binds (ps := ["part", "word"]) fun _ _ _ _ _ _ us hl => match us, hl with | [_, _], _ => rfl
  have D__has_word : Df K mg "_has_word" s__has_word ["part", "word"] f15 _ := ⟨F15, b15, PySem.W.mg_of X G a15⟩
  have F16 := fun_mk (st := s_row_of) l16 c16 k16
  have b16 := F16.binds (ps := ["word", "parts"]) fun _ _ _ _ _ _ us hl => match us, hl with | [_, _], _ => rfl
  have D_row_of : Df K mg "row_of" s_row_of ["word", "parts"] f16 _ := ⟨F16, b16, PySem.W.mg_of X G a16⟩
  have F17 := fun_mk (st := s__least) l17 c17 k17
  have b17 := F17.binds (ps := ["part"]) fun _ _ _ _ _ _ us hl => match us, hl with | [_], _ => rfl
  have D__least : Df K mg "_least" s__least ["part"] f17 _ := ⟨F17, b17, PySem.W.mg_of X G a17⟩
  have F18 := fun_mk (st := s__law_stream) l18 c18 k18
  have b18 := F18.binds (ps := ["script"]) fun _ _ _ _ _ _ us hl => match us, hl with | [_], _ => rfl
  have D__law_stream : Df K mg "_law_stream" s__law_stream ["script"] f18 _ := ⟨F18, b18, PySem.W.mg_of X G a18⟩
  have F19 := fun_mk (st := s__law_next) l19 c19 k19
  have b19 := F19.binds (ps := ["stream", "many"]) fun _ _ _ _ _ _ us hl => match us, hl with | [_, _], _ => rfl
  have D__law_next : Df K mg "_law_next" s__law_next ["stream", "many"] f19 _ := ⟨F19, b19, PySem.W.mg_of X G a19⟩
  have F20 := fun_mk (st := s__law_is_integer) l20 c20 k20
  have b20 := F20.binds (ps := ["actual"]) fun _ _ _ _ _ _ us hl => match us, hl with | [_], _ => rfl
  have D__law_is_integer : Df K mg "_law_is_integer" s__law_is_integer ["actual"] f20 _ := ⟨F20, b20, PySem.W.mg_of X G a20⟩
  have F21 := fun_mk (st := s__law_equal) l21 c21 k21
  have b21 := F21.binds (ps := ["actual", "due"]) fun _ _ _ _ _ _ us hl => match us, hl with | [_, _], _ => rfl
  have D__law_equal : Df K mg "_law_equal" s__law_equal ["actual", "due"] f21 _ := ⟨F21, b21, PySem.W.mg_of X G a21⟩
  have F22 := fun_mk (st := s__law_pick) l22 c22 k22
  have b22 := F22.binds (ps := ["stream", "rows"]) fun _ _ _ _ _ _ us hl => match us, hl with | [_, _], _ => rfl
  have D__law_pick : Df K mg "_law_pick" s__law_pick ["stream", "rows"] f22 _ := ⟨F22, b22, PySem.W.mg_of X G a22⟩
  have F23 := fun_mk (st := s__law_grown) l23 c23 k23
  have b23 := F23.binds (ps := ["stream", "letters", "room", "deep", "outer"]) fun _ _ _ _ _ _ us hl => match us, hl with | [_, _, _, _, _], _ => rfl
  have D__law_grown : Df K mg "_law_grown" s__law_grown ["stream", "letters", "room", "deep", "outer"] f23 _ := ⟨F23, b23, PySem.W.mg_of X G a23⟩
  have F24 := fun_mk (st := s__law_expression) l24 c24 k24
  have b24 := F24.binds (ps := ["stream", "most"]) fun _ _ _ _ _ _ us hl => match us, hl with | [_, _], _ => rfl
  have D__law_expression : Df K mg "_law_expression" s__law_expression ["stream", "most"] f24 _ := ⟨F24, b24, PySem.W.mg_of X G a24⟩
  have F25 := fun_mk (st := s__law_inside) l25 c25 k25
  have b25 := F25.binds (ps := ["expression"]) fun _ _ _ _ _ _ us hl => match us, hl with | [_], _ => rfl
  have D__law_inside : Df K mg "_law_inside" s__law_inside ["expression"] f25 _ := ⟨F25, b25, PySem.W.mg_of X G a25⟩
  have F26 := fun_mk (st := s__law_letters) l26 c26 k26
  have b26 := F26.binds (ps := ["expression"]) fun _ _ _ _ _ _ us hl => match us, hl with | [_], _ => rfl
  have D__law_letters : Df K mg "_law_letters" s__law_letters ["expression"] f26 _ := ⟨F26, b26, PySem.W.mg_of X G a26⟩
  have F27 := fun_mk (st := s__law_depth) l27 c27 k27
  have b27 := F27.binds (ps := ["expression"]) fun _ _ _ _ _ _ us hl => match us, hl with | [_], _ => rfl
  have D__law_depth : Df K mg "_law_depth" s__law_depth ["expression"] f27 _ := ⟨F27, b27, PySem.W.mg_of X G a27⟩
  have F28 := fun_mk (st := s__law_count) l28 c28 k28
  have b28 := F28.binds (ps := ["expression"]) fun _ _ _ _ _ _ us hl => match us, hl with | [_], _ => rfl
  have D__law_count : Df K mg "_law_count" s__law_count ["expression"] f28 _ := ⟨F28, b28, PySem.W.mg_of X G a28⟩
  have F29 := fun_mk (st := s__law_joined) l29 c29 k29
  have b29 := F29.binds (ps := ["first", "second", "most"]) fun _ _ _ _ _ _ us hl => match us, hl with | [_, _, _], _ => rfl
  have D__law_joined : Df K mg "_law_joined" s__law_joined ["first", "second", "most"] f29 _ := ⟨F29, b29, PySem.W.mg_of X G a29⟩
  have F30 := fun_mk (st := s__law_once) l30 c30 k30
  have b30 := F30.binds (ps := ["rows"]) fun _ _ _ _ _ _ us hl => match us, hl with | [_], _ => rfl
  have D__law_once : Df K mg "_law_once" s__law_once ["rows"] f30 _ := ⟨F30, b30, PySem.W.mg_of X G a30⟩
  have F31 := fun_mk (st := s__law_words) l31 c31 k31
  have b31 := F31.binds (ps := ["expression", "most"]) fun _ _ _ _ _ _ us hl => match us, hl with | [_, _], _ => rfl
  have D__law_words : Df K mg "_law_words" s__law_words ["expression", "most"] f31 _ := ⟨F31, b31, PySem.W.mg_of X G a31⟩
  have F32 := fun_mk (st := s__law_empty) l32 c32 k32
  have b32 := F32.binds (ps := ["expression"]) fun _ _ _ _ _ _ us hl => match us, hl with | [_], _ => rfl
  have D__law_empty : Df K mg "_law_empty" s__law_empty ["expression"] f32 _ := ⟨F32, b32, PySem.W.mg_of X G a32⟩
  have F33 := fun_mk (st := s__law_simple) l33 c33 k33
  have b33 := F33.binds (ps := ["expression"]) fun _ _ _ _ _ _ us hl => match us, hl with | [_], _ => rfl
  have D__law_simple : Df K mg "_law_simple" s__law_simple ["expression"] f33 _ := ⟨F33, b33, PySem.W.mg_of X G a33⟩
  have F34 := fun_mk (st := s_law) l34 c34 k34
  have b34 := F34.binds (ps := ["script"]) fun _ _ _ _ _ _ us hl => match us, hl with | [_], _ => rfl
  have D_law : Df K mg "law" s_law ["script"] f34 _ := ⟨F34, b34, PySem.W.mg_of X G a34⟩
  have B : Bt K mg aLONG_BOUNDS aLONG_BOUNDS tL tL := ⟨PySem.W.mg_none_of X G z_ValueError, PySem.W.mg_none_of X G z_abs, PySem.W.mg_none_of X G z_all, PySem.W.mg_none_of X G z_any, PySem.W.mg_none_of X G z_bool, PySem.W.mg_none_of X G z_int, PySem.W.mg_none_of X G z_isinstance, PySem.W.mg_none_of X G z_len, PySem.W.mg_none_of X G z_list, PySem.W.mg_none_of X G z_max, PySem.W.mg_none_of X G z_min, PySem.W.mg_none_of X G z_range, PySem.W.mg_none_of X G z_sorted, PySem.W.mg_none_of X G z_str, PySem.W.mg_none_of X G z_sum, PySem.W.mg_none_of X G z_super, PySem.W.mg_none_of X G z_tuple, PySem.W.mg_of X G gLETTERS, PySem.W.mg_of X G gLONG_BOUNDS, fun H => .inr ⟨_, _, _, lLONG_BOUNDS, rfl, rfl, (by show 3 ≤ sizeLine; decide), .cons ⟨_, rfl⟩ (.cons ⟨_, rfl⟩ (.cons ⟨_, rfl⟩ .nil))⟩⟩
  have e := hfa.symm.trans D_law.g
  cases e
  refine ⟨(PySem.W.fnOf "law" "law" (defArgs s_law) (defBody s_law) (defScope s_law) .none kV34 dc34 pm34 an34 cd34 ct34), fun s v => .of_eq rfl, fun base _ _ => ?_⟩
  have C__law_stream := D__law_stream.cl (ok_stream (P := l.prog) (w := w) (base := base) B D__law_stream)
  have C__law_next := D__law_next.cl (ok_next (P := l.prog) (w := w) (base := base) B D__law_next)
  have C__law_pick := D__law_pick.cl (ok_pick (P := l.prog) (w := w) (base := base) B D__law_pick C__law_next)
  have C__law_grown := D__law_grown.cl (all2_grown_step (P := l.prog) (w := w) (base := base) B D__law_grown C__law_next C__law_pick 5)
  have C__law_expression := D__law_expression.cl (ok_expr (P := l.prog) (w := w) (base := base) B D__law_expression C__law_next C__law_pick C__law_grown)
  have C__law_pick_2 := D__law_pick.cl (ok_pickB (P := l.prog) (w := w) (base := base) B D__law_pick C__law_next)
  have C__law_inside := D__law_inside.cl (ok_inside (P := l.prog) (w := w) (base := base) B D__law_inside)
  have C__law_empty := D__law_empty.cl (all2_empty_step (P := l.prog) (w := w) (base := base) B D__law_empty 20)
  have C__law_simple := D__law_simple.cl (all2_lsimp_step (P := l.prog) (w := w) (base := base) B D__law_simple C__law_inside C__law_empty 20)
  have C_is_letter := D_is_letter.cl (ok_letter (P := l.prog) (w := w) (base := base) B D_is_letter)
  have C__begins_with := D__begins_with.cl (ok_begins (P := l.prog) (w := w) (base := base) B D__begins_with)
  have C__is_row := D__is_row.cl (ok_isrow (P := l.prog) (w := w) (base := base) B D__is_row C__begins_with)
  have C__parts_of := D__parts_of.cl (ok_parts (P := l.prog) (w := w) (base := base) B D__parts_of C_is_letter C__is_row)
  have C_sizes_within := D_sizes_within.cl (ok_sizes (P := l.prog) (w := w) (base := base) B D_sizes_within C__parts_of)
  have C_is_long := D_is_long.cl (ok_islong (P := l.prog) (w := w) (base := base) B D_is_long C_sizes_within)
  have C_check_long := D_check_long.cl (ok_checklong (P := l.prog) (w := w) (base := base) B D_check_long C_is_long)
  have C__has_word := D__has_word.cl (ok_has (P := l.prog) (w := w) (base := base) B D__has_word)
  have C_opened_parts := D_opened_parts.cl (ok_open (P := l.prog) (w := w) (base := base) B D_opened_parts C__has_word)
  have C_row_of := D_row_of.cl (ok_rowof (P := l.prog) (w := w) (base := base) B D_row_of)
  have C_join_of := D_join_of.cl (ok_joinof (P := l.prog) (w := w) (base := base) B D_join_of C_opened_parts C_row_of)
  have C__least := D__least.cl (all2_least_step (P := l.prog) (w := w) (base := base) B D__least 42)
  have C__simple_or := D__simple_or.cl (ok_simpor (P := l.prog) (w := w) (base := base) B D__simple_or C__least C_row_of)
  have C__simple_maybe := D__simple_maybe.cl (ok_simpmaybe (P := l.prog) (w := w) (base := base) B D__simple_maybe C__least)
  have C__simple_many := D__simple_many.cl (ok_simpmany (P := l.prog) (w := w) (base := base) B D__simple_many C__has_word)
  have C__simple := D__simple.cl (all2_simp_step (P := l.prog) (w := w) (base := base) B D__simple C_opened_parts C_join_of C__simple_or C__simple_maybe C__simple_many 41)
  have C_simple := D_simple.cl (ok_simple (P := l.prog) (w := w) (base := base) B D_simple C_check_long C__simple)
  have C__law_is_integer := D__law_is_integer.cl (ok_isint (P := l.prog) (w := w) (base := base) B D__law_is_integer)
  have C__law_equal := D__law_equal.cl (all2_equal_step (P := l.prog) (w := w) (base := base) B D__law_equal C__law_is_integer 30)
  have C__law_letters := D__law_letters.cl (all2_letters_step (P := l.prog) (w := w) (base := base) B D__law_letters C__law_inside 12)
  have C__law_once := D__law_once.cl (ok_once (P := l.prog) (w := w) (base := base) B D__law_once)
  have C__law_joined := D__law_joined.cl (ok_joined (P := l.prog) (w := w) (base := base) B D__law_joined C__law_once)
  have C__law_words := D__law_words.cl (all2_words_step (P := l.prog) (w := w) (base := base) B D__law_words C__law_inside C__law_once C__law_joined 12)
  have C__law_count := D__law_count.cl (all2_count_step (P := l.prog) (w := w) (base := base) B D__law_count C__law_inside 12)
  have C__law_depth := D__law_depth.cl (all2_depth_step (P := l.prog) (w := w) (base := base) B D__law_depth C__law_inside 12)
  exact ok_law B D_law C__law_stream C__law_expression C__law_pick_2 C__law_simple C_simple C_is_long C__law_equal C__law_letters C__law_once C__law_words C__law_count C__law_depth
theorem walk {l : PySem.W.OpenLaw} {q : Program} {loose : List Str} {XP : (Str → Option Value) → Heap → Prop} {YP : World → Heap → Prop} {d : DefRec} {K : Params → PySem.W.Frag} (hn : l.most = some 63) (hdf : d.params.defaults = [])
    (hY : ∀ (w : World) (h : Heap), YP w h → (K w.params).In h)
    (F : ∀ (w : World) (mg : Str → Option Value) (fa : Addr) (h : Heap), (K w.params).In h → h.Ns mainGlobals mg → mg d.name = some (.ref fa) →
      ∃ fd : FuncData, (∀ (s : Shared) (u : Value), BindsTo s fd ⟨[u], []⟩ [("script", u)]) ∧ ∀ base : Heap, (K w.params).In base → base.Ns mainGlobals mg → FnOk l.prog w (K w.params) mg base CX0 89 fa fd ["script"] (spLaw (K w.params))) :
    PySem.W.WalkO q loose XP YP l.row.toRowW d [] (fun f vs => PySem.call f vs) :=
  L2.walk_of (n := 63) (k := 89) (x := "script") (CX := fun _ => CX0) (sp := fun w => spLaw (K w.params)) hn (by decide) hdf ⟨rfl, by decide, by decide⟩ hY F (fun _ _ a ns hl _ hS => ⟨a, ns, rfl, hS, hl, fun _ => rfl⟩) fun _ _ _ _ _ z => z
end My
open PySem PySem.W PyProof.Rows
set_option maxRecDepth 100000 in
set_option maxHeartbeats 0 in
theorem PySem.Challenge.cw_nodoubt_k04_whole_simple_forms_holds : PySem.Challenge.rw_nodoubt_k04_whole_simple_forms.Holds := by
  w_on; o_law; k_head; (case hw => w_witness2)
  k_fill
  refine My.walk (l := PySem.Challenge.rw_nodoubt_k04_whole_simple_forms) rfl rfl (fun w h Y => PySem.W.kIn_of Y) ?F
  case F =>
    intro w mg fa h KX G hmg
    refine' My.all_mk KX G hmg ?a1 ?l1 ?c1 ?k1 ?a2 ?l2 ?c2 ?k2 ?a3 ?l3 ?c3 ?k3 ?a4 ?l4 ?c4 ?k4 ?a5 ?l5 ?c5 ?k5 ?a6 ?l6 ?c6 ?k6 ?a7 ?l7 ?c7 ?k7 ?a8 ?l8 ?c8 ?k8 ?a9 ?l9 ?c9 ?k9 ?a10 ?l10 ?c10 ?k10 ?a11 ?l11 ?c11 ?k11 ?a12 ?l12 ?c12 ?k12 ?a13 ?l13 ?c13 ?k13 ?a14 ?l14 ?c14 ?k14 ?a15 ?l15 ?c15 ?k15 ?a16 ?l16 ?c16 ?k16 ?a17 ?l17 ?c17 ?k17 ?a18 ?l18 ?c18 ?k18 ?a19 ?l19 ?c19 ?k19 ?a20 ?l20 ?c20 ?k20 ?a21 ?l21 ?c21 ?k21 ?a22 ?l22 ?c22 ?k22 ?a23 ?l23 ?c23 ?k23 ?a24 ?l24 ?c24 ?k24 ?a25 ?l25 ?c25 ?k25 ?a26 ?l26 ?c26 ?k26 ?a27 ?l27 ?c27 ?k27 ?a28 ?l28 ?c28 ?k28 ?a29 ?l29 ?c29 ?k29 ?a30 ?l30 ?c30 ?k30 ?a31 ?l31 ?c31 ?k31 ?a32 ?l32 ?c32 ?k32 ?a33 ?l33 ?c33 ?k33 ?a34 ?l34 ?c34 ?k34 ?z_ValueError ?z_abs ?z_all ?z_any ?z_bool ?z_int ?z_isinstance ?z_len ?z_list ?z_max ?z_min ?z_range ?z_sorted ?z_str ?z_sum ?z_super ?z_tuple ?gLONG_BOUNDS ?lLONG_BOUNDS ?gLETTERS
    (case a1 => k_is); (case l1 => k_is); (case c1 => k_is); (case k1 => k_is); (case a2 => k_is); (case l2 => k_is); (case c2 => k_is); (case k2 => k_is); (case a3 => k_is); (case l3 => k_is); (case c3 => k_is); (case k3 => k_is); (case a4 => k_is); (case l4 => k_is); (case c4 => k_is); (case k4 => k_is); (case a5 => k_is); (case l5 => k_is); (case c5 => k_is); (case k5 => k_is); (case a6 => k_is); (case l6 => k_is); (case c6 => k_is); (case k6 => k_is); (case a7 => k_is); (case l7 => k_is); (case c7 => k_is); (case k7 => k_is); (case a8 => k_is); (case l8 => k_is); (case c8 => k_is); (case k8 => k_is); (case a9 => k_is); (case l9 => k_is); (case c9 => k_is); (case k9 => k_is); (case a10 => k_is); (case l10 => k_is); (case c10 => k_is); (case k10 => k_is); (case a11 => k_is); (case l11 => k_is); (case c11 => k_is); (case k11 => k_is); (case a12 => k_is); (case l12 => k_is); (case c12 => k_is); (case k12 => k_is); (case a13 => k_is); (case l13 => k_is); (case c13 => k_is); (case k13 => k_is); (case a14 => k_is); (case l14 => k_is); (case c14 => k_is); (case k14 => k_is); (case a15 => k_is); (case l15 => k_is); (case c15 => k_is); (case k15 => k_is); (case a16 => k_is); (case l16 => k_is); (case c16 => k_is); (case k16 => k_is); (case a17 => k_is); (case l17 => k_is); (case c17 => k_is); (case k17 => k_is); (case a18 => k_is); (case l18 => k_is); (case c18 => k_is); (case k18 => k_is); (case a19 => k_is); (case l19 => k_is); (case c19 => k_is); (case k19 => k_is); (case a20 => k_is); (case l20 => k_is); (case c20 => k_is); (case k20 => k_is); (case a21 => k_is); (case l21 => k_is); (case c21 => k_is); (case k21 => k_is); (case a22 => k_is); (case l22 => k_is); (case c22 => k_is); (case k22 => k_is); (case a23 => k_is); (case l23 => k_is); (case c23 => k_is); (case k23 => k_is); (case a24 => k_is); (case l24 => k_is); (case c24 => k_is); (case k24 => k_is); (case a25 => k_is); (case l25 => k_is); (case c25 => k_is); (case k25 => k_is); (case a26 => k_is); (case l26 => k_is); (case c26 => k_is); (case k26 => k_is); (case a27 => k_is); (case l27 => k_is); (case c27 => k_is); (case k27 => k_is); (case a28 => k_is); (case l28 => k_is); (case c28 => k_is); (case k28 => k_is); (case a29 => k_is); (case l29 => k_is); (case c29 => k_is); (case k29 => k_is); (case a30 => k_is); (case l30 => k_is); (case c30 => k_is); (case k30 => k_is); (case a31 => k_is); (case l31 => k_is); (case c31 => k_is); (case k31 => k_is); (case a32 => k_is); (case l32 => k_is); (case c32 => k_is); (case k32 => k_is); (case a33 => k_is); (case l33 => k_is); (case c33 => k_is); (case k33 => k_is); (case a34 => k_is); (case l34 => k_is); (case c34 => k_is); (case k34 => k_is); (case z_ValueError => k_is); (case z_abs => k_is); (case z_all => k_is); (case z_any => k_is); (case z_bool => k_is); (case z_int => k_is); (case z_isinstance => k_is); (case z_len => k_is); (case z_list => k_is); (case z_max => k_is); (case z_min => k_is); (case z_range => k_is); (case z_sorted => k_is); (case z_str => k_is); (case z_sum => k_is); (case z_super => k_is); (case z_tuple => k_is)
    (case gLONG_BOUNDS => first | k_is | rfl | decide +kernel)
    (case lLONG_BOUNDS => first | k_is | rfl | decide +kernel)
    (case gLETTERS => first | k_is | rfl | decide +kernel)
