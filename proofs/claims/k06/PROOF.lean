import PyProof.Rows.All
import Wide.All
import OpenK.AllK
import Wide.FinOn
import HandS.ForMost
import HandS.IsInst
import HandS.TupAny
import HandS.TupMul
import HandS.Codes
import HandS.Style
import HandS.Wide
import PyProof.StrBlock2
import HandS.Conv
import PySem.Challenge.RW_nodoubt_k06_whole_lengths
set_option Elab.async false
set_option maxRecDepth 100000
set_option linter.all false
namespace My
open PySem PySem.Spec PyProof.Rows L2
/-! ### a def of the text, and what a caller needs of it -/
structure Df (K : PySem.W.Frag) (mg : Str → Option Value) (x : Str) (st : Stmt) (ps : List Str) (f : Addr) (fd : FuncData) : Prop where
  F : Fun K x x st f fd
  b : Binds K fd ps []
  g : mg x = some (.ref f)
structure Cl (P : Program) (w : World) (K : PySem.W.Frag) (mg : Str → Option Value) (base : Heap) (k : Nat) (x : Str) (ps : List Str) (sp : Sp) : Prop where
  ex : ∃ (f : Addr) (fd : FuncData), FnOk P w K mg base CX0 k f fd ps sp ∧ Binds K fd ps [] ∧ mg x = some (.ref f) ∧ PySem.W.keepIn K (.ref f) = true
theorem Df.cl {P : Program} {w : World} {K : PySem.W.Frag} {mg : Str → Option Value} {base : Heap} {x : Str} {st : Stmt} {ps : List Str} {f : Addr} {fd : FuncData} {k : Nat} {sp : Sp} (D : Df K mg x st ps f fd) (h : FnOk P w K mg base CX0 k f fd ps sp) : Cl P w K mg base k x ps sp :=
  ⟨f, fd, h, D.b, D.g, D.F.kp⟩
theorem pe_cl {X : Cx} {k : Nat} {x : Str} {ps : List Str} {sp : Sp} {p pos : Pos} {e : Expr} {es : List Expr} {t : TA} (C : Cl X.prog X.w X.K X.mg X.base k x ps sp) (hr : Room k X.A) (hg : Gl X x) (ha : PA X (e :: es) t)
    (hdb : (x == ("__debug__" : Str)) = false := by decide) (he : starEach (e :: es) X.env = (false, eval e X.env) :: starEach es X.env := by rfl) (hpl : (backTo pos (starEach es X.env)).any (·.1) = false := by rfl) :
    PE X (.Call (.Name x p) (e :: es) [] pos) (tCall sp [] E0 t) := by
  obtain ⟨f, fd, F, b, m, kp⟩ := C.ex
  exact pe_call F hr hg m kp b .nil pass0 ha hdb he hpl
/-! ### lists of values -/
theorem vals_of : ∀ (vs : List V) (us : List Value), vs.length = us.length → (∀ (j : Nat) (v : V) (u : Value), vs[j]? = some v → us[j]? = some u → RelV v u) → Vals vs us
  | [], [], _, _ => .nil
  | [], _ :: _, h, _ => by cases h
  | _ :: _, [], h, _ => by cases h
  | v :: vs, u :: us, h, k => .cons (k 0 v u rfl rfl) (vals_of vs us (Nat.succ.inj h) fun j v' u' h1 h2 => k (j + 1) v' u' h1 h2)
/-! ### list(text) -/
def signsV (z : Str) : List V := z.cps.toList.map fun c => V.str ⟨#[c]⟩
theorem call_list_text {X : Cx} (hc : X.calm = true) : CallR X (.type "list") (fun xs H Q => ∃ z : Str, xs = [.str z] ∧ z.length ≤ sizeLine ∧ ∀ l, H l = none → Q (.ref l) (upd H l (.lst (signsV z)))) := by
  intro pins s σ H xs us Q I r h
  obtain ⟨z, rfl, hz, q⟩ := h
  obtain ⟨u, rfl, t, rfl⟩ := vals1 r
  have hz' : z.cps.size ≤ sizeLine := hz
  refine call_list_str (I.ok.hd hc) z t (hn := hz) fun h' tk acc' c' hk hS hacc => ?_
  have vals : Vals (signsV z) acc'.toList := by
    refine vals_of _ _ (by unfold signsV; simp [hacc.1]) fun j v u h1 h2 => ?_
    obtain ⟨c, t', hc', rfl⟩ := hacc.2 j u (by simpa using h2)
    unfold signsV at h1
    rw [List.getElem?_map] at h1
    rw [show z.cps.toList[j]? = some c by simpa using hc'] at h1
    cases h1
    exact ⟨_, rfl⟩
  exact ⟨.ref s.heap.objs.size, _, I.laid (t' := tk) hk (Nat.le_refl _) (show ObjOk X.prog X.w _ h' _ (.lst (signsV z)) from ⟨by unfold signsV; simpa using hz', acc'.toList, c', vals, by simpa using hS⟩), rfl, q _ (I.hok.fresh (Nat.le_refl _))⟩

/-- text * number -/
theorem op_mul_str {X : Cx} : OpR X (binaryOp .Mult) (fun x y H Q => ∃ z n, x = .str z ∧ y = .int n ∧ MulOk z n ∧ Q (.str (Txt.mul z n)) H) := by
  intro pins s σ H x y v u Q I rx ry h
  obtain ⟨z, n, rfl, rfl, hok, q⟩ := h
  obtain ⟨t, rfl⟩ := rx
  obtain ⟨t', rfl⟩ := ry
  exact SB.mul hok fun t' k => ⟨.str _, H, I.tok k, ⟨_, rfl⟩, q⟩
/-! ### heaps -/
theorem same_upd {H : Hp} {p : Addr} {o : HO} (h : H p = none) : Same H (upd H p o) := fun b u q => by rw [upd_ne (ne_of_none q h)]; exact q
/-- all but what stands at a is as it was -/
def Keep (a : Addr) (H H' : Hp) : Prop := ∀ b o, H b = some o → b ≠ a → H' b = some o
theorem Keep.refl (a : Addr) (H : Hp) : Keep a H H := fun _ _ h _ => h
theorem Keep.trans {a : Addr} {H H1 H2 : Hp} (x : Keep a H H1) (y : Keep a H1 H2) : Keep a H H2 := fun b o h n => y b o (x b o h n) n
theorem Keep.same {a : Addr} {H H' : Hp} (x : Same H H') : Keep a H H' := fun b o h _ => x b o h
theorem Keep.new {a p : Addr} {H : Hp} {o : HO} (h : H p = none) : Keep a H (upd H p o) := Keep.same (same_upd h)
theorem Keep.store {a : Addr} {H : Hp} {o : HO} : Keep a H (upd H a o) := fun b u q n => by rw [upd_ne n]; exact q
/-- tuples stay, lists stay lists -/
structure Pers (H H' : Hp) : Prop where
  tup : ∀ b xs, H b = some (.tup xs) → H' b = some (.tup xs)
  lst : ∀ b xs, H b = some (.lst xs) → ∃ ys, H' b = some (.lst ys)
theorem Pers.refl (H : Hp) : Pers H H := ⟨fun _ _ h => h, fun _ xs h => ⟨xs, h⟩⟩
theorem Pers.trans {H H1 H2 : Hp} (x : Pers H H1) (y : Pers H1 H2) : Pers H H2 := ⟨fun b xs h => y.tup b xs (x.tup b xs h), fun b xs h => by
  obtain ⟨ys, h1⟩ := x.lst b xs h
  exact y.lst b ys h1⟩
theorem Pers.same {H H' : Hp} (x : Same H H') : Pers H H' := ⟨fun b xs h => x b _ h, fun b xs h => ⟨xs, x b _ h⟩⟩
theorem Pers.new {p : Addr} {H : Hp} {o : HO} (h : H p = none) : Pers H (upd H p o) := Pers.same (same_upd h)
theorem Pers.store {a : Addr} {H : Hp} {xs ys : List V} (h : H a = some (.lst xs)) : Pers H (upd H a (.lst ys)) := ⟨fun b zs q => by
  have n : b ≠ a := fun e => by
    rw [e, h] at q
    cases q
  rw [upd_ne n]
  exact q, fun b zs q => by
  by_cases n : b = a
  · subst n
    exact ⟨ys, upd_same⟩
  · rw [upd_ne n]
    exact ⟨zs, q⟩⟩
/-! ### the stream of draws -/
def StrmW (H : Hp) (a l : Addr) (c k : Int) (ns : List Int) : Prop := H a = some (.lst [.ref l, .int c, .int k]) ∧ H l = some (.lst (ns.map V.int)) ∧ l ≠ a ∧ 0 ≤ k
def Strm (H : Hp) (a : Addr) : Prop := ∃ l c k ns, StrmW H a l c k ns
/-- what a call that draws leaves: all but the stream as it was -/
structure Go (a : Addr) (H H' : Hp) : Prop where
  keep : Keep a H H'
  st0 : Strm H a
  mv : ∀ l c k ns, StrmW H a l c k ns → ∃ c' k' ns', StrmW H' a l c' k' ns'
theorem Go.st {a : Addr} {H H' : Hp} (g : Go a H H') : Strm H' a := by
  obtain ⟨l, c, k, ns, h⟩ := g.st0
  obtain ⟨c', k', ns', h'⟩ := g.mv l c k ns h
  exact ⟨l, c', k', ns', h'⟩
theorem Go.refl {a : Addr} {H : Hp} (h : Strm H a) : Go a H H := ⟨Keep.refl a H, h, fun l c k ns h => ⟨c, k, ns, h⟩⟩
theorem Go.trans {a : Addr} {H H1 H2 : Hp} (x : Go a H H1) (y : Go a H1 H2) : Go a H H2 := ⟨x.keep.trans y.keep, x.st0, fun l c k ns h => by
  obtain ⟨c', k', ns', h'⟩ := x.mv l c k ns h
  exact y.mv l c' k' ns' h'⟩
theorem StrmW.same {a l : Addr} {c k : Int} {ns : List Int} {H H' : Hp} (h : StrmW H a l c k ns) (s : Same H H') : StrmW H' a l c k ns := ⟨s _ _ h.1, s _ _ h.2.1, h.2.2.1, h.2.2.2⟩
theorem Strm.same {a : Addr} {H H' : Hp} (h : Strm H a) (s : Same H H') : Strm H' a := by
  obtain ⟨l, c, k, ns, h⟩ := h
  exact ⟨l, c, k, ns, h.same s⟩
theorem Go.same {a : Addr} {H H' : Hp} (h : Strm H a) (s : Same H H') : Go a H H' := ⟨Keep.same s, h, fun l c k ns w => ⟨c, k, ns, w.same s⟩⟩
theorem Go.new {a p : Addr} {H : Hp} {o : HO} (h : Strm H a) (n : H p = none) : Go a H (upd H p o) := Go.same h (same_upd n)
/-- a store to what is new since H -/
theorem Go.loc {a p : Addr} {H H' : Hp} {o : HO} (g : Go a H H') (n : H p = none) : Go a H (upd H' p o) := ⟨fun b u hb hn => by
  rw [upd_ne (ne_of_none hb n)]
  exact g.keep b u hb hn, g.st0, fun l c k ns h => by
  obtain ⟨c', k', ns', h1, h2, h3, h4⟩ := g.mv l c k ns h
  exact ⟨c', k', ns', by rw [upd_ne (ne_of_none h.1 n)]; exact h1, by rw [upd_ne (ne_of_none h.2.1 n)]; exact h2, h3, h4⟩⟩
theorem Strm.isl {a : Addr} {H : Hp} (h : Strm H a) : ∃ xs, H a = some (.lst xs) := by
  obtain ⟨l, c, k, ns, h1, h2⟩ := h
  exact ⟨_, h1⟩
theorem Go.pers {a : Addr} {H H' : Hp} (g : Go a H H') : Pers H H' := by
  obtain ⟨xs, h1⟩ := g.st0.isl
  obtain ⟨ys, h2⟩ := g.st.isl
  refine ⟨fun b zs q => g.keep b _ q fun e => ?_, fun b zs q => ?_⟩
  · rw [e, h1] at q
    cases q
  · by_cases n : b = a
    · subst n
      exact ⟨ys, h2⟩
    · exact ⟨zs, g.keep b _ q n⟩
theorem Strm.ne {a p : Addr} {H : Hp} (h : Strm H a) (n : H p = none) : a ≠ p := by
  obtain ⟨xs, h1⟩ := h.isl
  exact ne_of_none h1 n
theorem Strm.neT {a p : Addr} {H : Hp} {xs : List V} (h : Strm H a) (n : H p = some (.tup xs)) : p ≠ a := fun e => by
  obtain ⟨ys, h1⟩ := h.isl
  rw [e, h1] at n
  cases n
/-! ### two lists, item by item -/
inductive Two {α β : Type} (R : α → β → Prop) : List α → List β → Prop where
  | nil : Two R [] []
  | cons {a : α} {b : β} {as : List α} {bs : List β} (h : R a b) (t : Two R as bs) : Two R (a :: as) (b :: bs)
theorem Two.len {α β : Type} {R : α → β → Prop} {as : List α} {bs : List β} (h : Two R as bs) : as.length = bs.length := by
  induction h with
  | nil => rfl
  | cons _ _ ih => rw [List.length_cons, List.length_cons, ih]
theorem Two.mono {α β : Type} {R S : α → β → Prop} (k : ∀ a b, R a b → S a b) {as : List α} {bs : List β} (h : Two R as bs) : Two S as bs := by
  induction h with
  | nil => exact .nil
  | cons h _ ih => exact .cons (k _ _ h) ih
theorem Two.monoM {α β : Type} {R S : α → β → Prop} {as : List α} {bs : List β} (h : Two R as bs) (k : ∀ a b, a ∈ as → b ∈ bs → R a b → S a b) : Two S as bs := by
  induction h with
  | nil => exact .nil
  | cons h _ ih => exact .cons (k _ _ (List.mem_cons_self ..) (List.mem_cons_self ..) h) (ih fun a b ha hb => k a b (List.mem_cons_of_mem _ ha) (List.mem_cons_of_mem _ hb))
theorem Two.app {α β : Type} {R : α → β → Prop} {as as' : List α} {bs bs' : List β} (h : Two R as bs) (h' : Two R as' bs') : Two R (as ++ as') (bs ++ bs') := by
  induction h with
  | nil => exact h'
  | cons h _ ih => exact .cons h ih
theorem Two.get {α β : Type} {R : α → β → Prop} {as : List α} {bs : List β} (h : Two R as bs) : ∀ {i : Nat} {a : α}, as[i]? = some a → ∃ b, bs[i]? = some b ∧ R a b := by
  induction h with
  | nil => intro i a h; simp at h
  | cons h _ ih =>
    intro i a e
    cases i with
    | zero => cases e; exact ⟨_, rfl, h⟩
    | succ i => exact ih e
theorem Two.get2 {α β : Type} {R : α → β → Prop} {as : List α} {bs : List β} (h : Two R as bs) {i : Nat} {a : α} {b : β} (ha : as[i]? = some a) (hb : bs[i]? = some b) : R a b := by
  obtain ⟨b', h1, h2⟩ := h.get ha
  rw [h1] at hb
  cases hb
  exact h2
theorem Two.of_get {α β : Type} {R : α → β → Prop} : ∀ {as : List α} {bs : List β}, as.length = bs.length → (∀ (i : Nat) (a : α) (b : β), as[i]? = some a → bs[i]? = some b → R a b) → Two R as bs
  | [], [], _, _ => .nil
  | [], _ :: _, h, _ => by cases h
  | _ :: _, [], h, _ => by cases h
  | a :: as, b :: bs, h, k => .cons (k 0 a b rfl rfl) (Two.of_get (Nat.succ.inj h) fun i a' b' h1 h2 => k (i + 1) a' b' h1 h2)
theorem Two.unsnoc {α β : Type} {R : α → β → Prop} {as : List α} {bs : List β} {b : β} (h : Two R as (bs ++ [b])) : ∃ as' a, as = as' ++ [a] ∧ Two R as' bs ∧ R a b := by
  induction bs generalizing as with
  | nil =>
    cases h with
    | cons h t =>
      cases t
      exact ⟨[], _, rfl, .nil, h⟩
  | cons c bs ih =>
    cases h with
    | cons h t =>
      obtain ⟨as', a, rfl, h1, h2⟩ := ih t
      exact ⟨_ :: as', a, rfl, .cons h h1, h2⟩
theorem Two.map_right {α β γ : Type} {R : α → γ → Prop} {f : β → γ} {as : List α} {bs : List β} (h : Two (fun a b => R a (f b)) as bs) : Two R as (bs.map f) := by
  induction h with
  | nil => exact .nil
  | cons h _ ih => exact .cons h ih
/-! ### data: what stands at a value -/
inductive D where
  | str (z : Str)
  | tup (ds : List D)
  | lst
  | flat
inductive Rep (H : Hp) : V → D → Prop where
  | str {z : Str} (h : z.length ≤ 1000) : Rep H (.str z) (.str z)
  | tup {p : Addr} {xs : List V} {ds : List D} (h : H p = some (.tup xs)) (z : xs.length ≤ 100000) (l : xs.length = ds.length) (k : ∀ (i : Nat) (x : V) (d : D), xs[i]? = some x → ds[i]? = some d → Rep H x d) : Rep H (.ref p) (.tup ds)
  | lst {p : Addr} {xs : List V} (h : H p = some (.lst xs)) : Rep H (.ref p) .lst
  | non : Rep H .non .flat
  | bl (b : Bool) : Rep H (.bl b) .flat
  | int (i : Int) : Rep H (.int i) .flat
theorem Rep.tup2 {H : Hp} {p : Addr} {xs : List V} {ds : List D} (h : H p = some (.tup xs)) (z : xs.length ≤ 100000) (k : Two (Rep H) xs ds) : Rep H (.ref p) (.tup ds) := .tup h z k.len fun _ _ _ h1 h2 => k.get2 h1 h2
theorem Rep.pers {H H' : Hp} (k : Pers H H') {v : V} {d : D} (h : Rep H v d) : Rep H' v d := by
  induction h with
  | str h => exact .str h
  | tup h z l _ ih => exact .tup (k.tup _ _ h) z l ih
  | lst h =>
    obtain ⟨ys, h1⟩ := k.lst _ _ h
    exact .lst h1
  | non => exact .non
  | bl b => exact .bl b
  | int i => exact .int i
theorem Rep.pers2 {H H' : Hp} (k : Pers H H') {vs : List V} {ds : List D} (h : Two (Rep H) vs ds) : Two (Rep H') vs ds := h.mono fun _ _ => Rep.pers k
theorem Rep.untup {H : Hp} {v : V} {ds : List D} (h : Rep H v (.tup ds)) : ∃ p xs, v = .ref p ∧ H p = some (.tup xs) ∧ xs.length ≤ 100000 ∧ Two (Rep H) xs ds := by
  cases h with
  | tup h z l k => exact ⟨_, _, rfl, h, z, Two.of_get l k⟩
def isStr : D → Bool | .str _ => true | _ => false
def isTup : D → Bool | .tup _ => true | _ => false
/-- its type, for isinstance -/
theorem Rep.ty {K : PySem.W.Frag} {H : Hp} {v : V} {d : D} (h : Rep H v d) : ∃ t : String, TyX K H v (.type t) ∧ PySem.W.kitOne K (.type t) (.type "str") = some (isStr d) ∧ PySem.W.kitOne K (.type t) (.type "tuple") = some (isTup d) := by
  cases h with
  | str h => exact ⟨"str", .base (.str _), kit_ty (r := true) (by decide +kernel), kit_ty (r := false) (by decide +kernel)⟩
  | tup h _ _ _ => exact ⟨"tuple", .base (.tup h), kit_ty (r := false) (by decide +kernel), kit_ty (r := true) (by decide +kernel)⟩
  | lst h => exact ⟨"list", .base (.lst h), kit_ty (r := false) (by decide +kernel), kit_ty (r := false) (by decide +kernel)⟩
  | non => exact ⟨"NoneType", .base .non, kit_ty (r := false) (by decide +kernel), kit_ty (r := false) (by decide +kernel)⟩
  | bl b => exact ⟨"bool", .base (.bl _), kit_ty (r := false) (by decide +kernel), kit_ty (r := false) (by decide +kernel)⟩
  | int i => exact ⟨"int", .base (.int _), kit_ty (r := false) (by decide +kernel), kit_ty (r := false) (by decide +kernel)⟩
/-! ### short words for readings -/
theorem vstr {a b : Str} (h : decide (V.str a = V.str b) = true) : a = b := by
  have e := of_decide_eq_true h
  cases e
  rfl
theorem vstrN {a b : Str} (h : ¬ decide (V.str a = V.str b) = true) : ¬ a = b := fun e => h (decide_eq_true (congrArg V.str e))
theorem tyes {σ : L2.St} {H : Hp} {A B : Hp → Prop} (h : A H) : tYes σ H (fun b H3 => if b = true then A H3 else B H3) := by
  show (if true = true then A H else B H)
  rw [if_pos rfl]
  exact h
theorem at_zero {x : V} {xs : List V} : atI (x :: xs) 0 = some x := at_of (j := 0) rfl rfl
theorem at_one {x y : V} {xs : List V} : atI (x :: y :: xs) 1 = some y := at_of (j := 1) rfl rfl
theorem or2 {a b : Prop} {A B : Prop} [Decidable a] [Decidable b] (h1 : a ∨ b → A) (h2 : ¬ (a ∨ b) → B) : if a then A else if b then A else B := by
  by_cases c : a
  · rw [if_pos c]
    exact h1 (.inl c)
  · rw [if_neg c]
    by_cases d : b
    · rw [if_pos d]
      exact h1 (.inr d)
    · rw [if_neg d]
      exact h2 fun z => z.elim c d
theorem lc_str {z : Str} {g : TG} {tt : TT} {te : TE} {vs : List Nat} {σ : L2.St} {H1 : Hp} {D : Addr} {Qd : Hp → Prop} (Pv : Nat → Hp → Prop) (h0 : Pv 0 (upd H1 D (.lst [])))
    (hs : ∀ i c H, z.cps[i]? = some c → Pv i H → g (.str ⟨#[c]⟩) (wipe σ vs) H fun σ2 H2 => wipe σ2 vs = wipe σ vs ∧ tt σ2 H2 fun b H3 =>
      if b = true then te σ2 H3 fun y H4 => ∃ acc, H4 D = some (.lst acc) ∧ acc.length < sizeLine ∧ Pv (i + 1) (upd H4 D (.lst (acc ++ [y]))) else Pv (i + 1) H3) (hd : ∀ H, Pv z.cps.size H → Qd H) :
    ∃ W : Nat → Nat → Hp → Prop, (∃ m, W 0 m (upd H1 D (.lst []))) ∧ ∀ i m H, W i m H →
      ((Its z).stop i H ∧ Qd H) ∨ ((Its z).go i H ∧ ∃ Nx : Hp → Prop, (∀ H', Nx H' → ∃ m', m' < m ∧ W (i + 1) m' H') ∧ ∀ x H', (Its z).yld i H x H' → g x (wipe σ vs) H' fun σ2 H2 => wipe σ2 vs = wipe σ vs ∧ tt σ2 H2 fun b H3 =>
        if b = true then te σ2 H3 fun y H4 => ∃ acc, H4 D = some (.lst acc) ∧ acc.length < sizeLine ∧ Nx (upd H4 D (.lst (acc ++ [y]))) else Nx H3) := by
  refine ⟨fun i m H => m = z.cps.size - i ∧ i ≤ z.cps.size ∧ Pv i H, ⟨z.cps.size, by simp, Nat.zero_le _, h0⟩, ?_⟩
  rintro i m H ⟨rfl, hi, p⟩
  by_cases hlt : i < z.cps.size
  · refine .inr ⟨hlt, Pv (i + 1), fun H' p' => ⟨z.cps.size - (i + 1), by omega, rfl, hlt, p'⟩, fun x H' y => ?_⟩
    obtain ⟨rfl, c, hc, rfl⟩ := y
    exact hs i c _ hc p
  · have e : i = z.cps.size := by omega
    subst e
    exact .inl ⟨Nat.le_refl _, hd H p⟩
/-! ### plain data, for the law's own comparison -/
inductive J where
  | non
  | bl (b : Bool)
  | int (i : Int)
  | str (z : Str)
  | tup (js : List J)
  | lst (js : List J)
inductive RepJ (H : Hp) : V → J → Nat → Prop where
  | non {n : Nat} : RepJ H .non .non n
  | bl {n : Nat} (b : Bool) : RepJ H (.bl b) (.bl b) n
  | int {n : Nat} (i : Int) : RepJ H (.int i) (.int i) n
  | str {n : Nat} (z : Str) : RepJ H (.str z) (.str z) n
  | tup {n : Nat} {p : Addr} {xs : List V} {js : List J} (h : H p = some (.tup xs)) (z : xs.length ≤ 100000) (l : xs.length = js.length) (k : ∀ (i : Nat) (x : V) (j : J), xs[i]? = some x → js[i]? = some j → RepJ H x j n) : RepJ H (.ref p) (.tup js) (n + 1)
  | lst {n : Nat} {p : Addr} {xs : List V} {js : List J} (h : H p = some (.lst xs)) (z : xs.length ≤ 100000) (l : xs.length = js.length) (k : ∀ (i : Nat) (x : V) (j : J), xs[i]? = some x → js[i]? = some j → RepJ H x j n) : RepJ H (.ref p) (.lst js) (n + 1)
theorem RepJ.same {H H' : Hp} (s : Same H H') {v : V} {j : J} {n : Nat} (h : RepJ H v j n) : RepJ H' v j n := by
  induction h with
  | non => exact .non
  | bl b => exact .bl b
  | int i => exact .int i
  | str z => exact .str z
  | tup h z l _ ih => exact .tup (s _ _ h) z l ih
  | lst h z l _ ih => exact .lst (s _ _ h) z l ih
/-! ### the promises of the draws -/
def spStream (K : PySem.W.Frag) : Sp := fun vs H Q _ => ∃ (s : Addr) (ns : List Int), vs = [.ref s] ∧ SqL K H s (ns.map V.int) ∧ ns.length ≤ 63 ∧ ∀ a H', Same H H' → H a = none → Strm H' a → Q (.ref a) H'
def spNext : Sp := fun vs H Q _ => ∃ (a : Addr) (m : Int), vs = [.ref a, .int m] ∧ Strm H a ∧ 0 < m ∧ m < 1000000 ∧ ∀ d H', 0 ≤ d → d < m → Go a H H' → Q (.int d) H'
def spPick (K : PySem.W.Frag) : Sp := fun vs H Q _ => ∃ (a r : Addr) (xs : List V), vs = [.ref a, .ref r] ∧ Strm H a ∧ SqL K H r xs ∧ r ≠ a ∧ 0 < xs.length ∧ xs.length < 1000 ∧ ∀ v H', v ∈ xs → Go a H H' → Q v H'
theorem Go.seq {K : PySem.W.Frag} {a r : Addr} {H H' : Hp} {xs : List V} (g : Go a H H') (n : r ≠ a) (h : SqL K H r xs) : SqL K H' r xs := by
  rcases h with (h | ⟨o, h⟩) | h
  · exact .inl (.inl (g.keep _ _ h n))
  · exact .inl (.inr ⟨o, g.keep _ _ h n⟩)
  · exact .inr h
end My
namespace My
open PySem PySem.Spec PyProof.Rows L2
/-! ### letters and words -/
def isLet (z : Str) : Bool := match z.cps.toList with | [c] => decide (97 ≤ c) && decide (c ≤ 100) | _ => false
abbrev sJoin : Str := "join"
abbrev sOr : Str := "or"
abbrev sMaybe : Str := "maybe"
abbrev sMany : Str := "many"
abbrev sNo : Str := ""
theorem jo : ¬ sJoin = sOr := by decide +kernel
theorem jm : ¬ sJoin = sMaybe := by decide +kernel
theorem jn : ¬ sJoin = sMany := by decide +kernel
theorem je : ¬ sJoin = sNo := by decide +kernel
theorem om : ¬ sOr = sMaybe := by decide +kernel
theorem on : ¬ sOr = sMany := by decide +kernel
theorem oe : ¬ sOr = sNo := by decide +kernel
theorem mn : ¬ sMaybe = sMany := by decide +kernel
theorem lJ : sJoin.length = 4 := by decide +kernel
theorem lO : sOr.length = 2 := by decide +kernel
theorem lM : sMaybe.length = 5 := by decide +kernel
theorem lN : sMany.length = 4 := by decide +kernel
theorem lE : sNo.length = 0 := by decide +kernel
/-! ### the parts directly in a datum -/
def begins (w : Str) : D → Bool
  | .tup (.str x :: _) => decide (x = w)
  | _ => false
def rowOk (w : Str) : D → Bool
  | .tup ys => decide (2 ≤ ys.length) && !(ys.any (begins w))
  | _ => false
def rowItems : D → Option (List D)
  | .tup ys => some ys
  | _ => none
def innerPair (w : Str) (y : D) : Option (List D) := if w = sMaybe ∨ w = sMany then some [y] else if (w = sJoin ∨ w = sOr) ∧ rowOk w y = true then rowItems y else none
def inner : D → Option (List D)
  | .str z => if z = sNo ∨ isLet z = true then some [] else none
  | .tup [.str w, y] => innerPair w y
  | _ => none
theorem inner_pair (w : Str) (y : D) : inner (.tup [.str w, y]) = innerPair w y := rfl
/-- a part of a row does not begin with an object -/
def notObj : D → Bool
  | .tup _ => false
  | .lst => false
  | _ => true
def headFlat : D → Bool
  | .tup (x :: _) => notObj x
  | _ => true
def rowFlat : D → Bool
  | .tup ys => ys.all headFlat
  | _ => true
/-- what the looks at a datum ask: items of a row of parts begin flat -/
inductive Fl : D → Prop where
  | str (z : Str) : Fl (.str z)
  | tup {ds : List D} (h : ∀ w y, ds = [.str w, y] → w = sJoin ∨ w = sOr → rowFlat y = true) (k : ∀ d ∈ ds, Fl d) : Fl (.tup ds)
  | lst : Fl .lst
  | flat : Fl .flat
/-! ### sizes, for the loop's measure -/
def D.size : D → Nat
  | .str _ => 1
  | .tup ds => 1 + sizes ds
  | .lst => 1
  | .flat => 1
where sizes : List D → Nat
  | [] => 0
  | d :: ds => d.size + sizes ds
def places1 : D → Nat
  | .str z => z.length
  | _ => 0
abbrev Bnd := Nat × Nat × Nat
def within (b a : Bnd) : Bool := decide (a.1 ≤ b.1) && decide (a.2.1 ≤ b.2.1) && decide (a.2.2 ≤ b.2.2)
/-- the loop: n turns at most; the stack's last is looked at first -/
def look (b : Bnd) : Nat → List (D × Nat) → Bnd → Option Bnd
  | 0, _, _ => none
  | _ + 1, [], a => some a
  | n + 1, (d, k) :: st, a => match inner d with
    | none => none
    | some ys =>
      if within b (a.1 + places1 d, max a.2.1 k, a.2.2 + ys.length) = true then look b n ((ys.map fun y => (y, k + 1)).reverse ++ st) (a.1 + places1 d, max a.2.1 k, a.2.2 + ys.length) else none
def msr (st : List (D × Nat)) : Nat := (st.map fun p => p.1.size).sum
theorem sizes_eq (ds : List D) : D.size.sizes ds = (ds.map D.size).sum := by
  induction ds with
  | nil => rfl
  | cons d ds ih => rw [D.size.sizes, ih, List.map_cons, List.sum_cons]
theorem size_pos (d : D) : 0 < d.size := by
  cases d <;> (unfold D.size; omega)
theorem inner_size {d : D} {ys : List D} (h : inner d = some ys) : (ys.map D.size).sum < d.size := by
  unfold inner at h
  split at h
  · split at h
    · cases h
      exact size_pos _
    · cases h
  · rename_i w y
    unfold innerPair at h
    split at h
    · cases h
      simp only [D.size, D.size.sizes, List.map_cons, List.map_nil, List.sum_cons, List.sum_nil]
      omega
    · split at h
      · cases y with
        | tup zs =>
          cases h
          simp only [D.size, D.size.sizes, sizes_eq]
          omega
        | str z => cases h
        | lst => cases h
        | flat => cases h
      · cases h
  · cases h
theorem msr_step {d : D} {k : Nat} {st : List (D × Nat)} {ys : List D} (h : inner d = some ys) : msr ((ys.map fun y => (y, k + 1)).reverse ++ st) < msr ((d, k) :: st) := by
  unfold msr
  rw [List.map_append, List.sum_append, List.map_reverse, List.sum_reverse, List.map_map, List.map_cons, List.sum_cons]
  have e : ((fun p : D × Nat => p.1.size) ∘ fun y => (y, k + 1)) = D.size := rfl
  rw [e]
  have := inner_size h
  show _ < d.size + _
  omega

/-! ### expressions -/
inductive E where
  | eps
  | sym (c : Nat)
  | maybe (e : E)
  | many (e : E)
  | join (es : List E)
  | alt (es : List E)
def E.toD : E → D
  | .eps => .str sNo
  | .sym c => .str ⟨#[c]⟩
  | .maybe e => .tup [.str sMaybe, e.toD]
  | .many e => .tup [.str sMany, e.toD]
  | .join es => .tup [.str sJoin, .tup (toDs es)]
  | .alt es => .tup [.str sOr, .tup (toDs es)]
where toDs : List E → List D
  | [] => []
  | e :: es => e.toD :: toDs es
theorem toDs_eq (es : List E) : E.toD.toDs es = es.map E.toD := by
  induction es with
  | nil => rfl
  | cons e es ih => rw [E.toD.toDs, ih, List.map_cons]
def isJoin : E → Bool | .join _ => true | _ => false
def isAlt : E → Bool | .alt _ => true | _ => false
def E.ok : E → Bool
  | .eps => true
  | .sym c => decide (97 ≤ c) && decide (c ≤ 100)
  | .maybe e => e.ok
  | .many e => e.ok
  | .join es => decide (2 ≤ es.length) && oks es && !(es.any isJoin)
  | .alt es => decide (2 ≤ es.length) && oks es && !(es.any isAlt)
where oks : List E → Bool
  | [] => true
  | e :: es => e.ok && oks es
theorem oks_eq (es : List E) : E.ok.oks es = es.all E.ok := by
  induction es with
  | nil => rfl
  | cons e es ih => rw [E.ok.oks, ih, List.all_cons]
def E.places : E → Nat
  | .eps => 0
  | .sym _ => 1
  | .maybe e => e.places
  | .many e => e.places
  | .join es => placess es
  | .alt es => placess es
where placess : List E → Nat
  | [] => 0
  | e :: es => e.places + placess es
def E.depth : E → Nat
  | .eps => 0
  | .sym _ => 0
  | .maybe e => e.depth + 1
  | .many e => e.depth + 1
  | .join es => depths es + 1
  | .alt es => depths es + 1
where depths : List E → Nat
  | [] => 0
  | e :: es => max e.depth (depths es)
def E.parts : E → Nat
  | .eps => 1
  | .sym _ => 1
  | .maybe e => e.parts + 1
  | .many e => e.parts + 1
  | .join es => partss es + 1
  | .alt es => partss es + 1
where partss : List E → Nat
  | [] => 0
  | e :: es => e.parts + partss es
theorem placess_eq (es : List E) : E.places.placess es = (es.map E.places).sum := by
  induction es with
  | nil => rfl
  | cons e es ih => rw [E.places.placess, ih, List.map_cons, List.sum_cons]
theorem partss_eq (es : List E) : E.parts.partss es = (es.map E.parts).sum := by
  induction es with
  | nil => rfl
  | cons e es ih => rw [E.parts.partss, ih, List.map_cons, List.sum_cons]
theorem depths_le {es : List E} {n : Nat} (h : ∀ e ∈ es, e.depth ≤ n) : E.depth.depths es ≤ n := by
  induction es with
  | nil => exact Nat.zero_le _
  | cons e es ih =>
    rw [E.depth.depths]
    exact Nat.max_le.mpr ⟨h e (List.mem_cons_self ..), ih fun x hx => h x (List.mem_cons_of_mem _ hx)⟩
/-- the expressions directly in one -/
def E.kids : E → List E
  | .eps => []
  | .sym _ => []
  | .maybe e => [e]
  | .many e => [e]
  | .join es => es
  | .alt es => es
def E.own : E → Nat
  | .sym _ => 1
  | _ => 0
theorem parts_kids (e : E) : e.parts = (e.kids.map E.parts).sum + 1 := by
  cases e <;> simp [E.parts, E.kids, partss_eq]
theorem places_kids (e : E) : e.places = e.own + (e.kids.map E.places).sum := by
  cases e <;> simp [E.places, E.kids, E.own, placess_eq]
theorem ok_kids {e : E} (h : e.ok = true) : ∀ k ∈ e.kids, k.ok = true := by
  intro k hk
  cases e with
  | eps => cases hk
  | sym c => cases hk
  | maybe e => rw [E.kids, List.mem_singleton] at hk; subst hk; rw [E.ok] at h; exact h
  | many e => rw [E.kids, List.mem_singleton] at hk; subst hk; rw [E.ok] at h; exact h
  | join es =>
    rw [E.ok, oks_eq] at h
    simp only [Bool.and_eq_true, List.all_eq_true] at h
    exact h.1.2 k hk
  | alt es =>
    rw [E.ok, oks_eq] at h
    simp only [Bool.and_eq_true, List.all_eq_true] at h
    exact h.1.2 k hk
theorem begins_tup (w x : Str) (ys : List D) : begins w (.tup (.str x :: ys)) = decide (x = w) := rfl
theorem begins_join (e : E) : begins sJoin e.toD = isJoin e := by
  cases e with
  | eps => rfl
  | sym c => rfl
  | maybe e => rw [E.toD, begins_tup]; exact decide_eq_false (fun h => jm h.symm)
  | many e => rw [E.toD, begins_tup]; exact decide_eq_false (fun h => jn h.symm)
  | join es => rw [E.toD, begins_tup]; exact decide_eq_true rfl
  | alt es => rw [E.toD, begins_tup]; exact decide_eq_false (fun h => jo h.symm)
theorem begins_or (e : E) : begins sOr e.toD = isAlt e := by
  cases e with
  | eps => rfl
  | sym c => rfl
  | maybe e => rw [E.toD, begins_tup]; exact decide_eq_false (fun h => om h.symm)
  | many e => rw [E.toD, begins_tup]; exact decide_eq_false (fun h => on h.symm)
  | join es => rw [E.toD, begins_tup]; exact decide_eq_false (fun h => jo h)
  | alt es => rw [E.toD, begins_tup]; exact decide_eq_true rfl
theorem rowOk_tup (w : Str) (ys : List D) : rowOk w (.tup ys) = (decide (2 ≤ ys.length) && !(ys.any (begins w))) := rfl
theorem inner_toD {e : E} (h : e.ok = true) : inner e.toD = some (e.kids.map E.toD) := by
  cases e with
  | eps => rw [E.toD, inner, if_pos (.inl rfl)]; rfl
  | sym c =>
    have q : isLet ⟨#[c]⟩ = true := by
      rw [E.ok] at h
      exact h
    rw [E.toD, inner, if_pos (.inr q)]; rfl
  | maybe e => rw [E.toD, inner_pair, innerPair, if_pos (.inl rfl)]; rfl
  | many e => rw [E.toD, inner_pair, innerPair, if_pos (.inr rfl)]; rfl
  | join es =>
    rw [E.ok, oks_eq] at h
    simp only [Bool.and_eq_true, decide_eq_true_eq] at h
    have r : rowOk sJoin (.tup (E.toD.toDs es)) = true := by
      rw [rowOk_tup, toDs_eq, List.length_map, List.any_map]
      have z : (begins sJoin ∘ E.toD) = isJoin := funext begins_join
      rw [z, h.2, Bool.and_true]
      exact decide_eq_true h.1.1
    rw [E.toD, inner_pair, innerPair, if_neg (fun z => z.elim jm jn), if_pos ⟨.inl rfl, r⟩, toDs_eq]; rfl
  | alt es =>
    rw [E.ok, oks_eq] at h
    simp only [Bool.and_eq_true, decide_eq_true_eq] at h
    have r : rowOk sOr (.tup (E.toD.toDs es)) = true := by
      rw [rowOk_tup, toDs_eq, List.length_map, List.any_map]
      have z : (begins sOr ∘ E.toD) = isAlt := funext begins_or
      rw [z, h.2, Bool.and_true]
      exact decide_eq_true h.1.1
    rw [E.toD, inner_pair, innerPair, if_neg (fun z => z.elim om on), if_pos ⟨.inr rfl, r⟩, toDs_eq]; rfl
theorem places1_toD (e : E) : places1 e.toD = e.own := by
  cases e <;> rw [E.toD] <;> first | rfl | exact lE
theorem depth_kids (e : E) : ∀ k ∈ e.kids, k.depth + 1 ≤ e.depth := by
  have a : ∀ (es : List E), ∀ k ∈ es, k.depth ≤ E.depth.depths es := by
    intro es
    induction es with
    | nil => intro k h; cases h
    | cons e es ih =>
      intro k h
      rw [E.depth.depths]
      rcases List.mem_cons.mp h with rfl | h
      · exact Nat.le_max_left _ _
      · exact Nat.le_trans (ih k h) (Nat.le_max_right _ _)
  intro k hk
  cases e with
  | eps => cases hk
  | sym c => cases hk
  | maybe e => rw [E.kids, List.mem_singleton] at hk; subst hk; rw [E.depth]; omega
  | many e => rw [E.kids, List.mem_singleton] at hk; subst hk; rw [E.depth]; omega
  | join es => have := a es k hk; rw [E.depth]; omega
  | alt es => have := a es k hk; rw [E.depth]; omega
theorem depth_by {e : E} {n : Nat} (h : ∀ k ∈ e.kids, k.depth + 1 ≤ n) : e.depth ≤ n ∨ (e.kids = [] ∧ e.depth = 0) ∨ e.depth = 1 := by
  cases e with
  | eps => exact .inr (.inl ⟨rfl, rfl⟩)
  | sym c => exact .inr (.inl ⟨rfl, rfl⟩)
  | maybe e => exact .inl (h e (List.mem_singleton.mpr rfl))
  | many e => exact .inl (h e (List.mem_singleton.mpr rfl))
  | join es =>
    cases es with
    | nil => exact .inr (.inr rfl)
    | cons x r =>
      refine .inl ?_
      rw [E.depth]
      cases n with
      | zero => have := h x (List.mem_cons_self ..); omega
      | succ n => exact Nat.succ_le_succ (depths_le fun k hk => Nat.le_of_succ_le_succ (h k hk))
  | alt es =>
    cases es with
    | nil => exact .inr (.inr rfl)
    | cons x r =>
      refine .inl ?_
      rw [E.depth]
      cases n with
      | zero => have := h x (List.mem_cons_self ..); omega
      | succ n => exact Nat.succ_le_succ (depths_le fun k hk => Nat.le_of_succ_le_succ (h k hk))
/-! ### what the look gives -/
abbrev Stk := List (E × Nat)
def sD (st : Stk) : List (D × Nat) := st.map fun p => (p.1.toD, p.2)
/-- the greatest depth on the stack, from m on -/
def deepE (st : Stk) (m : Nat) : Nat := st.foldr (fun p m => max (p.2 + p.1.depth) m) m
def totE (st : Stk) (a : Bnd) : Bnd := (a.1 + (st.map fun p => p.1.places).sum, deepE st a.2.1, a.2.2 + (st.map fun p => p.1.parts - 1).sum)
theorem deepE_app (s t : Stk) (m : Nat) : deepE (s ++ t) m = deepE s (deepE t m) := by
  unfold deepE
  rw [List.foldr_append]
theorem deepE_max (s : Stk) (m : Nat) : m ≤ deepE s m := by
  induction s with
  | nil => exact Nat.le_refl _
  | cons p s ih => exact Nat.le_trans ih (Nat.le_max_right _ _)
theorem deepE_le {s : Stk} {m n : Nat} : deepE s m ≤ n ↔ m ≤ n ∧ ∀ p ∈ s, p.2 + p.1.depth ≤ n := by
  induction s with
  | nil => exact ⟨fun h => ⟨h, fun p hp => by cases hp⟩, fun h => h.1⟩
  | cons p s ih =>
    show max (p.2 + p.1.depth) (deepE s m) ≤ n ↔ _
    rw [Nat.max_le, ih]
    constructor
    · rintro ⟨h1, h2, h3⟩
      refine ⟨h2, fun q hq => ?_⟩
      rcases List.mem_cons.mp hq with rfl | hq
      · exact h1
      · exact h3 q hq
    · rintro ⟨h1, h2⟩
      exact ⟨h2 p (List.mem_cons_self ..), h1, fun q hq => h2 q (List.mem_cons_of_mem _ hq)⟩
theorem within_iff {b a : Bnd} : within b a = true ↔ a.1 ≤ b.1 ∧ a.2.1 ≤ b.2.1 ∧ a.2.2 ≤ b.2.2 := by
  unfold within
  simp only [Bool.and_eq_true, decide_eq_true_eq, and_assoc]
theorem depth_parts (e : E) (k : Nat) (n : Nat) (h0 : k ≤ n) (h : ∀ q ∈ e.kids, k + 1 + q.depth ≤ n) (hk : e.kids = [] → e.depth = 0) : k + e.depth ≤ n := by
  rcases depth_by (e := e) (n := n - k) (fun q hq => by have := h q hq; omega) with a | ⟨_, a⟩ | a
  · omega
  · omega
  · cases e with
    | eps => have : E.depth E.eps = 0 := rfl; omega
    | sym c => have : E.depth (E.sym c) = 0 := rfl; omega
    | maybe e => have := h e (List.mem_singleton.mpr rfl); omega
    | many e => have := h e (List.mem_singleton.mpr rfl); omega
    | join es =>
      cases es with
      | nil => have := hk rfl; omega
      | cons x r => have := h x (List.mem_cons_self ..); omega
    | alt es =>
      cases es with
      | nil => have := hk rfl; omega
      | cons x r => have := h x (List.mem_cons_self ..); omega
theorem kids_nil {e : E} (h : e.ok = true) (k : e.kids = []) : e.depth = 0 := by
  cases e with
  | eps => rfl
  | sym c => rfl
  | maybe e => cases k
  | many e => cases k
  | join es =>
    rw [E.kids] at k
    subst k
    cases h
  | alt es =>
    rw [E.kids] at k
    subst k
    cases h
theorem parts_pos (e : E) : 1 ≤ e.parts := by
  rw [parts_kids]
  omega
theorem sum_pred (es : List E) : (es.map fun e => e.parts - 1).sum + es.length = (es.map E.parts).sum := by
  induction es with
  | nil => rfl
  | cons e es ih =>
    have := parts_pos e
    simp only [List.map_cons, List.sum_cons, List.length_cons]
    omega
/-- one look at an expression -/
theorem tot_step {b : Bnd} {e : E} {k : Nat} {st : Stk} {a : Bnd} (h : e.ok = true) :
    totE ((e.kids.map fun y => (y, k + 1)).reverse ++ st) (a.1 + e.own, max a.2.1 k, a.2.2 + e.kids.length) = totE ((e, k) :: st) a := by
  have hp := places_kids e
  have hq := parts_kids e
  have hs := sum_pred e.kids
  unfold totE
  refine Prod.ext ?_ (Prod.ext ?_ ?_)
  · show a.1 + e.own + _ = a.1 + _
    rw [List.map_append, List.sum_append, List.map_reverse, List.sum_reverse, List.map_map, List.map_cons, List.sum_cons]
    show a.1 + e.own + ((e.kids.map E.places).sum + _) = a.1 + (e.places + _)
    omega
  · show deepE _ (max a.2.1 k) = deepE ((e, k) :: st) a.2.1
    refine Nat.le_antisymm (deepE_le.mpr ⟨?_, ?_⟩) (deepE_le.mpr ⟨?_, ?_⟩)
    · refine Nat.max_le.mpr ⟨deepE_max _ _, ?_⟩
      exact Nat.le_trans (Nat.le_add_right _ _) ((deepE_le.mp (Nat.le_refl _)).2 (e, k) (List.mem_cons_self ..))
    · intro p hp
      rcases List.mem_append.mp hp with hp | hp
      · rw [List.mem_reverse, List.mem_map] at hp
        obtain ⟨y, hy, rfl⟩ := hp
        have := depth_kids e y hy
        have q := (deepE_le.mp (Nat.le_refl (deepE ((e, k) :: st) a.2.1))).2 (e, k) (List.mem_cons_self ..)
        show k + 1 + y.depth ≤ _
        have q' : k + e.depth ≤ deepE ((e, k) :: st) a.2.1 := q
        omega
      · exact (deepE_le.mp (Nat.le_refl (deepE ((e, k) :: st) a.2.1))).2 p (List.mem_cons_of_mem _ hp)
    · exact Nat.le_trans (Nat.le_max_left _ _) (deepE_max _ _)
    · intro p hp
      have L := (deepE_le.mp (Nat.le_refl (deepE ((e.kids.map fun y => (y, k + 1)).reverse ++ st) (max a.2.1 k))))
      rcases List.mem_cons.mp hp with rfl | hp
      · refine depth_parts e k _ (Nat.le_trans (Nat.le_max_right _ _) L.1) (fun q hq => ?_) (kids_nil h)
        exact L.2 (q, k + 1) (List.mem_append_left _ (List.mem_reverse.mpr (List.mem_map.mpr ⟨q, hq, rfl⟩)))
      · exact L.2 p (List.mem_append_right _ hp)
  · show a.2.2 + e.kids.length + _ = a.2.2 + _
    rw [List.map_append, List.sum_append, List.map_reverse, List.sum_reverse, List.map_map, List.map_cons, List.sum_cons]
    show a.2.2 + e.kids.length + ((e.kids.map fun e => e.parts - 1).sum + _) = a.2.2 + ((e.parts - 1) + _)
    omega
theorem tot_ge (st : Stk) (a : Bnd) : a.1 ≤ (totE st a).1 ∧ a.2.1 ≤ (totE st a).2.1 ∧ a.2.2 ≤ (totE st a).2.2 := ⟨Nat.le_add_right _ _, deepE_max _ _, Nat.le_add_right _ _⟩
theorem sD_step (e : E) (k : Nat) (st : Stk) : ((e.kids.map E.toD).map fun y => (y, k + 1)).reverse ++ sD st = sD ((e.kids.map fun y => (y, k + 1)).reverse ++ st) := by
  unfold sD
  rw [List.map_append, List.map_reverse, List.map_map, List.map_map]
  rfl
theorem look_ok {b : Bnd} : ∀ (n : Nat) (st : Stk) (a : Bnd), msr (sD st) < n → (∀ p ∈ st, p.1.ok = true) → within b a = true → look b n (sD st) a = if within b (totE st a) = true then some (totE st a) else none
  | 0, st, a, h, _, _ => absurd h (Nat.not_lt_zero _)
  | n + 1, [], a, _, _, hw => by
    have e : totE [] a = a := rfl
    rw [e, if_pos hw]
    rfl
  | n + 1, (e, k) :: st, a, hm, ho, hw => by
    have h := ho (e, k) (List.mem_cons_self ..)
    have hi := inner_toD h
    show (match inner e.toD with | none => none | some ys => if within b (a.1 + places1 e.toD, max a.2.1 k, a.2.2 + ys.length) = true then look b n ((ys.map fun y => (y, k + 1)).reverse ++ sD st) (a.1 + places1 e.toD, max a.2.1 k, a.2.2 + ys.length) else none) = _
    rw [hi]
    show (if within b (a.1 + places1 e.toD, max a.2.1 k, a.2.2 + (e.kids.map E.toD).length) = true then look b n (((e.kids.map E.toD).map fun y => (y, k + 1)).reverse ++ sD st) (a.1 + places1 e.toD, max a.2.1 k, a.2.2 + (e.kids.map E.toD).length) else none) = _
    rw [places1_toD, List.length_map, sD_step]
    have ts := tot_step (b := b) (k := k) (st := st) (a := a) h
    by_cases c : within b (a.1 + e.own, max a.2.1 k, a.2.2 + e.kids.length) = true
    · have m1 : msr (sD ((e.kids.map fun y => (y, k + 1)).reverse ++ st)) < n := by
        have := msr_step (k := k) (st := sD st) hi
        rw [sD_step] at this
        have hm' : msr ((e.toD, k) :: sD st) < n + 1 := hm
        exact Nat.lt_of_lt_of_le this (Nat.le_of_lt_succ hm')
      rw [if_pos c, look_ok n _ _ m1 (fun p hp => ?_) c, ts]
      rcases List.mem_append.mp hp with hp | hp
      · rw [List.mem_reverse, List.mem_map] at hp
        obtain ⟨y, hy, rfl⟩ := hp
        exact ok_kids h y hy
      · exact ho p (List.mem_cons_of_mem _ hp)
    · rw [if_neg c, if_neg]
      intro z
      rw [← ts] at z
      apply c
      have g := tot_ge ((e.kids.map fun y => (y, k + 1)).reverse ++ st) (a.1 + e.own, max a.2.1 k, a.2.2 + e.kids.length)
      rw [within_iff] at z ⊢
      exact ⟨Nat.le_trans g.1 z.1, Nat.le_trans g.2.1 z.2.1, Nat.le_trans g.2.2 z.2.2⟩
/-- something wrong within -/
inductive Bad : D → Prop where
  | here {d : D} (h : inner d = none) : Bad d
  | inn {d y : D} {ys : List D} (h : inner d = some ys) (m : y ∈ ys) (b : Bad y) : Bad d
theorem look_bad {b : Bnd} : ∀ (n : Nat) (st : List (D × Nat)) (a : Bnd), (∃ p ∈ st, Bad p.1) → look b n st a = none
  | 0, _, _, _ => rfl
  | n + 1, [], _, h => by
    obtain ⟨p, hp, _⟩ := h
    cases hp
  | n + 1, (d, k) :: st, a, h => by
    show (match inner d with | none => none | some ys => if within b (a.1 + places1 d, max a.2.1 k, a.2.2 + ys.length) = true then look b n ((ys.map fun y => (y, k + 1)).reverse ++ st) (a.1 + places1 d, max a.2.1 k, a.2.2 + ys.length) else none) = none
    cases hi : inner d with
    | none => rfl
    | some ys =>
      show (if within b (a.1 + places1 d, max a.2.1 k, a.2.2 + ys.length) = true then look b n ((ys.map fun y => (y, k + 1)).reverse ++ st) (a.1 + places1 d, max a.2.1 k, a.2.2 + ys.length) else none) = none
      split
      · refine look_bad n _ _ ?_
        obtain ⟨p, hp, hb⟩ := h
        rcases List.mem_cons.mp hp with rfl | hp
        · cases hb with
          | here z => rw [z] at hi; cases hi
          | inn z m hb =>
            rw [z] at hi
            cases hi
            exact ⟨(_, k + 1), List.mem_append_left _ (List.mem_reverse.mpr (List.mem_map.mpr ⟨_, m, rfl⟩)), hb⟩
        · exact ⟨p, List.mem_append_right _ hp, hb⟩
      · rfl
/-- what sizes_within gives of a datum -/
def sizesOf (b : Bnd) (d : D) : Option Bnd := look b (d.size + 1) [(d, 0)] (0, 0, 1)
theorem sizes_ok {b : Bnd} {e : E} (h : e.ok = true) (hb : 1 ≤ b.2.2) : sizesOf b e.toD = if within b (e.places, e.depth, e.parts) = true then some (e.places, e.depth, e.parts) else none := by
  have q := look_ok (b := b) (e.toD.size + 1) [(e, 0)] (0, 0, 1) (by show msr [(e.toD, 0)] < _; unfold msr; simp) (fun p hp => by rw [List.mem_singleton] at hp; subst hp; exact h) (within_iff.mpr ⟨Nat.zero_le _, Nat.zero_le _, hb⟩)
  have t : totE [(e, 0)] (0, 0, 1) = (e.places, e.depth, e.parts) := by
    have := parts_pos e
    refine Prod.ext ?_ (Prod.ext ?_ ?_)
    · show 0 + (e.places + 0) = e.places
      omega
    · show max (0 + e.depth) 0 = e.depth
      omega
    · show 1 + (e.parts - 1 + 0) = e.parts
      omega
  rw [t] at q
  exact q
theorem sizes_bad {b : Bnd} {d : D} (h : Bad d) : sizesOf b d = none := look_bad _ _ _ ⟨(d, 0), List.mem_singleton.mpr rfl, h⟩
theorem headFlat_toD (e : E) : headFlat e.toD = true := by
  cases e <;> rw [E.toD] <;> rfl
theorem rowFlat_toDs (es : List E) : rowFlat (.tup (E.toD.toDs es)) = true := by
  rw [toDs_eq]
  show (es.map E.toD).all headFlat = true
  rw [List.all_eq_true]
  intro d hd
  rw [List.mem_map] at hd
  obtain ⟨e, _, rfl⟩ := hd
  exact headFlat_toD e
theorem fl_pair {w : Str} {y : D} (h : w = sJoin ∨ w = sOr → rowFlat y = true) (k : Fl y) : Fl (.tup [.str w, y]) := by
  refine .tup (fun w' y' e => ?_) fun d hd => ?_
  · cases e
    exact h
  · rcases List.mem_cons.mp hd with rfl | hd
    · exact .str _
    · rw [List.mem_singleton] at hd
      subst hd
      exact k
theorem toD_str {e : E} {w : Str} (h : e.toD = .str w) : ¬ (w = sJoin ∨ w = sOr) := by
  cases e with
  | eps =>
    rw [E.toD] at h
    cases h
    rintro (h | h)
    · exact je h.symm
    · exact oe h.symm
  | sym c =>
    rw [E.toD] at h
    cases h
    rintro (h | h)
    · have := congrArg Str.length h
      rw [lJ] at this
      cases this
    · have := congrArg Str.length h
      rw [lO] at this
      cases this
  | maybe e => rw [E.toD] at h; cases h
  | many e => rw [E.toD] at h; cases h
  | join es => rw [E.toD] at h; cases h
  | alt es => rw [E.toD] at h; cases h
mutual
theorem fl_toD : ∀ e : E, Fl e.toD
  | .eps => .str _
  | .sym c => .str _
  | .maybe e => by
    rw [E.toD]
    exact fl_pair (fun h => (h.elim (fun h => jm h.symm) fun h => om h.symm).elim) (fl_toD e)
  | .many e => by
    rw [E.toD]
    exact fl_pair (fun h => (h.elim (fun h => jn h.symm) fun h => on h.symm).elim) (fl_toD e)
  | .join es => by
    rw [E.toD]
    exact fl_pair (fun _ => rowFlat_toDs es) (fl_toDs es)
  | .alt es => by
    rw [E.toD]
    exact fl_pair (fun _ => rowFlat_toDs es) (fl_toDs es)
theorem fl_toDs : ∀ es : List E, Fl (.tup (E.toD.toDs es))
  | [] => .tup (fun w y h => by cases h) fun d hd => by cases hd
  | e :: es => by
    have h := fl_toDs es
    have h0 := fl_toD e
    refine .tup (fun w y z hw => ?_) fun d hd => ?_
    · rw [E.toD.toDs] at z
      have z1 : e.toD = .str w := (List.cons.inj z).1
      exact absurd hw (toD_str z1)
    · rw [E.toD.toDs] at hd
      rcases List.mem_cons.mp hd with rfl | hd
      · exact h0
      · cases h with
        | tup _ k => exact k d hd
end
end My
namespace My
open PySem PySem.Spec PyProof.Rows L2
/-! ### least and greatest lengths -/
def minL : List Nat → Nat
  | [] => 0
  | [a] => a
  | a :: b :: r => min a (minL (b :: r))
def maxL : List Nat → Nat
  | [] => 0
  | a :: r => max a (maxL r)
def allO : List (Option Nat) → Option (List Nat)
  | [] => some []
  | none :: _ => none
  | some a :: r => (allO r).map (a :: ·)
def E.least : E → Nat
  | .eps => 0
  | .sym _ => 1
  | .maybe _ => 0
  | .many _ => 0
  | .join es => (leastl es).sum
  | .alt es => minL (leastl es)
where leastl : List E → List Nat
  | [] => []
  | e :: es => e.least :: leastl es
def E.greatest : E → Option Nat
  | .eps => some 0
  | .sym _ => some 1
  | .maybe e => e.greatest
  | .many e => if e.greatest = some 0 then some 0 else none
  | .join es => (allO (greatl es)).map List.sum
  | .alt es => (allO (greatl es)).map maxL
where greatl : List E → List (Option Nat)
  | [] => []
  | e :: es => e.greatest :: greatl es
def E.pos : E → Bool
  | .eps => false
  | .sym _ => true
  | .maybe e => e.pos
  | .many e => e.pos
  | .join es => poss es
  | .alt es => poss es
where poss : List E → Bool
  | [] => false
  | e :: es => e.pos || poss es
def E.grows : E → Bool
  | .eps => false
  | .sym _ => false
  | .maybe e => e.grows
  | .many e => e.pos || e.grows
  | .join es => growss es
  | .alt es => growss es
where growss : List E → Bool
  | [] => false
  | e :: es => e.grows || growss es
theorem leastl_eq (es : List E) : E.least.leastl es = es.map E.least := by
  induction es with
  | nil => rfl
  | cons e es ih => rw [E.least.leastl, ih, List.map_cons]
theorem greatl_eq (es : List E) : E.greatest.greatl es = es.map E.greatest := by
  induction es with
  | nil => rfl
  | cons e es ih => rw [E.greatest.greatl, ih, List.map_cons]
theorem poss_eq (es : List E) : E.pos.poss es = es.any E.pos := by
  induction es with
  | nil => rfl
  | cons e es ih => rw [E.pos.poss, ih, List.any_cons]
theorem growss_eq (es : List E) : E.grows.growss es = es.any E.grows := by
  induction es with
  | nil => rfl
  | cons e es ih => rw [E.grows.growss, ih, List.any_cons]
/-! ### what the numbers of an expression are like -/
structure NumP (lo pl : Nat) (gt : Option Nat) (po gw : Bool) (ns : List Int) : Prop where
  rng : ∀ x ∈ ns, 0 ≤ x ∧ x ≤ 40
  low : (lo : Int) ∈ ns
  min : ∀ x ∈ ns, (lo : Int) ≤ x
  lp : lo ≤ pl
  top : gw = false → ∃ g : Nat, gt = some g ∧ g ≤ pl ∧ (g : Int) ∈ ns ∧ ∀ x ∈ ns, x ≤ g
  grow : gw = true → gt = none ∧ ∃ x ∈ ns, 20 < x ∧ x ≤ 20 + (pl : Int)
  posY : po = true → ∃ x ∈ ns, 0 < x ∧ x ≤ (pl : Int)
  posN : po = false → ∀ x ∈ ns, x = 0
def addO : Option Nat → Option Nat → Option Nat
  | some a, some b => some (a + b)
  | _, _ => none
def maxO : Option Nat → Option Nat → Option Nat
  | some a, some b => some (max a b)
  | _, _ => none
theorem num_zero : NumP 0 0 (some 0) false false [0] where
  rng x h := by rw [List.mem_singleton] at h; omega
  low := List.mem_singleton.mpr rfl
  min x h := by rw [List.mem_singleton] at h; omega
  lp := Nat.le_refl 0
  top _ := ⟨0, rfl, Nat.le_refl 0, List.mem_singleton.mpr rfl, fun x h => by rw [List.mem_singleton] at h; omega⟩
  grow h := by cases h
  posY h := by cases h
  posN _ x h := List.mem_singleton.mp h
theorem num_one : NumP 1 1 (some 1) true false [1] where
  rng x h := by rw [List.mem_singleton] at h; omega
  low := List.mem_singleton.mpr rfl
  min x h := by rw [List.mem_singleton] at h; omega
  lp := Nat.le_refl 1
  top _ := ⟨1, rfl, Nat.le_refl 1, List.mem_singleton.mpr rfl, fun x h => by rw [List.mem_singleton] at h; omega⟩
  grow h := by cases h
  posY _ := ⟨1, List.mem_singleton.mpr rfl, by decide, by decide⟩
  posN h := by cases h
theorem num_sums {lo pl lo' pl' : Nat} {gt gt' : Option Nat} {po gw po' gw' : Bool} {xs ys zs : List Int} (h : NumP lo pl gt po gw xs) (h' : NumP lo' pl' gt' po' gw' ys) (hp : pl + pl' ≤ 20)
    (hz : ∀ x, x ∈ zs ↔ ∃ a ∈ xs, ∃ b ∈ ys, a + b ≤ 40 ∧ x = a + b) : NumP (lo + lo') (pl + pl') (addO gt gt') (po || po') (gw || gw') zs where
  rng x hx := by
    obtain ⟨a, ha, b, hb, h1, rfl⟩ := (hz x).mp hx
    have := h.rng a ha
    have := h'.rng b hb
    omega
  low := (hz _).mpr ⟨_, h.low, _, h'.low, by have := h.lp; have := h'.lp; omega, by omega⟩
  min x hx := by
    obtain ⟨a, ha, b, hb, h1, rfl⟩ := (hz x).mp hx
    have := h.min a ha
    have := h'.min b hb
    omega
  lp := Nat.add_le_add h.lp h'.lp
  top hg := by
    rw [Bool.or_eq_false_iff] at hg
    obtain ⟨g, e1, e2, e3, e4⟩ := h.top hg.1
    obtain ⟨g', f1, f2, f3, f4⟩ := h'.top hg.2
    refine ⟨g + g', by rw [e1, f1]; rfl, by omega, (hz _).mpr ⟨_, e3, _, f3, by omega, by omega⟩, fun x hx => ?_⟩
    obtain ⟨a, ha, b, hb, h1, rfl⟩ := (hz x).mp hx
    have := e4 a ha
    have := f4 b hb
    omega
  grow hg := by
    have l1 := h.lp
    have l2 := h'.lp
    cases hw : gw with
    | true =>
      obtain ⟨e1, x, hx, e2, e3⟩ := h.grow hw
      refine ⟨by rw [e1]; rfl, x + lo', (hz _).mpr ⟨x, hx, _, h'.low, by omega, rfl⟩, by omega, by omega⟩
    | false =>
      rw [hw, Bool.false_or] at hg
      obtain ⟨e1, x, hx, e2, e3⟩ := h'.grow hg
      refine ⟨by rw [e1]; cases gt <;> rfl, lo + x, (hz _).mpr ⟨_, h.low, x, hx, by omega, rfl⟩, by omega, by omega⟩
  posY hq := by
    have l1 := h.lp
    have l2 := h'.lp
    cases hw : po with
    | true =>
      obtain ⟨x, hx, e2, e3⟩ := h.posY hw
      exact ⟨x + lo', (hz _).mpr ⟨x, hx, _, h'.low, by omega, rfl⟩, by omega, by omega⟩
    | false =>
      rw [hw, Bool.false_or] at hq
      obtain ⟨x, hx, e2, e3⟩ := h'.posY hq
      exact ⟨lo + x, (hz _).mpr ⟨_, h.low, x, hx, by omega, rfl⟩, by omega, by omega⟩
  posN hq x hx := by
    rw [Bool.or_eq_false_iff] at hq
    obtain ⟨a, ha, b, hb, h1, rfl⟩ := (hz x).mp hx
    have := h.posN hq.1 a ha
    have := h'.posN hq.2 b hb
    omega
theorem num_union {lo pl lo' pl' : Nat} {gt gt' : Option Nat} {po gw po' gw' : Bool} {xs ys zs : List Int} (h : NumP lo pl gt po gw xs) (h' : NumP lo' pl' gt' po' gw' ys)
    (hz : ∀ x, x ∈ zs ↔ x ∈ xs ∨ x ∈ ys) : NumP (min lo lo') (pl + pl') (maxO gt gt') (po || po') (gw || gw') zs where
  rng x hx := ((hz x).mp hx).elim (h.rng x) (h'.rng x)
  low := by
    by_cases c : lo ≤ lo'
    · rw [Nat.min_eq_left c]
      exact (hz _).mpr (.inl h.low)
    · rw [Nat.min_eq_right (by omega)]
      exact (hz _).mpr (.inr h'.low)
  min x hx := by
    rcases (hz x).mp hx with c | c
    · have := h.min x c
      omega
    · have := h'.min x c
      omega
  lp := by have := h.lp; omega
  top hg := by
    rw [Bool.or_eq_false_iff] at hg
    obtain ⟨g, e1, e2, e3, e4⟩ := h.top hg.1
    obtain ⟨g', f1, f2, f3, f4⟩ := h'.top hg.2
    refine ⟨max g g', by rw [e1, f1]; rfl, by omega, ?_, fun x hx => ?_⟩
    · by_cases c : g ≤ g'
      · rw [Nat.max_eq_right c]
        exact (hz _).mpr (.inr f3)
      · rw [Nat.max_eq_left (by omega)]
        exact (hz _).mpr (.inl e3)
    · rcases (hz x).mp hx with c | c
      · have := e4 x c
        omega
      · have := f4 x c
        omega
  grow hg := by
    cases hw : gw with
    | true =>
      obtain ⟨e1, x, hx, e2, e3⟩ := h.grow hw
      exact ⟨by rw [e1]; rfl, x, (hz _).mpr (.inl hx), e2, by omega⟩
    | false =>
      rw [hw, Bool.false_or] at hg
      obtain ⟨e1, x, hx, e2, e3⟩ := h'.grow hg
      exact ⟨by rw [e1]; cases gt <;> rfl, x, (hz _).mpr (.inr hx), e2, by omega⟩
  posY hq := by
    cases hw : po with
    | true =>
      obtain ⟨x, hx, e2, e3⟩ := h.posY hw
      exact ⟨x, (hz _).mpr (.inl hx), e2, by omega⟩
    | false =>
      rw [hw, Bool.false_or] at hq
      obtain ⟨x, hx, e2, e3⟩ := h'.posY hq
      exact ⟨x, (hz _).mpr (.inr hx), e2, by omega⟩
  posN hq x hx := by
    rw [Bool.or_eq_false_iff] at hq
    exact ((hz x).mp hx).elim (h.posN hq.1 x) (h'.posN hq.2 x)
theorem num_same {lo pl : Nat} {gt : Option Nat} {po gw : Bool} {xs zs : List Int} (h : NumP lo pl gt po gw xs) (hz : ∀ x, x ∈ zs ↔ x ∈ xs) : NumP lo pl gt po gw zs where
  rng x hx := h.rng x ((hz x).mp hx)
  low := (hz _).mpr h.low
  min x hx := h.min x ((hz x).mp hx)
  lp := h.lp
  top hg := by
    obtain ⟨g, e1, e2, e3, e4⟩ := h.top hg
    exact ⟨g, e1, e2, (hz _).mpr e3, fun x hx => e4 x ((hz x).mp hx)⟩
  grow hg := by
    obtain ⟨e1, x, hx, e2, e3⟩ := h.grow hg
    exact ⟨e1, x, (hz _).mpr hx, e2, e3⟩
  posY hq := by
    obtain ⟨x, hx, e2, e3⟩ := h.posY hq
    exact ⟨x, (hz _).mpr hx, e2, e3⟩
  posN hq x hx := h.posN hq x ((hz x).mp hx)
theorem num_maybe {lo pl : Nat} {gt : Option Nat} {po gw : Bool} {xs zs : List Int} (h : NumP lo pl gt po gw xs) (hz : ∀ x, x ∈ zs ↔ x ∈ xs ∨ x = 0) : NumP 0 pl gt po gw zs where
  rng x hx := by
    rcases (hz x).mp hx with c | c
    · exact h.rng x c
    · omega
  low := (hz _).mpr (.inr rfl)
  min x hx := by
    rcases (hz x).mp hx with c | c
    · have := h.rng x c
      omega
    · omega
  lp := Nat.zero_le _
  top hg := by
    obtain ⟨g, e1, e2, e3, e4⟩ := h.top hg
    refine ⟨g, e1, e2, (hz _).mpr (.inl e3), fun x hx => ?_⟩
    rcases (hz x).mp hx with c | c
    · exact e4 x c
    · omega
  grow hg := by
    obtain ⟨e1, x, hx, e2, e3⟩ := h.grow hg
    exact ⟨e1, x, (hz _).mpr (.inl hx), e2, e3⟩
  posY hq := by
    obtain ⟨x, hx, e2, e3⟩ := h.posY hq
    exact ⟨x, (hz _).mpr (.inl hx), e2, e3⟩
  posN hq x hx := by
    rcases (hz x).mp hx with c | c
    · exact h.posN hq x c
    · exact c
/-- the rounds of a "many": n of them -/
structure Rounds (xs : List Int) (n : Nat) (zs : List Int) : Prop where
  rng : ∀ x ∈ zs, 0 ≤ x ∧ x ≤ 40
  zero : (0 : Int) ∈ zs
  mult : ∀ m ∈ xs, 0 < m → ∀ k : Nat, k ≤ 2 ^ n → (k : Int) * m ≤ 40 → (k : Int) * m ∈ zs
  none : (∀ x ∈ xs, x = 0) → ∀ x ∈ zs, x = 0
theorem rounds_zero {lo pl : Nat} {gt : Option Nat} {po gw : Bool} {xs zs : List Int} (h : NumP lo pl gt po gw xs) (hz : ∀ x, x ∈ zs ↔ x ∈ xs ∨ x = 0) : Rounds xs 0 zs where
  rng x hx := by
    rcases (hz x).mp hx with c | c
    · exact h.rng x c
    · omega
  zero := (hz _).mpr (.inr rfl)
  mult m hm h0 k hk _ := by
    have : k = 0 ∨ k = 1 := by have : k ≤ 1 := hk; omega
    rcases this with rfl | rfl
    · exact (hz _).mpr (.inr (by simp))
    · refine (hz _).mpr (.inl ?_)
      simpa using hm
  none hx x hz' := by
    rcases (hz x).mp hz' with c | c
    · exact hx x c
    · exact c
theorem rounds_succ {xs ys zs : List Int} {n : Nat} (h : Rounds xs n ys) (hz : ∀ x, x ∈ zs ↔ ∃ a ∈ ys, ∃ b ∈ ys, a + b ≤ 40 ∧ x = a + b) : Rounds xs (n + 1) zs where
  rng x hx := by
    obtain ⟨a, ha, b, hb, h1, rfl⟩ := (hz x).mp hx
    have := h.rng a ha
    have := h.rng b hb
    omega
  zero := (hz _).mpr ⟨0, h.zero, 0, h.zero, by decide, rfl⟩
  mult m hm h0 k hk h40 := by
    have e2 : 2 ^ (n + 1) = 2 ^ n + 2 ^ n := by rw [Nat.pow_succ]; omega
    obtain ⟨k1, k2, rfl, h1, h2⟩ : ∃ k1 k2, k = k1 + k2 ∧ k1 ≤ 2 ^ n ∧ k2 ≤ 2 ^ n := ⟨k / 2, k - k / 2, by omega, by omega, by omega⟩
    have e1 : ((k1 + k2 : Nat) : Int) * m = (k1 : Int) * m + (k2 : Int) * m := by
      rw [Int.natCast_add, Int.add_mul]
    have p1 : 0 ≤ (k1 : Int) * m := Int.mul_nonneg (by omega) (by omega)
    have p2 : 0 ≤ (k2 : Int) * m := Int.mul_nonneg (by omega) (by omega)
    rw [e1] at h40 ⊢
    exact (hz _).mpr ⟨_, h.mult m hm h0 k1 h1 (by omega), _, h.mult m hm h0 k2 h2 (by omega), h40, rfl⟩
  none hx x hx2 := by
    obtain ⟨a, ha, b, hb, h1, rfl⟩ := (hz x).mp hx2
    have := h.none hx a ha
    have := h.none hx b hb
    omega
theorem num_many {lo pl : Nat} {gt : Option Nat} {po gw : Bool} {xs zs : List Int} (h : NumP lo pl gt po gw xs) (hp : pl ≤ 20) (hr : Rounds xs 6 zs) : NumP 0 pl (if gt = some 0 then some 0 else none) po (po || gw) zs := by
  have gp : gw = true → po = true := fun hg => by
    cases hq : po with
    | true => rfl
    | false =>
      obtain ⟨_, x, hx, h1, _⟩ := h.grow hg
      have := h.posN hq x hx
      omega
  refine ⟨hr.rng, hr.zero, fun x hx => (hr.rng x hx).1, Nat.zero_le _, fun hg => ?_, fun hg => ?_, fun hq => ?_, fun hq => hr.none (h.posN hq)⟩
  · rw [Bool.or_eq_false_iff] at hg
    obtain ⟨g, e1, e2, e3, e4⟩ := h.top hg.2
    have g0 : (g : Int) = 0 := h.posN hg.1 _ e3
    have g1 : g = 0 := by omega
    subst g1
    refine ⟨0, by rw [e1, if_pos rfl], Nat.zero_le _, hr.zero, fun x hx => ?_⟩
    have := hr.none (h.posN hg.1) x hx
    omega
  · have hq : po = true := by
      cases hq : po with
      | true => rfl
      | false =>
        rw [hq, Bool.false_or] at hg
        rw [gp hg] at hq
        cases hq
    obtain ⟨m, hm, m0, m1⟩ := h.posY hq
    refine ⟨?_, ?_⟩
    · rw [if_neg]
      intro c
      cases hw : gw with
      | true =>
        have := (h.grow hw).1
        rw [this] at c
        cases c
      | false =>
        obtain ⟨g, e1, e2, e3, e4⟩ := h.top hw
        rw [c] at e1
        cases e1
        have := e4 m hm
        omega
    · obtain ⟨k, hk⟩ : ∃ k : Nat, (k : Int) = 20 / m + 1 := ⟨(20 / m + 1).toNat, by
        have : 0 ≤ 20 / m := Int.ediv_nonneg (by decide) (by omega)
        omega⟩
      have hd := Int.mul_ediv_add_emod 20 m
      have hm1 := Int.emod_nonneg 20 (show m ≠ 0 by omega)
      have hm2 := Int.emod_lt_of_pos 20 m0
      have km : (k : Int) * m = m * (20 / m) + m := by
        rw [hk, Int.add_mul, Int.one_mul, Int.mul_comm]
      have kle : k ≤ 2 ^ 6 := by
        have : 20 / m ≤ 20 := Int.ediv_le_self _ (by decide)
        omega
      refine ⟨(k : Int) * m, hr.mult m hm m0 k kle ?_, ?_, ?_⟩
      · rw [km]; omega
      · rw [km]; omega
      · rw [km]; omega
  · obtain ⟨m, hm, m0, m1⟩ := h.posY hq
    have := hr.mult m hm m0 1 (by decide) (by have := h.rng m hm; omega)
    refine ⟨m, ?_, m0, m1⟩
    simpa using this
/-- a list without doubles within 0 .. n is not long -/
theorem nodup_len : ∀ (n : Nat) (l : List Int), l.Nodup → (∀ x ∈ l, 0 ≤ x ∧ x < n) → l.length ≤ n
  | 0, l, _, h => by
    cases l with
    | nil => exact Nat.le_refl _
    | cons x l =>
      have := h x (List.mem_cons_self ..)
      omega
  | n + 1, l, hd, h => by
    by_cases c : (n : Int) ∈ l
    · have h1 := nodup_len n (l.erase (n : Int)) (hd.erase _) fun x hx => by
        have h2 := h x (List.mem_of_mem_erase hx)
        have h3 : x ≠ (n : Int) := fun e => by
          rw [e] at hx
          exact (List.Nodup.not_mem_erase hd) hx
        omega
      have h4 := List.length_erase_of_mem c
      omega
    · have h1 := nodup_len n l hd fun x hx => by
        have h2 := h x hx
        have h3 : x ≠ (n : Int) := fun e => c (e ▸ hx)
        omega
      omega
/-- numbers of an expression -/
abbrev NumE (e : E) (ns : List Int) : Prop := NumP e.least e.places e.greatest e.pos e.grows ns
/-- what a row's numbers are like, part by part -/
theorem allO_sum (l : List (Option Nat)) (o : Option Nat) : (allO (l ++ [o])).map List.sum = addO ((allO l).map List.sum) o := by
  induction l with
  | nil => cases o <;> simp [allO, addO]
  | cons a l ih =>
    cases a with
    | none => cases o <;> rfl
    | some a =>
      show ((allO (l ++ [o])).map (a :: ·)).map List.sum = addO (((allO l).map (a :: ·)).map List.sum) o
      cases h : allO l with
      | none =>
        rw [h] at ih
        cases h2 : allO (l ++ [o]) with
        | none => cases o <;> rfl
        | some r => rw [h2] at ih; cases o <;> cases ih
      | some r =>
        rw [h] at ih
        cases o with
        | none =>
          cases h2 : allO (l ++ [none]) with
          | none => rfl
          | some r => rw [h2] at ih; cases ih
        | some b =>
          cases h2 : allO (l ++ [some b]) with
          | none => rw [h2] at ih; cases ih
          | some r2 =>
            rw [h2] at ih
            have : r2.sum = r.sum + b := Option.some.inj ih
            show some (a + r2.sum) = some (a + r.sum + b)
            rw [this]
            exact congrArg some (by omega)
theorem allO_max (l : List (Option Nat)) (o : Option Nat) : (allO (l ++ [o])).map maxL = maxO ((allO l).map maxL) o := by
  induction l with
  | nil =>
    cases o with
    | none => rfl
    | some b =>
      show some (max b 0) = some (max 0 b)
      exact congrArg some (by omega)
  | cons a l ih =>
    cases a with
    | none => cases o <;> rfl
    | some a =>
      show ((allO (l ++ [o])).map (a :: ·)).map maxL = maxO (((allO l).map (a :: ·)).map maxL) o
      cases h : allO l with
      | none =>
        rw [h] at ih
        cases h2 : allO (l ++ [o]) with
        | none => cases o <;> rfl
        | some r => rw [h2] at ih; cases o <;> cases ih
      | some r =>
        rw [h] at ih
        cases o with
        | none =>
          cases h2 : allO (l ++ [none]) with
          | none => rfl
          | some r => rw [h2] at ih; cases ih
        | some b =>
          cases h2 : allO (l ++ [some b]) with
          | none => rw [h2] at ih; cases ih
          | some r2 =>
            rw [h2] at ih
            have : maxL r2 = max (maxL r) b := Option.some.inj ih
            show some (max a (maxL r2)) = some (max (max a (maxL r)) b)
            rw [this]
            exact congrArg some (by omega)
theorem minL_app : ∀ (l : List Nat) (b : Nat), l ≠ [] → minL (l ++ [b]) = min (minL l) b
  | [], _, h => absurd rfl h
  | [a], b, _ => rfl
  | a :: c :: r, b, _ => by
    have ih := minL_app (c :: r) b (by intro e; cases e)
    show min a (minL (c :: r ++ [b])) = min (min a (minL (c :: r))) b
    rw [ih]
    omega
structure RowP (join : Bool) (es : List E) (ns : List Int) : Prop where
  num : NumP (if join then (es.map E.least).sum else minL (es.map E.least)) (es.map E.places).sum (if join then (allO (es.map E.greatest)).map List.sum else (allO (es.map E.greatest)).map maxL) (es.any E.pos) (es.any E.grows) ns
theorem row_join {es : List E} {e : E} {xs ys zs : List Int} (h : RowP true es xs) (h' : NumE e ys) (hp : ((es ++ [e]).map E.places).sum ≤ 20) (hz : ∀ x, x ∈ zs ↔ ∃ a ∈ xs, ∃ b ∈ ys, a + b ≤ 40 ∧ x = a + b) : RowP true (es ++ [e]) zs := by
  have a1 : ((es ++ [e]).map E.places).sum = (es.map E.places).sum + e.places := by
    rw [List.map_append, List.sum_append]
    show _ + (e.places + 0) = _
    omega
  have a2 : ((es ++ [e]).map E.least).sum = (es.map E.least).sum + e.least := by
    rw [List.map_append, List.sum_append]
    show _ + (e.least + 0) = _
    omega
  have q := num_sums h.num h' (by rw [a1] at hp; exact hp) hz
  refine ⟨?_⟩
  rw [a1, List.any_append, List.any_append]
  simp only [if_true] at q ⊢
  rw [a2, show List.map E.greatest (es ++ [e]) = es.map E.greatest ++ [e.greatest] from List.map_append .., allO_sum]
  simpa using q
theorem row_alt {es : List E} {e : E} {xs ys zs : List Int} (h : RowP false es xs) (hn : es ≠ []) (h' : NumE e ys) (hz : ∀ x, x ∈ zs ↔ x ∈ xs ∨ x ∈ ys) : RowP false (es ++ [e]) zs := by
  have a1 : ((es ++ [e]).map E.places).sum = (es.map E.places).sum + e.places := by
    rw [List.map_append, List.sum_append]
    show _ + (e.places + 0) = _
    omega
  have q := num_union h.num h' hz
  refine ⟨?_⟩
  rw [a1, List.any_append, List.any_append]
  simp only [Bool.false_eq_true, if_false] at q ⊢
  rw [show List.map E.least (es ++ [e]) = es.map E.least ++ [e.least] from List.map_append .., show List.map E.greatest (es ++ [e]) = es.map E.greatest ++ [e.greatest] from List.map_append .., allO_max, minL_app _ _ (by intro c; exact hn (List.map_eq_nil_iff.mp c))]
  simpa using q
theorem row_alt1 {e : E} {ys zs : List Int} (h' : NumE e ys) (hz : ∀ x, x ∈ zs ↔ x ∈ ys) : RowP false [e] zs := by
  have q := num_same h' hz
  refine ⟨?_⟩
  simp only [Bool.false_eq_true, if_false]
  have e1 : (allO (List.map E.greatest [e])).map maxL = e.greatest := by
    show (allO [e.greatest]).map maxL = _
    cases h : e.greatest with
    | none => rfl
    | some g =>
      show some (max g 0) = some g
      exact congrArg some (by omega)
  rw [e1]
  simpa [minL] using q
theorem row_join0 : RowP true [] [0] := ⟨num_zero⟩
end My
namespace My
open PySem PySem.Spec PyProof.Rows L2
def topS (i : Nat) : Stmt := PySem.Challenge.pw_nodoubt_k06_whole_lengths.main.body.getD i (.Pass ⟨0, 0, 0, 0⟩)
abbrev s_is_long : Stmt := topS 6
abbrev s_is_letter : Stmt := topS 7
abbrev s_check_long : Stmt := topS 8
abbrev s_sizes_within : Stmt := topS 9
abbrev s__parts_of : Stmt := topS 10
abbrev s__is_row : Stmt := topS 11
abbrev s__begins_with : Stmt := topS 12
abbrev s_least_length : Stmt := topS 14
abbrev s__least : Stmt := topS 15
abbrev s_greatest_length : Stmt := topS 16
abbrev s__greatest : Stmt := topS 17
abbrev s__law_stream : Stmt := topS 19
abbrev s__law_next : Stmt := topS 20
abbrev s__law_is_integer : Stmt := topS 21
abbrev s__law_equal : Stmt := topS 22
abbrev s__law_pick : Stmt := topS 23
abbrev s__law_grown : Stmt := topS 24
abbrev s__law_expression : Stmt := topS 25
abbrev s__law_inside : Stmt := topS 26
abbrev s__law_letters : Stmt := topS 27
abbrev s__law_once : Stmt := topS 28
abbrev s__law_sums : Stmt := topS 29
abbrev s__law_numbers : Stmt := topS 30
abbrev s__law_grows : Stmt := topS 31
abbrev s_law : Stmt := topS 32
abbrev s_BadValue___init__ : Stmt := inClass (topS 2) 0
theorem boot_isinstance : bootBuiltins "isinstance" = some (.builtin "isinstance") := by decide +kernel
theorem boot_all : bootBuiltins "all" = some (.builtin "all") := by decide +kernel
theorem boot_any : bootBuiltins "any" = some (.builtin "any") := by decide +kernel
theorem boot_sum : bootBuiltins "sum" = some (.builtin "sum") := by decide +kernel
theorem boot_len : bootBuiltins "len" = some (.builtin "len") := by decide +kernel
theorem boot_abs : bootBuiltins "abs" = some (.builtin "abs") := by decide +kernel
theorem boot_min : bootBuiltins "min" = some (.builtin "min") := by decide +kernel
theorem boot_max : bootBuiltins "max" = some (.builtin "max") := by decide +kernel
theorem boot_int : bootBuiltins "int" = some (.type "int") := by decide +kernel
theorem boot_str : bootBuiltins "str" = some (.type "str") := by decide +kernel
theorem boot_bool : bootBuiltins "bool" = some (.type "bool") := by decide +kernel
theorem boot_list : bootBuiltins "list" = some (.type "list") := by decide +kernel
theorem boot_tuple : bootBuiltins "tuple" = some (.type "tuple") := by decide +kernel
/-- the built-ins' names as the module leaves them, its constants -/
structure Bt (K : PySem.W.Frag) (mg : Str → Option Value) (a_BOUNDS a_LONG_BOUNDS : Addr) (tL tM : Tok) : Prop where
  b_ValueError : mg "ValueError" = none
  b_abs : mg "abs" = none
  b_all : mg "all" = none
  b_any : mg "any" = none
  b_bool : mg "bool" = none
  b_int : mg "int" = none
  b_isinstance : mg "isinstance" = none
  b_len : mg "len" = none
  b_list : mg "list" = none
  b_max : mg "max" = none
  b_min : mg "min" = none
  b_range : mg "range" = none
  b_str : mg "str" = none
  b_sum : mg "sum" = none
  b_super : mg "super" = none
  b_tuple : mg "tuple" = none
  g_LETTERS : mg "LETTERS" = some (.str "abcd" tL)
  g_LONG_BOUNDS : mg "LONG_BOUNDS" = some (.ref a_LONG_BOUNDS)
  tG : ∀ H : Hp, SqT K H a_LONG_BOUNDS [.int 40, .int 40, .int 200]
section
variable {P : Program} {w : World} {K : PySem.W.Frag} {mg : Str → Option Value} {base : Heap} {a_BOUNDS a_LONG_BOUNDS : Addr} {tL tM : Tok}
abbrev N__law_stream : List Str := ["script"]
theorem sc__law_stream : FnScope ["script"] ["script"] (defScope s__law_stream) := ⟨rfl, rfl, rfl, by decide +kernel, rfl, by decide +kernel, by decide +kernel⟩
theorem ok_stream {f : Addr} {fd : FuncData} (B : Bt K mg a_BOUNDS a_LONG_BOUNDS tL tM) (D : Df K mg "_law_stream" s__law_stream ["script"] f fd) : FnOk P w K mg base CX0 1 f fd ["script"] (spStream K) := by
  refine D.F.ok sc__law_stream (fun vs H Q E h => ?_) (fun cdv A outer s H vs Q E hr h => ?_)
  · obtain ⟨a, ns, rfl, _⟩ := h
    rfl
  obtain ⟨a, ns, rfl, hS, h63, q⟩ := h
  refine ⟨_, (pss_one (ps_ret (pe_lst (pa_cons (pe_callTy call_list_of rfl B.b_list boot_list (pa_cons (pv 0) pa_nil)) (pa_cons pe_int (pa_cons pe_int pa_nil)))))), ?_⟩
  refine ⟨_, rfl, a, _, rfl, .inl hS, fun l hl => ⟨by show 3 ≤ sizeLine; decide, fun p hp => ?_⟩⟩
  have n : l ≠ p := fun e => by
    rw [← e, upd_same] at hp
    cases hp
  exact q p _ ((same_upd hl).trans (same_upd hp)) ((same_upd hl).free hp) ⟨l, 0, 0, ns, upd_same, by rw [upd_ne n]; exact upd_same, n, Int.le_refl 0⟩
abbrev N__law_next : List Str := ["stream", "many", "k", "cell", "digit"]
theorem sc__law_next : FnScope ["stream", "many", "k", "cell", "digit"] ["stream", "many"] (defScope s__law_next) := ⟨rfl, rfl, rfl, by decide +kernel, rfl, by decide +kernel, by decide +kernel⟩
theorem ok_next {f : Addr} {fd : FuncData} (B : Bt K mg a_BOUNDS a_LONG_BOUNDS tL tM) (D : Df K mg "_law_next" s__law_next ["stream", "many"] f fd) : FnOk P w K mg base CX0 1 f fd ["stream", "many"] spNext := by
  refine D.F.ok sc__law_next (fun vs H Q E h => ?_) (fun cdv A outer s H vs Q E hr h => ?_)
  · obtain ⟨a, m, rfl, _⟩ := h
    rfl
  obtain ⟨a, m, rfl, hS, hm0, hm1, q⟩ := h
  obtain ⟨l, c, k, ns, h1, h2, h3, h4⟩ := id hS
  refine ⟨_, (C8.pss_cut (ps_if (pt_cmpR op_eq (pe_ix (r := rIxL K) ix_list (pv 0) pe_int (fun _ _ => rfl)) pe_int (nomark _)) (pss_cons (ps_set (i := 2) sc__law_next.nd rfl (Or.inl rfl) (pe_ix (r := rIxL K) ix_list (pv 0) pe_int (fun _ _ => rfl)))
    (pss_cons (ps_set (i := 3) sc__law_next.nd rfl (Or.inl rfl) (pe_op op_add pe_int (pv 2)))
    (C8.pss_cut (ps_if (pt_cmpR op_lt (pv 2) (pe_callB call_len rfl B.b_len boot_len (pa_cons (pe_ix (r := rIxL K) ix_list (pv 0) pe_int (fun _ _ => rfl)) pa_nil)) (nomark _)) (pss_one (ps_set (i := 3) sc__law_next.nd rfl (Or.inl rfl) (pe_callB call_abs rfl B.b_abs boot_abs (pa_cons (pe_ix (r := rIxL K) ix_list (pe_ix (r := rIxL K) ix_list (pv 0) pe_int (fun _ _ => rfl)) (pv 2) (fun _ _ => rfl)) pa_nil)))) pss_nil)
    (C8.pss_cut (ps_if (pt_cmpR op_lt (pv 3) (pe_op op_pow pe_int pe_int) (nomark _)) (pss_cons (ps_set (i := 3) sc__law_next.nd rfl (Or.inl rfl) (pe_op op_mod (pe_callTy call_int1 rfl B.b_int boot_int (pa_cons (pe_op op_add (pe_op op_add (pe_op op_mul (pv 3) pe_int) (pe_op op_mul (pv 2) pe_int)) pe_int) pa_nil)) pe_int))
    (pss_one (ps_set (i := 3) sc__law_next.nd rfl (Or.inl rfl) (pe_op op_add (pe_op op_mul (pe_op op_mod (pe_callTy call_int1 rfl B.b_int boot_int (pa_cons (pe_op op_add (pe_op op_mul (pv 3) pe_int) pe_int) pa_nil)) pe_int) pe_int) (pv 3))))) pss_nil)
    (pss_cons (ps_asg (pv 3) (pg_sub (pv 0) pe_int set_list))
    (pss_one (ps_asg (pe_op op_add (pv 2) pe_int) (pg_sub (pv 0) pe_int set_list)))))))) pss_nil)
    (pss_cons (ps_set (i := 4) sc__law_next.nd rfl (Or.inl rfl) (pe_op op_mod (pe_callTy call_int1 rfl B.b_int boot_int (pa_cons (pe_ix (r := rIxL K) ix_list (pv 0) pe_int (fun _ _ => rfl)) pa_nil)) (pv 1)))
    (pss_cons (ps_asg (pe_op op_fdiv (pe_ix (r := rIxL K) ix_list (pv 0) pe_int (fun _ _ => rfl)) (pv 1)) (pg_sub (pv 0) pe_int set_list))
    (pss_one (ps_ret (pv 4)))))), ?_⟩
  have m0 : ¬ m = 0 := by omega
  have at0 : ∀ (x y z : V), atI [x, y, z] 0 = some x := fun x y z => rfl
  have at1 : ∀ (x y z : V), atI [x, y, z] 1 = some y := fun x y z => rfl
  have at2 : ∀ (x y z : V), atI [x, y, z] 2 = some z := fun x y z => rfl
  refine ⟨fun σ' H' => ∃ kk cc c k, σ' = [some (.ref a), some (.int m), kk, cc, none] ∧ StrmW H' a l c k ns ∧ Keep a H H', ?_, ?_⟩
  · refine ⟨_, rfl, a, _, _, _, rfl, rfl, SqL.of h1, at1 _ _ _, rfl, _, rfl, ite2 (fun e => ?_) (fun e => ?_)⟩
    · -- a new cell
      refine ⟨_, rfl, a, _, _, _, rfl, rfl, SqL.of h1, at2 _ _ _, ?_⟩
      refine ⟨_, rfl, _, _, rfl, rfl, ?_⟩
      refine ⟨fun σ' H' => ∃ cc : Int, σ' = [some (.ref a), some (.int m), some (.int k), some (.int cc), none] ∧ H' = H, ?_, ?_⟩
      · refine ⟨_, rfl, _, rfl, a, _, _, _, rfl, rfl, SqL.of h1, at0 _ _ _, _, _, rfl, .inl ⟨_, SqL.of h2, rfl⟩, _, _, rfl, rfl, _, rfl, ite2 (fun e2 => ?_) (fun e2 => ?_)⟩
        · have e3 : k < ((ns.map V.int).length : Int) := of_decide_eq_true e2
          rw [List.length_map] at e3
          have hk : k.toNat < ns.length := by omega
          refine ⟨_, rfl, a, _, _, _, rfl, rfl, SqL.of h1, at0 _ _ _, _, rfl, l, _, k, .int ns[k.toNat], rfl, rfl, SqL.of h2, at_of (j := k.toNat) (by omega) (by rw [List.getElem?_map, List.getElem?_eq_getElem hk] <;> rfl), _, rfl, ?_⟩
          exact ⟨_, rfl, rfl⟩
        · exact ⟨_, rfl, rfl⟩
      · rintro σ' H' ⟨cc, rfl, rfl⟩
        refine ⟨fun σ' H'' => ∃ cc : Int, σ' = [some (.ref a), some (.int m), some (.int k), some (.int cc), none] ∧ H'' = H', ?_, ?_⟩
        · refine ⟨_, rfl, _, _, rfl, rfl, ⟨by decide, by decide, by decide⟩, _, _, rfl, rfl, _, rfl, ite2 (fun e2 => ?_) (fun e2 => ?_)⟩
          · refine ⟨_, rfl, _, _, rfl, rfl, .inr ⟨by decide, by decide⟩, _, rfl, _, _, rfl, rfl, .inr ⟨by decide, by decide⟩, _, _, rfl, rfl, _, _, rfl, rfl, .inl ⟨_, rfl, _, _, rfl, rfl, (by show (0 : Int) < 2147483647; decide), ?_⟩⟩
            refine ⟨_, rfl, _, _, rfl, rfl, .inr ⟨by decide, by decide⟩, _, _, rfl, rfl, .inl ⟨_, rfl, _, _, rfl, rfl, (by show (0 : Int) < 2147483647; decide), _, _, rfl, rfl, .inr ⟨by decide, by decide⟩, _, rfl, _, _, rfl, rfl, ?_⟩⟩
            exact ⟨_, rfl, rfl⟩
          · exact ⟨_, rfl, rfl⟩
        · rintro σ' H'' ⟨cc, rfl, rfl⟩
          refine ⟨_, rfl, _, rfl, a, _, _, _, rfl, rfl, h1, rfl, ?_⟩
          have u1 : ([.ref l, .int c, .int k] : List V).set 1 (.int cc) = [.ref l, .int cc, .int k] := rfl
          refine ⟨_, rfl, _, _, rfl, rfl, _, rfl, a, _, _, _, rfl, rfl, upd_same, rfl, ?_⟩
          exact ⟨_, _, cc, k + 1, rfl, ⟨upd_same, by rw [upd_ne h3, upd_ne h3]; exact h2, h3, by omega⟩, Keep.store.trans Keep.store⟩
    · exact ⟨_, _, c, k, rfl, ⟨h1, h2, h3, h4⟩, Keep.refl a H⟩
  · rintro σ' H' ⟨kk, cc, c, k, rfl, ⟨g1, g2, g3, g4⟩, kp⟩
    refine ⟨_, rfl, a, _, _, _, rfl, rfl, SqL.of g1, at1 _ _ _, .inl ⟨_, rfl, _, rfl, _, _, rfl, rfl, hm0, ?_⟩⟩
    refine ⟨_, rfl, a, _, _, _, rfl, rfl, SqL.of g1, at1 _ _ _, _, rfl, _, _, rfl, rfl, ⟨hm0, by omega⟩, _, rfl, a, _, _, _, rfl, rfl, g1, rfl, ?_⟩
    exact ⟨_, rfl, q _ _ (Int.emod_nonneg _ m0) (Int.emod_lt_of_pos _ hm0) ⟨kp.trans Keep.store, hS, fun l' c' k' ns' h' => by
      have e := h1.symm.trans h'.1
      cases e
      exact ⟨_, _, ns, upd_same, by rw [upd_ne g3]; exact g2, g3, g4⟩⟩⟩
abbrev N__law_pick : List Str := ["stream", "rows"]
theorem sc__law_pick : FnScope ["stream", "rows"] ["stream", "rows"] (defScope s__law_pick) := ⟨rfl, rfl, rfl, by decide +kernel, rfl, by decide +kernel, by decide +kernel⟩
theorem ok_pick {f : Addr} {fd : FuncData} (B : Bt K mg a_BOUNDS a_LONG_BOUNDS tL tM) (D : Df K mg "_law_pick" s__law_pick ["stream", "rows"] f fd) (G_law_next : Cl P w K mg base 1 "_law_next" ["stream", "many"] spNext) : FnOk P w K mg base CX0 2 f fd ["stream", "rows"] (spPick K) := by
  refine D.F.ok sc__law_pick (fun vs H Q E h => ?_) (fun cdv A outer s H vs Q E hr h => ?_)
  · obtain ⟨a, r, xs, rfl, _⟩ := h
    rfl
  obtain ⟨a, r, xs, rfl, hS, hX, hra, h0, h1, q⟩ := h
  refine ⟨_, (pss_one (ps_ret (pe_ix (r := rIxL K) ix_list (pv 1) (pe_cl G_law_next (hr.mono (by omega)) rfl (pa_cons (pv 0) (pa_cons (pe_callB call_len rfl B.b_len boot_len (pa_cons (pv 1) pa_nil)) pa_nil))) (fun _ _ => rfl)))), ?_⟩
  refine ⟨_, rfl, _, rfl, _, rfl, _, _, rfl, .inl ⟨_, hX, rfl⟩, a, _, rfl, hS, by omega, by omega, fun d H' d0 d1 g => ?_⟩
  have hd : d.toNat < xs.length := by omega
  exact ⟨r, xs, d, xs[d.toNat], rfl, rfl, g.seq hra hX, at_of (j := d.toNat) (by omega) (List.getElem?_eq_getElem hd), q _ _ (List.getElem_mem hd) g⟩
end


/-! ### the looks at a datum -/
def spLetter : Sp := fun vs H Q _ => ∃ z : Str, vs = [.str z] ∧ z.length ≤ 1000 ∧ Q (.bl (isLet z)) H
def spBegins : Sp := fun vs H Q _ => ∃ v w d, vs = [v, .str w] ∧ Rep H v d ∧ headFlat d = true ∧ Q (.bl (begins w d)) H
def spIsRow : Sp := fun vs H Q _ => ∃ v w d, vs = [.str w, v] ∧ Rep H v d ∧ rowFlat d = true ∧ ∀ H', Same H H' → Q (.bl (rowOk w d)) H'
def PartsR (H : Hp) (r : V) : Option (List D) → Prop
  | none => r = .non
  | some ys => ∃ p vs, r = .ref p ∧ H p = some (.tup vs) ∧ Two (Rep H) vs ys
def spPartsOf : Sp := fun vs H Q _ => ∃ v d, vs = [v] ∧ Rep H v d ∧ Fl d ∧ ∀ r H', Same H H' → PartsR H' r (inner d) → Q r H'
def SizeR (H : Hp) (r : V) : Option Bnd → Prop
  | none => r = .non
  | some a => ∃ q, r = .ref q ∧ H q = some (.tup [.int a.1, .int a.2.1, .int a.2.2])
def spSizes (K : PySem.W.Frag) : Sp := fun vs H Q _ => ∃ (v : V) (d : D) (b : Addr) (B : Bnd), vs = [v, .ref b] ∧ Rep H v d ∧ Fl d ∧ d.size ≤ 1000000 ∧ SqT K H b [.int B.1, .int B.2.1, .int B.2.2] ∧ ∀ r H', Same H H' → SizeR H' r (sizesOf B d) → Q r H'
def spIs (B : Bnd) : Sp := fun vs H Q _ => ∃ (v : V) (d : D), vs = [v] ∧ Rep H v d ∧ Fl d ∧ d.size ≤ 1000000 ∧ ∀ H', Same H H' → Q (.bl (sizesOf B d).isSome) H'
section
variable {P : Program} {w : World} {K : PySem.W.Frag} {mg : Str → Option Value} {base : Heap} {a_BOUNDS a_LONG_BOUNDS : Addr} {tL tM : Tok}
theorem abcd_in (c : Nat) : (c ∈ (Str.ofString "abcd").cps.toList) ↔ 97 ≤ c ∧ c ≤ 100 := by
  have e : (Str.ofString "abcd").cps.toList = [97, 98, 99, 100] := by decide +kernel
  rw [e]
  simp
  omega
theorem isLet_one (c : Nat) : isLet ⟨#[c]⟩ = decide (c ∈ (Str.ofString "abcd").cps.toList) := by
  have e : isLet ⟨#[c]⟩ = (decide (97 ≤ c) && decide (c ≤ 100)) := rfl
  rw [e, ← Bool.decide_and]
  exact decide_eq_decide.mpr (abcd_in c).symm
abbrev N_is_letter : List Str := ["value"]
theorem sc_is_letter : FnScope ["value"] ["value"] (defScope s_is_letter) := ⟨rfl, rfl, rfl, by decide +kernel, rfl, by decide +kernel, by decide +kernel⟩
theorem ok_letter {f : Addr} {fd : FuncData} (B : Bt K mg a_BOUNDS a_LONG_BOUNDS tL tM) (D : Df K mg "is_letter" s_is_letter ["value"] f fd) : FnOk P w K mg base CX0 1 f fd ["value"] spLetter := by
  refine D.F.ok sc_is_letter (fun vs H Q E h => ?_) (fun cdv A outer s H vs Q E hr h => ?_)
  · obtain ⟨z, rfl, _⟩ := h
    rfl
  obtain ⟨z, rfl, hz, q⟩ := h
  refine ⟨_, (pss_one (ps_ret (pe_and (pe_callB call_isi rfl B.b_isinstance boot_isinstance (pa_cons (pv 0) (pa_cons (pe_bltn (v := .ty "str") rfl B.b_str boot_str rfl) pa_nil))) (pe_and (pe_cmpR op_eq (pe_callB call_len rfl B.b_len boot_len (pa_cons (pv 0) pa_nil)) pe_int (nomark _)) (pe_one (pe_cmpR op_in_sign (pv 0) (pe_glob (v := .str "abcd") rfl B.g_LETTERS ⟨_, rfl⟩) rfl)))))), ?_⟩
  have T1 : TyX K H (.str z) (.type "str") := .base (.str z)
  refine ⟨_, rfl, _, _, _, _, _, rfl, .ty _, T1, kit_ty (r := true) (by decide +kernel), _, rfl, iteT ?_⟩
  refine ⟨_, rfl, _, _, rfl, ⟨Nat.le_trans hz (by decide), rfl⟩, rfl, _, rfl, ite2 (fun e => ?_) (fun e => ?_)⟩
  · have e1 : V.int (z.length : Int) = V.int 1 := of_decide_eq_true e
    have e2 : z.cps.size = 1 := by
      have e3 : (z.length : Int) = 1 := V.int.inj e1
      have e4 : z.length = z.cps.size := rfl
      omega
    obtain ⟨⟨cs⟩⟩ := z
    match cs, e2 with
    | [c], _ =>
      refine ⟨_, rfl, _, _, rfl, rfl, ?_⟩
      rw [isLet_one] at q
      exact q
  · have e2 : isLet z = false := by
      unfold isLet
      split
      · rename_i c hc
        exfalso
        apply e
        refine decide_eq_true (congrArg V.int ?_)
        have : z.cps.size = 1 := by rw [← Array.length_toList, hc] <;> rfl
        show ((z.cps.size : Nat) : Int) = 1
        omega
      · rfl
    rw [e2] at q
    exact q
abbrev N__begins_with : List Str := ["value", "word"]
theorem sc__begins_with : FnScope ["value", "word"] ["value", "word"] (defScope s__begins_with) := ⟨rfl, rfl, rfl, by decide +kernel, rfl, by decide +kernel, by decide +kernel⟩
theorem ok_begins {f : Addr} {fd : FuncData} (B : Bt K mg a_BOUNDS a_LONG_BOUNDS tL tM) (D : Df K mg "_begins_with" s__begins_with ["value", "word"] f fd) : FnOk P w K mg base CX0 1 f fd ["value", "word"] spBegins := by
  refine D.F.ok sc__begins_with (fun vs H Q E h => ?_) (fun cdv A outer s H vs Q E hr h => ?_)
  · obtain ⟨v, w, d, rfl, _⟩ := h
    rfl
  obtain ⟨v, w, d, rfl, hR, hF, q⟩ := h
  refine ⟨_, (pss_one (ps_ret (pe_and (pe_callB call_isi rfl B.b_isinstance boot_isinstance (pa_cons (pv 0) (pa_cons (pe_bltn (v := .ty "tuple") rfl B.b_tuple boot_tuple rfl) pa_nil))) (pe_and (pe_cmpR op_gt (pe_callB call_len rfl B.b_len boot_len (pa_cons (pv 0) pa_nil)) pe_int (nomark _)) (pe_one (pe_cmpR op_eq (pe_ix (r := rIxT K) ix_tup (pv 0) pe_int (fun _ _ => rfl)) (pv 1) (nomark _))))))), ?_⟩
  obtain ⟨t, ht, _, k2⟩ := hR.ty (K := K)
  refine ⟨_, rfl, _, _, _, _, _, rfl, .ty _, ht, k2, _, rfl, ite2 (fun e => ?_) (fun e => ?_)⟩
  · cases d with
    | tup ds =>
      obtain ⟨p, xs, rfl, hp, hz, hX⟩ := hR.untup
      refine ⟨_, rfl, _, _, rfl, .inr ⟨_, SqT.of hp, rfl⟩, _, _, rfl, rfl, _, rfl, ite2 (fun e3 => ?_) (fun e3 => ?_)⟩
      · have e1 : (0 : Int) < ((xs.length : Nat) : Int) := of_decide_eq_true e3
        cases hX with
        | nil => exact absurd e1 (by decide)
        | @cons x y xs ys hxy ht =>
          refine ⟨_, rfl, p, _, 0, x, rfl, rfl, SqT.of hp, at_zero, _, rfl, ?_⟩
          cases hxy with
          | @str z hz =>
            refine ⟨rfl, ?_⟩
            have q1 : decide (V.str z = V.str w) = begins w (.tup (.str z :: ys)) := by
              rw [begins_tup]
              exact decide_eq_decide.mpr ⟨fun h => by cases h; rfl, fun h => by rw [h]⟩
            rw [q1]
            exact q
          | non => exact ⟨rfl, q⟩
          | bl b => exact ⟨rfl, q⟩
          | int i => exact ⟨rfl, q⟩
          | tup _ _ _ _ => exact absurd hF Bool.false_ne_true
          | lst _ => exact absurd hF Bool.false_ne_true
      · cases hX with
        | nil => exact q
        | @cons x y xs ys hxy ht =>
          exfalso
          apply e3
          refine decide_eq_true ?_
          show (0 : Int) < ((xs.length + 1 : Nat) : Int)
          omega
    | str z => cases e
    | lst => cases e
    | flat => cases e
  · cases d with
    | tup ds => exact absurd rfl e
    | str z => exact q
    | lst => exact q
    | flat => exact q
abbrev N__is_row : List Str := ["word", "value", "part"]
theorem sc__is_row : FnScope ["word", "value", "part"] ["word", "value"] (defScope s__is_row) := ⟨rfl, rfl, rfl, by decide +kernel, rfl, by decide +kernel, by decide +kernel⟩
theorem ok_isrow {f : Addr} {fd : FuncData} (B : Bt K mg a_BOUNDS a_LONG_BOUNDS tL tM) (D : Df K mg "_is_row" s__is_row ["word", "value"] f fd) (G_begins_with : Cl P w K mg base 1 "_begins_with" ["value", "word"] spBegins) : FnOk P w K mg base CX0 2 f fd ["word", "value"] spIsRow := by
  refine D.F.ok sc__is_row (fun vs H Q E h => ?_) (fun cdv A outer s H vs Q E hr h => ?_)
  · obtain ⟨v, w, d, rfl, _⟩ := h
    rfl
  obtain ⟨v, w, d, rfl, hR, hF, q⟩ := h
  refine ⟨_, (pss_cons (ps_if (PW.pt (pw_or (pt_not (pt_val (pe_callB call_isi rfl B.b_isinstance boot_isinstance (pa_cons (pv 1) (pa_cons (pe_bltn (v := .ty "tuple") rfl B.b_tuple boot_tuple rfl) pa_nil))))) (pw_or1 (pt_cmpR op_lt (pe_callB call_len rfl B.b_len boot_len (pa_cons (pv 1) pa_nil)) pe_int (nomark _))))) (pss_one (ps_ret pe_bl)) pss_nil)
    (pss_one (ps_ret (pe_not (pe_callB (cr_any rfl) rfl B.b_any boot_any (pa_cons (pe_lc (own := [("part", 2)]) (g := gName 2) (tt := tYes) rfl sc__is_row.nd (pi_tup (pv 1)) (blkOk_by (N := N__is_row) (sc := defScope s__is_row) (by decide +kernel)) (fun _ _ _ _ _ => pg_name (i := 2) sc__is_row.nd rfl (Or.inl rfl)) (fun _ _ _ _ _ => pts_nil) (fun _ _ _ _ _ => (pe_cl G_begins_with (hr.mono (by omega)) rfl (pa_cons (pv 2) (pa_cons (pv 0) pa_nil))))) pa_nil)))))), ?_⟩
  obtain ⟨t, ht, _, k2⟩ := hR.ty (K := K)
  cases d with
  | str z => exact ⟨_, rfl, _, _, _, _, _, rfl, .ty _, ht, k2, _, rfl, iteT (iteT (q _ (Same.refl _)))⟩
  | lst => exact ⟨_, rfl, _, _, _, _, _, rfl, .ty _, ht, k2, _, rfl, iteT (iteT (q _ (Same.refl _)))⟩
  | flat => exact ⟨_, rfl, _, _, _, _, _, rfl, .ty _, ht, k2, _, rfl, iteT (iteT (q _ (Same.refl _)))⟩
  | tup ds =>
    obtain ⟨p, xs, rfl, hp, hz, hX⟩ := hR.untup
    have hl := hX.len
    refine ⟨_, rfl, _, _, _, _, _, rfl, .ty _, ht, k2, _, rfl, iteF ?_⟩
    refine ⟨_, rfl, _, _, rfl, .inr ⟨_, SqT.of hp, rfl⟩, _, _, rfl, rfl, _, rfl, ite2 (fun e => ?_) (fun e => ?_)⟩
    · have e1 : ((xs.length : Nat) : Int) < 2 := of_decide_eq_true e
      have e2 : rowOk w (.tup ds) = false := by
        rw [rowOk_tup, decide_eq_false (by omega)]
        rfl
      rw [e2] at q
      exact q _ (Same.refl _)
    · have e1 : ¬ ((xs.length : Nat) : Int) < 2 := fun h => e (decide_eq_true h)
      have e2 : rowOk w (.tup ds) = !(ds.any (begins w)) := by
        rw [rowOk_tup, decide_eq_true (by omega)]
        rfl
      rw [e2] at q
      refine ⟨_, rfl, p, rfl, ⟨_, SqT.of hp⟩, fun L hL => ?_⟩
      refine lc_tup (K := K) (a := p) (xs := xs) (fun i H' => Same H H' ∧ H' L = some (.lst (((ds.take i).map (begins w)).map V.bl))) ⟨same_upd hL, upd_same⟩ (fun i H' _ h => SqT.of (h.1 _ _ hp)) (fun i x H' hx h => ?_) (fun H' h => ?_)
      · obtain ⟨d, hd, hxd⟩ := hX.get hx
        have hd' : headFlat d = true := by
          have : ds.all headFlat = true := hF
          exact List.all_eq_true.mp this d (List.mem_of_getElem? hd)
        refine ⟨rfl, tyes ?_⟩
        refine ⟨_, rfl, _, rfl, x, w, d, rfl, hxd.pers (Pers.same h.1), hd', _, h.2, ?_, ?_, ?_⟩
        · rw [List.length_map, List.length_map, List.length_take]
          have : i < ds.length := (List.getElem?_eq_some_iff.mp hd).1
          exact Nat.lt_of_le_of_lt (Nat.min_le_right _ _) (Nat.lt_of_le_of_lt (hl ▸ hz) (by decide))
        · exact fun b o e => by rw [upd_ne (ne_of_none e hL)]; exact h.1 b o e
        · rw [upd_same, List.take_add_one, hd, List.map_append, List.map_append]
          rfl
      · obtain ⟨h1, h2⟩ := h
        rw [hl, List.take_length] at h2
        refine ⟨L, _, rfl, SqL.of h2, _, rfl, ?_⟩
        have e3 : ((ds.map (begins w)).any id) = ds.any (begins w) := by
          rw [List.any_map]
          rfl
        rw [e3]
        exact q _ h1
abbrev N__parts_of : List Str := ["value", "word", "inner"]
theorem sc__parts_of : FnScope ["value", "word", "inner"] ["value"] (defScope s__parts_of) := ⟨rfl, rfl, rfl, by decide +kernel, rfl, by decide +kernel, by decide +kernel⟩
theorem ok_parts {f : Addr} {fd : FuncData} (B : Bt K mg a_BOUNDS a_LONG_BOUNDS tL tM) (D : Df K mg "_parts_of" s__parts_of ["value"] f fd) (Gis_letter : Cl P w K mg base 1 "is_letter" ["value"] spLetter) (G_is_row : Cl P w K mg base 2 "_is_row" ["word", "value"] spIsRow) : FnOk P w K mg base CX0 3 f fd ["value"] spPartsOf := by
  refine D.F.ok sc__parts_of (fun vs H Q E h => ?_) (fun cdv A outer s H vs Q E hr h => ?_)
  · obtain ⟨v, d, rfl, _⟩ := h
    rfl
  obtain ⟨v, d, rfl, hR, hF, q⟩ := h
  refine ⟨_, (pss_cons (ps_if (pt_val (pe_callB call_isi rfl B.b_isinstance boot_isinstance (pa_cons (pv 0) (pa_cons (pe_bltn (v := .ty "str") rfl B.b_str boot_str rfl) pa_nil)))) (pss_one (ps_ret (pe_ifExp (PW.pt (pw_or (pt_cmpR op_eq (pv 0) pe_str (nomark _)) (pw_or1 (pt_val (pe_cl Gis_letter (hr.mono (by omega)) rfl (pa_cons (pv 0) pa_nil)))))) (pe_tup pa_nil) pe_non))) pss_nil)
    (pss_cons (ps_if (PW.pt (pw_or (pt_not (pt_val (pe_callB call_isi rfl B.b_isinstance boot_isinstance (pa_cons (pv 0) (pa_cons (pe_bltn (v := .ty "tuple") rfl B.b_tuple boot_tuple rfl) pa_nil))))) (pw_or (pt_cmpR op_ne (pe_callB call_len rfl B.b_len boot_len (pa_cons (pv 0) pa_nil)) pe_int (nomark _)) (pw_or1 (pt_not (pt_val (pe_callB call_isi rfl B.b_isinstance boot_isinstance (pa_cons (pe_ix (r := rIxT K) ix_tup (pv 0) pe_int (fun _ _ => rfl)) (pa_cons (pe_bltn (v := .ty "str") rfl B.b_str boot_str rfl) pa_nil))))))))) (pss_one (ps_ret pe_non)) pss_nil)
    (pss_cons (ps_asg (pv 0) (pg_tup rfl (pgs_cons (pg_name (i := 1) sc__parts_of.nd rfl (Or.inl rfl)) (pgs_cons (pg_name (i := 2) sc__parts_of.nd rfl (Or.inl rfl)) pgs_nil))))
    (pss_cons (ps_if (PW.pt (pw_or (pt_cmpR op_eq (pv 1) pe_str (nomark _)) (pw_or1 (pt_cmpR op_eq (pv 1) pe_str (nomark _))))) (pss_one (ps_ret (pe_tup (pa_cons (pv 2) pa_nil)))) pss_nil)
    (pss_cons (ps_if (PW.pt (pw_and (PW.pt (pw_or (pt_cmpR op_eq (pv 1) pe_str (nomark _)) (pw_or1 (pt_cmpR op_eq (pv 1) pe_str (nomark _))))) (pw_and1 (pt_val (pe_cl G_is_row (hr.mono (by omega)) rfl (pa_cons (pv 1) (pa_cons (pv 2) pa_nil))))))) (pss_one (ps_ret (pv 2))) pss_nil)
    (pss_one (ps_ret pe_non))))))), ?_⟩
  obtain ⟨t, ht, k1, k2⟩ := hR.ty (K := K)
  refine ⟨_, rfl, _, _, _, _, _, rfl, .ty _, ht, k1, _, rfl, ite2 (fun e => ?_) (fun e => ?_)⟩
  · cases d with
    | tup ds => cases e
    | lst => cases e
    | flat => cases e
    | str z =>
      cases hR with
      | str hz =>
        have yes : (z = sNo ∨ isLet z = true) → ∀ p, H p = none → Q (.ref p) (upd H p (.tup [])) := fun c p hp => q _ _ (same_upd hp) (by
          rw [inner, if_pos c]
          exact ⟨p, [], rfl, upd_same, .nil⟩)
        refine ⟨_, rfl, rfl, _, rfl, ite2 (fun e1 => iteT ?_) (fun e1 => ?_)⟩
        · exact ⟨by decide, yes (.inl (vstr e1))⟩
        · refine ⟨_, rfl, z, rfl, hz, _, rfl, ite2 (fun e2 => ?_) (fun e2 => ?_)⟩
          · exact ⟨by decide, yes (.inr e2)⟩
          · refine q _ _ (Same.refl _) ?_
            rw [inner, if_neg fun c => c.elim (vstrN e1) e2]
            rfl
  · cases d with
    | str z => exact absurd rfl e
    | lst => exact ⟨_, rfl, _, _, _, _, _, rfl, .ty _, ht, k2, _, rfl, iteT (iteT (q _ _ (Same.refl _) rfl))⟩
    | flat => exact ⟨_, rfl, _, _, _, _, _, rfl, .ty _, ht, k2, _, rfl, iteT (iteT (q _ _ (Same.refl _) rfl))⟩
    | tup ds =>
      obtain ⟨p, xs, rfl, hp, hz, hX⟩ := hR.untup
      have hl := hX.len
      have none_ : inner (.tup ds) = none → Q .non H := fun c => q _ _ (Same.refl _) (by rw [c]; rfl)
      refine ⟨_, rfl, _, _, _, _, _, rfl, .ty _, ht, k2, _, rfl, iteF ?_⟩
      refine ⟨_, rfl, _, _, rfl, .inr ⟨_, SqT.of hp, rfl⟩, rfl, _, rfl, ite2 (fun e => ?_) (fun e => ?_)⟩
      · have e1 : ¬ xs.length = 2 := by
          intro c
          rw [c] at e
          exact absurd e (by decide)
        refine iteT (none_ ?_)
        unfold inner
        split
        · rename_i h; cases h
        · rename_i h
          cases h
          exact absurd hl e1
        · rfl
      · have e1 : xs.length = 2 := by
          have e2 : ¬ ¬ ((xs.length : Nat) : Int) = 2 := fun c => e (by
            show (!decide (V.int ((xs.length : Nat) : Int) = V.int 2)) = true
            rw [decide_eq_false (fun z => c (V.int.inj z))]
            rfl)
          omega
        match xs, ds, hX, e1 with
        | [x, y], [dx, dy], hX, _ =>
          cases hX with
          | cons hx hX =>
          cases hX with
          | cons hy _ =>
          obtain ⟨tx, htx, kx, _⟩ := hx.ty (K := K)
          refine ⟨_, rfl, p, _, 0, x, rfl, rfl, SqT.of hp, at_zero, _, _, _, _, _, rfl, .ty _, htx, kx, _, rfl, ite2 (fun e => ?_) (fun e => ?_)⟩
          · refine none_ ?_
            cases dx with
            | str z => cases e
            | tup _ => rfl
            | lst => rfl
            | flat => rfl
          · cases dx with
            | tup _ => exact absurd rfl e
            | lst => exact absurd rfl e
            | flat => exact absurd rfl e
            | str w =>
              cases hx with
              | str hw =>
              refine ⟨_, rfl, p, _, rfl, SqT.of hp, rfl, _, _, rfl, _, _, rfl, rfl, ?_⟩
              have yes : (w = sMaybe ∨ w = sMany) → ∀ p, H p = none → Q (.ref p) (upd H p (.tup [y])) := fun c p hp => q _ _ (same_upd hp) (by
                rw [inner_pair, innerPair, if_pos c]
                exact ⟨p, [y], rfl, upd_same, .cons (hy.pers (Pers.new hp)) .nil⟩)
              refine ⟨_, rfl, rfl, _, rfl, ite2 (fun e1 => iteT ?_) (fun e1 => ?_)⟩
              · exact ⟨_, rfl, by show 1 ≤ sizeLine; decide, yes (.inl (vstr e1))⟩
              refine ⟨_, rfl, rfl, _, rfl, ite2 (fun e2 => ?_) (fun e2 => ?_)⟩
              · exact ⟨_, rfl, by show 1 ≤ sizeLine; decide, yes (.inr (vstr e2))⟩
              have no1 : ¬ (w = sMaybe ∨ w = sMany) := fun c => c.elim (vstrN e1) (vstrN e2)
              have hfl : w = sJoin ∨ w = sOr → rowFlat dy = true := fun c => by
                cases hF with
                | tup h _ => exact h _ _ rfl c
              have row : (w = sJoin ∨ w = sOr) → ∀ H', Same H H' → (rowOk w dy = true → Q y H') ∧ (¬ rowOk w dy = true → Q .non H') := fun c H' hs => ⟨fun r => q _ _ hs (by
                rw [inner_pair, innerPair, if_neg no1, if_pos ⟨c, r⟩]
                cases dy with
                | tup ds =>
                  obtain ⟨p, xs, rfl, hp, hz, hX⟩ := hy.untup
                  exact ⟨p, xs, rfl, hs _ _ hp, Rep.pers2 (Pers.same hs) hX⟩
                | str z => cases r
                | lst => cases r
                | flat => cases r), fun r => q _ _ hs (by rw [inner_pair, innerPair, if_neg no1, if_neg fun z => r z.2] <;> rfl)⟩
              refine ⟨_, rfl, rfl, _, rfl, ite2 (fun e3 => iteT ?_) (fun e3 => ?_)⟩
              · have c : w = sJoin ∨ w = sOr := .inl (vstr e3)
                refine ⟨_, rfl, _, rfl, y, w, dy, rfl, hy, hfl c, fun H' hs => ⟨_, rfl, ite2 (fun e4 => ?_) (fun e4 => ?_)⟩⟩
                · exact ⟨_, rfl, (row c H' hs).1 e4⟩
                · exact (row c H' hs).2 e4
              refine ⟨_, rfl, rfl, _, rfl, ite2 (fun e4 => ?_) (fun e4 => ?_)⟩
              · have c : w = sJoin ∨ w = sOr := .inr (vstr e4)
                refine ⟨_, rfl, _, rfl, y, w, dy, rfl, hy, hfl c, fun H' hs => ⟨_, rfl, ite2 (fun e4 => ?_) (fun e4 => ?_)⟩⟩
                · exact ⟨_, rfl, (row c H' hs).1 e4⟩
                · exact (row c H' hs).2 e4
              · refine iteF (none_ ?_)
                rw [inner_pair, innerPair, if_neg no1, if_neg fun z => z.1.elim (vstrN e3) (vstrN e4)]
def StkRep (H : Hp) (x : V) (p : D × Nat) : Prop := ∃ t y, x = .ref t ∧ H t = some (.tup [y, .int p.2]) ∧ Rep H y p.1
theorem StkRep.pers {H H' : Hp} (k : Pers H H') {x : V} {p : D × Nat} (h : StkRep H x p) : StkRep H' x p := by
  obtain ⟨t, y, rfl, h1, h2⟩ := h
  exact ⟨t, y, rfl, k.tup _ _ h1, h2.pers k⟩
theorem fl_inner {d : D} {ys : List D} (h : Fl d) (hi : inner d = some ys) : ∀ y ∈ ys, Fl y := by
  intro y hy
  unfold inner at hi
  split at hi
  · split at hi
    · cases hi; cases hy
    · cases hi
  · rename_i w z
    have hz : Fl z := by
      cases h with
      | tup _ k => exact k z (by simp)
    unfold innerPair at hi
    split at hi
    · cases hi
      rw [List.mem_singleton] at hy
      subst hy
      exact hz
    · split at hi
      · cases hz with
        | tup _ k => cases hi; exact k y hy
        | str => cases hi
        | lst => cases hi
        | flat => cases hi
      · cases hi
  · cases hi
theorem len_msr (st : List (D × Nat)) : st.length ≤ msr st := by
  induction st with
  | nil => exact Nat.le_refl _
  | cons p st ih =>
    have := size_pos p.1
    unfold msr at ih ⊢
    rw [List.map_cons, List.sum_cons, List.length_cons]
    omega
structure Loop (H : Hp) (B : Bnd) (d : D) (v : V) (b wt : Addr) (n : Nat) (st : List (D × Nat)) (a : Bnd) (σ : L2.St) (H' : Hp) : Prop where
  sl : ∃ x9 x10 x11, σ = [some v, some (.ref b), some (.int B.1), some (.int B.2.1), some (.int B.2.2), some (.int a.1), some (.int a.2.1), some (.int a.2.2), some (.ref wt), x9, x10, x11, none]
  same : Same H H'
  new : H wt = none
  stk : ∃ xs, H' wt = some (.lst xs) ∧ Two (StkRep H') xs st.reverse
  fl : ∀ p ∈ st, Fl p.1
  ms : msr st < n
  le : msr st ≤ d.size
  eq : look B n st a = sizesOf B d
abbrev N_sizes_within : List Str := ["value", "bounds", "most_places", "most_deep", "most_parts", "many_places", "deepest", "many_parts", "waiting", "part", "deep", "inner", "each"]
theorem sc_sizes_within : FnScope ["value", "bounds", "most_places", "most_deep", "most_parts", "many_places", "deepest", "many_parts", "waiting", "part", "deep", "inner", "each"] ["value", "bounds"] (defScope s_sizes_within) := ⟨rfl, rfl, rfl, by decide +kernel, rfl, by decide +kernel, by decide +kernel⟩
theorem ok_sizes {f : Addr} {fd : FuncData} (Bt : Bt K mg a_BOUNDS a_LONG_BOUNDS tL tM) (D : Df K mg "sizes_within" s_sizes_within ["value", "bounds"] f fd) (G_parts_of : Cl P w K mg base 3 "_parts_of" ["value"] spPartsOf) : FnOk P w K mg base CX0 4 f fd ["value", "bounds"] (spSizes K) := by
  refine D.F.ok sc_sizes_within (fun vs H Q E h => ?_) (fun cdv A outer s H vs Q E hr h => ?_)
  · obtain ⟨v, d, b, B, rfl, _⟩ := h
    rfl
  obtain ⟨v, d, b, ⟨b1, b2, b3⟩, rfl, hR, hF, hZ, hB, q⟩ := h
  have B := Bt
  refine ⟨_, (pss_cons (ps_asg (pv 1) (pg_tup rfl (pgs_cons (pg_name (i := 2) sc_sizes_within.nd rfl (Or.inl rfl)) (pgs_cons (pg_name (i := 3) sc_sizes_within.nd rfl (Or.inl rfl)) (pgs_cons (pg_name (i := 4) sc_sizes_within.nd rfl (Or.inl rfl)) pgs_nil)))))
    (pss_cons (ps_asg (pe_tup (pa_cons pe_int (pa_cons pe_int (pa_cons pe_int pa_nil)))) (pg_tup rfl (pgs_cons (pg_name (i := 5) sc_sizes_within.nd rfl (Or.inl rfl)) (pgs_cons (pg_name (i := 6) sc_sizes_within.nd rfl (Or.inl rfl)) (pgs_cons (pg_name (i := 7) sc_sizes_within.nd rfl (Or.inl rfl)) pgs_nil)))))
    (pss_cons (ps_set (i := 8) sc_sizes_within.nd rfl (Or.inl rfl) (pe_lst (pa_cons (pe_tup (pa_cons (pv 0) (pa_cons pe_int pa_nil))) pa_nil)))
    (pss_cons (ps_while PassesOwn.never (pt_truth (pv 8) (by intro _; rfl)) (pss_cons (ps_asg (pe_bm0 PySem.F.plainAttrs_list PySem.F.slot_list_pop PySem.F.type_list_pop mt_pop (pv 8)) (pg_tup rfl (pgs_cons (pg_name (i := 9) sc_sizes_within.nd rfl (Or.inl rfl)) (pgs_cons (pg_name (i := 10) sc_sizes_within.nd rfl (Or.inr rfl)) pgs_nil))))
    (pss_cons (ps_set (i := 11) sc_sizes_within.nd rfl (Or.inl rfl) (pe_cl G_parts_of (hr.mono (by omega)) rfl (pa_cons (pv 9) pa_nil)))
    (pss_cons (ps_if (pt_cmpR op_isN (pv 11) pe_non (nomark _)) (pss_one (ps_ret pe_non)) pss_nil)
    (C8.pss_cut (ps_if (pt_val (pe_callB call_isi rfl B.b_isinstance boot_isinstance (pa_cons (pv 9) (pa_cons (pe_bltn (v := .ty "str") rfl B.b_str boot_str rfl) pa_nil)))) (pss_one (ps_aug (i := 5) sc_sizes_within.nd rfl (Or.inl rfl) (pe_callB call_len rfl B.b_len boot_len (pa_cons (pv 9) pa_nil)) ip_add)) pss_nil)
    (pss_cons (ps_set (i := 6) sc_sizes_within.nd rfl (Or.inl rfl) (pe_callB (call_max2 rfl) rfl B.b_max boot_max (pa_cons (pv 6) (pa_cons (pv 10) pa_nil))))
    (pss_cons (ps_aug (i := 7) sc_sizes_within.nd rfl (Or.inl rfl) (pe_callB call_len rfl B.b_len boot_len (pa_cons (pv 11) pa_nil)) ip_add)
    (pss_cons (ps_if (PW.pt (pw_or (pt_cmpR op_gt (pv 5) (pv 2) (nomark _)) (pw_or (pt_cmpR op_gt (pv 6) (pv 3) (nomark _)) (pw_or1 (pt_cmpR op_gt (pv 7) (pv 4) (nomark _)))))) (pss_one (ps_ret pe_non)) pss_nil)
    (pss_one (ps_expr (pe_bm PySem.F.plainAttrs_list PySem.F.slot_list_extend PySem.F.type_list_extend mt_extend (pv 8) (pa_cons (pe_lc (own := [("each", 12)]) (g := gName 12) (tt := tYes) rfl sc_sizes_within.nd (pi_tup (pv 11)) (blkOk_by (N := N_sizes_within) (sc := defScope s_sizes_within) (by decide +kernel)) (fun _ _ _ _ _ => pg_name (i := 12) sc_sizes_within.nd rfl (Or.inl rfl)) (fun _ _ _ _ _ => pts_nil) (fun _ _ _ _ _ => (pe_tup (pa_cons (pv 12) (pa_cons (pe_op op_add (pv 10) pe_int) pa_nil))))) pa_nil))))))))))))
    (pss_one (ps_ret (pe_tup (pa_cons (pv 5) (pa_cons (pv 6) (pa_cons (pv 7) pa_nil)))))))))), ?_⟩
  refine ⟨_, rfl, b, _, rfl, hB, rfl, _, _, rfl, _, _, rfl, _, _, rfl, rfl, (by show 3 ≤ sizeLine; decide), fun t0 ht0 => ⟨t0, _, rfl, SqT.of upd_same, rfl, _, _, rfl, _, _, rfl, _, _, rfl, rfl, ?_⟩⟩
  refine ⟨_, rfl, (by show 2 ≤ sizeLine; decide), fun t ht => ⟨(by show 1 ≤ sizeLine; decide), fun wt hwt => ?_⟩⟩
  have ntw : t ≠ wt := fun e => by
    rw [← e, upd_same] at hwt
    cases hwt
  have s1 : Same H (upd (upd (upd H t0 _) t (.tup [v, .int 0])) wt (.lst [.ref t])) := (same_upd ht0).trans ((same_upd ht).trans (same_upd hwt))
  refine ⟨fun n σ' H' => ∃ st a, Loop H (b1, b2, b3) d v b wt n st a σ' H', ⟨d.size + 1, [(d, 0)], (0, 0, 1), ⟨none, none, none, rfl⟩, s1, ((same_upd ht0).trans (same_upd ht)).free hwt, ⟨_, upd_same, ?_⟩, ?_, ?_, ?_, rfl⟩, ?_⟩
  · exact .cons ⟨t, v, rfl, by rw [upd_ne ntw, upd_same] <;> rfl, hR.pers (Pers.same s1)⟩ .nil
  · intro p hp
    rw [List.mem_singleton] at hp
    subst hp
    exact hF
  · show msr [(d, 0)] < d.size + 1
    unfold msr
    simp
  · show msr [(d, 0)] ≤ d.size
    unfold msr
    simp
  rintro n σ' H' ⟨st, a, ⟨x9, x10, x11, rfl⟩, sm, new, ⟨xs, hw, hX⟩, fl, ms, le, eq⟩
  have hlX := hX.len
  refine ⟨_, rfl, _, .inl ⟨_, SqL.of hw, rfl⟩, ite2 (fun e => ?_) (fun e => ?_)⟩
  · -- a turn
    cases st with
    | nil =>
      cases xs with
      | nil => cases e
      | cons x r => cases hX
    | cons p st =>
    obtain ⟨dp, k⟩ := p
    rw [List.reverse_cons] at hX
    obtain ⟨xs', x, rfl, hX', t1, y, rfl, ht1, hy⟩ := hX.unsnoc
    cases n with
    | zero => exact absurd ms (Nat.not_lt_zero _)
    | succ n =>
    have hFd : Fl dp := fl (dp, k) (List.mem_cons_self ..)
    have nt1 : t1 ≠ wt := fun e => by
      rw [e, hw] at ht1
      cases ht1
    refine ⟨fun σ2 H2 => ∃ st a, Loop H (b1, b2, b3) d v b wt n st a σ2 H2, fun σ2 H2 h => ⟨n, Nat.lt_succ_self n, h⟩, ?_⟩
    -- part, deep = waiting.pop()
    have hpop : (xs' ++ [V.ref t1])[(xs' ++ [V.ref t1]).length - 1]? = some (.ref t1) := by
      rw [List.length_append, List.length_singleton, Nat.add_sub_cancel, List.getElem?_append_right (Nat.le_refl _), Nat.sub_self]
      rfl
    have hdrop : (xs' ++ [V.ref t1]).dropLast = xs' := List.dropLast_concat ..
    refine ⟨_, rfl, .inl ⟨rfl, _, SqL.of hw⟩, wt, _, _, rfl, rfl, hw, hpop, t1, _, rfl, SqT.of (by rw [upd_ne nt1]; exact ht1), rfl, _, _, rfl, _, _, rfl, rfl, ?_⟩
    rw [hdrop]
    have P1 : Pers H' (upd H' wt (.lst xs')) := Pers.store hw
    -- inner = _parts_of(part)
    refine ⟨_, rfl, y, dp, rfl, hy.pers P1, hFd, fun r H2 s2 hr2 => ?_⟩
    have P2 : Pers H' H2 := P1.trans (Pers.same s2)
    have hw2 : H2 wt = some (.lst xs') := s2 _ _ upd_same
    have sm2 : Same H H2 := fun b o e => s2 _ _ (by rw [upd_ne (ne_of_none e new)]; exact sm b o e)
    have lk : look (b1, b2, b3) (n + 1) ((dp, k) :: st) a = (match inner dp with | none => none | some ys => if within (b1, b2, b3) (a.1 + places1 dp, max a.2.1 k, a.2.2 + ys.length) = true then look (b1, b2, b3) n ((ys.map fun y => (y, k + 1)).reverse ++ st) (a.1 + places1 dp, max a.2.1 k, a.2.2 + ys.length) else none) := rfl
    rw [eq] at lk
    cases hi : inner dp with
    | none =>
      rw [hi] at lk hr2
      have hr3 : r = .non := hr2
      subst hr3
      refine ⟨_, rfl, rfl, _, rfl, iteT (q _ _ sm2 ?_)⟩
      rw [lk]
      rfl
    | some ys =>
      rw [hi] at lk hr2
      obtain ⟨p, vs, rfl, hp, hV⟩ := hr2
      have hl := hV.len
      have hsz := inner_size hi
      have mst : msr ((dp, k) :: st) = dp.size + msr st := by
        unfold msr
        rw [List.map_cons, List.sum_cons]
      refine ⟨_, rfl, rfl, _, rfl, iteF ?_⟩
      -- if isinstance(part, str): many_places += len(part)
      obtain ⟨ty, hty, k1, _⟩ := (hy.pers P2).ty (K := K)
      refine ⟨fun σ3 H3 => σ3 = [some v, some (.ref b), some (.int b1), some (.int b2), some (.int b3), some (.int ((a.1 + places1 dp : Nat) : Int)), some (.int a.2.1), some (.int a.2.2), some (.ref wt), some y, some (.int k), some (.ref p), none] ∧ H3 = H2, ?_, ?_⟩
      · refine ⟨_, rfl, _, _, _, _, _, rfl, .ty _, hty, k1, _, rfl, ite2 (fun e => ?_) (fun e => ?_)⟩
        · cases dp with
          | str z =>
            cases hy with
            | str hz => exact ⟨_, rfl, _, rfl, _, _, rfl, ⟨Nat.le_trans hz (by decide), rfl⟩, _, _, rfl, rfl, rfl, rfl⟩
          | tup _ => cases e
          | lst => cases e
          | flat => cases e
        · cases dp with
          | str z => exact absurd rfl e
          | tup _ => exact ⟨rfl, rfl⟩
          | lst => exact ⟨rfl, rfl⟩
          | flat => exact ⟨rfl, rfl⟩
      rintro σ3 H3 ⟨rfl, rfl⟩
      -- deepest = max(deepest, deep); many_parts += len(inner)
      refine ⟨_, rfl, _, rfl, _, _, rfl, ?_⟩
      have emax : (if (k : Int) > (a.2.1 : Int) then (k : Int) else (a.2.1 : Int)) = ((max a.2.1 k : Nat) : Int) := by
        split <;> omega
      rw [emax]
      refine ⟨_, rfl, _, rfl, _, ys.length, rfl, .inr ⟨_, SqT.of hp, hl.symm⟩, _, _, rfl, rfl, ?_⟩
      have bad : ¬ within (b1, b2, b3) (a.1 + places1 dp, max a.2.1 k, a.2.2 + ys.length) = true → Q .non H3 := fun c => q _ _ sm2 (by
        rw [lk]
        show SizeR H3 .non (if within (b1, b2, b3) (a.1 + places1 dp, max a.2.1 k, a.2.2 + ys.length) = true then _ else none)
        rw [if_neg c]
        rfl)
      refine ⟨_, rfl, _, rfl, _, _, rfl, rfl, _, rfl, ite2 (fun e1 => ?_) (fun e1 => ?_)⟩
      · refine iteT (bad fun c => ?_)
        have := (within_iff.mp c).1
        have e2 : ((b1 : Nat) : Int) < ((a.1 + places1 dp : Nat) : Int) := of_decide_eq_true e1
        have e3 : a.1 + places1 dp ≤ b1 := this
        omega
      refine ⟨_, rfl, _, rfl, _, _, rfl, rfl, _, rfl, ite2 (fun e2 => ?_) (fun e2 => ?_)⟩
      · refine iteT (bad fun c => ?_)
        have e3 : max a.2.1 k ≤ b2 := (within_iff.mp c).2.1
        have e4 : ((b2 : Nat) : Int) < ((max a.2.1 k : Nat) : Int) := of_decide_eq_true e2
        omega
      refine ⟨_, rfl, _, rfl, _, _, rfl, rfl, _, rfl, ite2 (fun e3 => ?_) (fun e3 => ?_)⟩
      · refine bad fun c => ?_
        have e4 : a.2.2 + ys.length ≤ b3 := (within_iff.mp c).2.2
        have e5 : ((b3 : Nat) : Int) < ((a.2.2 + ys.length : Nat) : Int) := of_decide_eq_true e3
        omega
      have win : within (b1, b2, b3) (a.1 + places1 dp, max a.2.1 k, a.2.2 + ys.length) = true := by
        refine within_iff.mpr ⟨?_, ?_, ?_⟩
        · have e4 : ¬ ((b1 : Nat) : Int) < ((a.1 + places1 dp : Nat) : Int) := fun h => e1 (decide_eq_true h)
          show a.1 + places1 dp ≤ b1
          omega
        · have e4 : ¬ ((b2 : Nat) : Int) < ((max a.2.1 k : Nat) : Int) := fun h => e2 (decide_eq_true h)
          show max a.2.1 k ≤ b2
          omega
        · have e4 : ¬ ((b3 : Nat) : Int) < ((a.2.2 + ys.length : Nat) : Int) := fun h => e3 (decide_eq_true h)
          show a.2.2 + ys.length ≤ b3
          omega
      have lk2 : look (b1, b2, b3) n ((ys.map fun y => (y, k + 1)).reverse ++ st) (a.1 + places1 dp, max a.2.1 k, a.2.2 + ys.length) = sizesOf (b1, b2, b3) d := by
        have lk3 : sizesOf (b1, b2, b3) d = (if within (b1, b2, b3) (a.1 + places1 dp, max a.2.1 k, a.2.2 + ys.length) = true then look (b1, b2, b3) n ((ys.map fun y => (y, k + 1)).reverse ++ st) (a.1 + places1 dp, max a.2.1 k, a.2.2 + ys.length) else none) := lk
        rw [if_pos win] at lk3
        exact lk3.symm
      have ms2 := msr_step (k := k) (st := st) hi
      have lsz : ys.length ≤ (ys.map My.D.size).sum := by
        have := len_msr (ys.map fun y => (y, k + 1))
        unfold msr at this
        rw [List.length_map, List.map_map] at this
        exact this
      -- waiting.extend([(each, deep + 1) for each in inner])
      refine ⟨_, rfl, .inl ⟨rfl, _, SqL.of hw2⟩, _, rfl, p, rfl, ⟨_, SqT.of hp⟩, fun L hL => ?_⟩
      have nL : wt ≠ L := ne_of_none hw2 hL
      refine lc_tup (K := K) (a := p) (xs := vs) (fun i H4 => Same H3 H4 ∧ ∃ zs, H4 L = some (.lst zs) ∧ Two (StkRep H4) zs ((ys.take i).map fun y => (y, k + 1))) ⟨same_upd hL, [], upd_same, .nil⟩ (fun i H4 _ h => SqT.of (h.1 _ _ hp)) (fun i x H4 hx h => ?_) (fun H4 h => ?_)
      · obtain ⟨h1, zs, h2, h3⟩ := h
        obtain ⟨dy, hd, hxd⟩ := hV.get hx
        have hlz := h3.len
        rw [List.length_map, List.length_take] at hlz
        refine ⟨rfl, tyes ⟨_, rfl, _, rfl, _, _, rfl, rfl, (by show 2 ≤ sizeLine; decide), fun t ht => ⟨zs, ?_, ?_, ?_, ?_⟩⟩⟩
        · rw [upd_ne (ne_of_none h2 ht)]
          exact h2
        · have : zs.length ≤ 1000000 := by omega
          exact Nat.lt_of_le_of_lt this (by decide)
        · intro b o e
          rw [upd_ne (ne_of_none e hL), upd_ne (ne_of_none (h1 _ _ e) ht)]
          exact h1 _ _ e
        · refine ⟨_, upd_same, ?_⟩
          have P4 : Pers H4 (upd (upd H4 t (.tup [x, .int ((k : Int) + 1)])) L (.lst (zs ++ [.ref t]))) := (Pers.new ht).trans (Pers.store (by rw [upd_ne (ne_of_none h2 ht)]; exact h2))
          rw [List.take_add_one, hd, List.map_append]
          refine (h3.mono fun _ _ => StkRep.pers P4).app (.cons ⟨t, x, rfl, ?_, hxd.pers ((Pers.same h1).trans P4)⟩ .nil)
          have nt : t ≠ L := fun e => by
            rw [e] at ht
            rw [h2] at ht
            cases ht
          rw [upd_ne nt, upd_same]
          rfl
      · obtain ⟨h1, zs, h2, h3⟩ := h
        rw [hl, List.take_length] at h3
        have hlz := h3.len
        rw [List.length_map] at hlz
        have hw4 := h1 _ _ hw2
        have hlx := hX'.len
        have lst := len_msr st
        rw [List.length_reverse] at hlx
        refine ⟨wt, L, _, _, rfl, rfl, hw4, h2, ?_, ?_⟩
        · have : xs'.length + zs.length ≤ 1000000 := by omega
          exact Nat.le_trans this (by decide)
        · have P4 : Pers H4 (upd H4 wt (.lst (xs' ++ zs))) := Pers.store hw4
          refine ⟨_, _, ⟨_, _, _, rfl⟩, fun b o e => by rw [upd_ne (ne_of_none e new)]; exact h1 _ _ (sm2 b o e), new, ⟨_, upd_same, ?_⟩, ?_, ?_, ?_, lk2⟩
          · rw [List.reverse_append, List.reverse_reverse]
            exact (hX'.mono fun _ _ => StkRep.pers (P2.trans ((Pers.same h1).trans P4))).app (h3.mono fun _ _ => StkRep.pers P4)
          · intro q hq
            rcases List.mem_append.mp hq with hq | hq
            · rw [List.mem_reverse, List.mem_map] at hq
              obtain ⟨y, hy, rfl⟩ := hq
              exact fl_inner hFd hi y hy
            · exact fl q (List.mem_cons_of_mem _ hq)
          · omega
          · omega
  · -- the end
    have e1 : st = [] := by
      cases xs with
      | nil =>
        have : st.reverse.length = 0 := hlX.symm
        rw [List.length_reverse] at this
        exact List.eq_nil_of_length_eq_zero this
      | cons x r => exact absurd rfl e
    subst e1
    have e2 : sizesOf (b1, b2, b3) d = some a := by
      cases n with
      | zero => exact absurd ms (Nat.not_lt_zero _)
      | succ n => exact eq.symm
    refine ⟨_, rfl, _, rfl, _, rfl, (by show 3 ≤ sizeLine; decide), fun p hp => q _ _ (sm.trans (same_upd hp)) ?_⟩
    rw [e2]
    exact ⟨p, rfl, upd_same⟩
abbrev N_is_long : List Str := ["value"]
theorem sc_is_long : FnScope ["value"] ["value"] (defScope s_is_long) := ⟨rfl, rfl, rfl, by decide +kernel, rfl, by decide +kernel, by decide +kernel⟩
theorem ok_islong {f : Addr} {fd : FuncData} (B : Bt K mg a_BOUNDS a_LONG_BOUNDS tL tM) (D : Df K mg "is_long" s_is_long ["value"] f fd) (Gsizes_within : Cl P w K mg base 4 "sizes_within" ["value", "bounds"] (spSizes K)) : FnOk P w K mg base CX0 5 f fd ["value"] (spIs (40, 40, 200)) := by
  refine D.F.ok sc_is_long (fun vs H Q E h => ?_) (fun cdv A outer s H vs Q E hr h => ?_)
  · obtain ⟨v, d, rfl, _⟩ := h
    rfl
  obtain ⟨v, d, rfl, hR, hF, hZ, q⟩ := h
  refine ⟨_, (pss_one (ps_ret (pe_cmpR op_notN (pe_cl Gsizes_within (hr.mono (by omega)) rfl (pa_cons (pv 0) (pa_cons (pe_glob (v := .ref a_LONG_BOUNDS) rfl B.g_LONG_BOUNDS rfl) pa_nil))) pe_non (nomark _)))), ?_⟩
  refine ⟨_, rfl, v, d, a_LONG_BOUNDS, (40, 40, 200), rfl, hR, hF, hZ, B.tG _, fun r H' hs hr2 => ⟨rfl, ?_⟩⟩
  have e : (!decide (r = V.non)) = (sizesOf (40, 40, 200) d).isSome := by
    cases h : sizesOf (40, 40, 200) d with
    | none =>
      rw [h] at hr2
      have : r = .non := hr2
      subst this
      rfl
    | some a =>
      rw [h] at hr2
      obtain ⟨p, rfl, _⟩ := hr2
      rfl
  rw [e]
  exact q _ hs
def isTextD (m : Nat) : My.D → Bool
  | .str z => decide (z.length ≤ m) && z.cps.toList.all (fun c => decide (c ∈ (Str.ofString "abcd").cps.toList))
  | _ => false
def isWord (d : My.D) : Bool := isTextD 24 d
def spIsText : Sp := fun vs H Q _ => ∃ (v : V) (d : My.D) (m : Nat), vs = [v, .int m] ∧ Rep H v d ∧ ∀ H', Same H H' → Q (.bl (isTextD m d)) H'
def spIsWord : Sp := fun vs H Q _ => ∃ (v : V) (d : My.D), vs = [v] ∧ Rep H v d ∧ ∀ H', Same H H' → Q (.bl (isWord d)) H'
end
end My
namespace My
open PySem PySem.Spec PyProof.Rows L2
/-! ### drawn expressions -/
def outS : Option Bool → Str
  | none => sNo
  | some false => sJoin
  | some true => sOr
def rowOf : E → Option Bool
  | .join _ => some false
  | .alt _ => some true
  | _ => none
/-- the parts that a drawn expression of such a depth has at most -/
def pb : Nat → Nat
  | 0 => 1
  | n + 1 => 1 + 3 * pb n
theorem pb_mono {m n : Nat} (h : m ≤ n) : pb m ≤ pb n := by
  induction h with
  | refl => exact Nat.le_refl _
  | step _ ih =>
    refine Nat.le_trans ih ?_
    rw [pb]
    omega
structure Drawn (e : E) (room deep : Nat) (outer : Option Bool) : Prop where
  ok : e.ok = true
  pl : e.places ≤ room
  dp : e.depth ≤ deep
  pt : e.parts ≤ pb deep
  hd : rowOf e = none ∨ rowOf e ≠ outer
def Lets (z : Str) : Prop := 0 < z.length ∧ z.length ≤ 100 ∧ ∀ c ∈ z.cps.toList, 97 ≤ c ∧ c ≤ 100
def spGrown (n : Nat) : Sp := fun vs H Q _ => ∃ (a : Addr) (z : Str) (room deep : Nat) (outer : Option Bool), vs = [.ref a, .str z, .int room, .int deep, .str (outS outer)] ∧ Strm H a ∧ Lets z ∧ room ≤ 100 ∧ deep < n ∧
  ∀ v H' e, Go a H H' → Rep H' v e.toD → Drawn e room deep outer → Q v H'
section
variable {P : Program} {w : World} {K : PySem.W.Frag} {mg : Str → Option Value} {base : Heap} {a_BOUNDS a_LONG_BOUNDS : Addr} {tL tM : Tok}
theorem none_left {f : Addr} {fd : FuncData} {k : Nat} {ps : List Str} {sp : Sp} (no : ∀ vs H Q E, ¬ sp vs H Q E) : FnOk P w K mg base CX0 k f fd ps sp :=
  ⟨fun vs H Q E h => absurd h (no vs H Q E), fun A outer s H args us vs Q E _ _ _ _ h => absurd h (no vs H Q E)⟩
theorem mem_signs {v : V} {z : Str} (h : v ∈ signsV z) : ∃ c ∈ z.cps.toList, v = .str ⟨#[c]⟩ := by
  unfold signsV at h
  rw [List.mem_map] at h
  obtain ⟨c, hc, rfl⟩ := h
  exact ⟨c, hc, rfl⟩
theorem rep_sym {H : Hp} (c : Nat) : Rep H (.str ⟨#[c]⟩) (E.sym c).toD := by
  rw [E.toD]
  exact .str (by show 1 ≤ 1000; decide)
theorem rep_eps {H : Hp} : Rep H (.str sNo) E.eps.toD := by
  rw [E.toD]
  exact .str (by rw [lE]; decide)
theorem drawn_sym {c room deep : Nat} {outer : Option Bool} (h : 97 ≤ c ∧ c ≤ 100) (hr : 0 < room) : Drawn (.sym c) room deep outer where
  ok := by
    rw [E.ok, decide_eq_true h.1, decide_eq_true h.2]
    rfl
  pl := by rw [E.places]; omega
  dp := by rw [E.depth]; omega
  pt := by rw [E.parts]; exact Nat.le_trans (by decide) (pb_mono (Nat.zero_le deep))
  hd := .inl rfl
theorem drawn_eps {room deep : Nat} {outer : Option Bool} : Drawn .eps room deep outer where
  ok := rfl
  pl := by rw [E.places]; omega
  dp := by rw [E.depth]; omega
  pt := by rw [E.parts]; exact Nat.le_trans (by decide) (pb_mono (Nat.zero_le deep))
  hd := .inl rfl
theorem signs_len (z : Str) : (signsV z).length = z.length := by
  unfold signsV
  rw [List.length_map, Array.length_toList]
  rfl
theorem outS_inj {x y : Option Bool} (h : outS x = outS y) : x = y := by
  match x, y, h with
  | none, none, _ => rfl
  | none, some false, h => exact absurd h.symm je
  | none, some true, h => exact absurd h.symm oe
  | some false, none, h => exact absurd h je
  | some true, none, h => exact absurd h oe
  | some false, some false, _ => rfl
  | some true, some true, _ => rfl
  | some false, some true, h => exact absurd h jo
  | some true, some false, h => exact absurd h.symm jo
theorem any_no {α : Type} {p : α → Bool} {xs : List α} (h : ∀ x ∈ xs, p x = false) : xs.any p = false := by
  rw [List.any_eq_false]
  intro x hx c
  rw [h x hx] at c
  cases c
theorem sum_le_mul {es : List E} {f : E → Nat} {n : Nat} (h : ∀ e ∈ es, f e ≤ n) : (es.map f).sum ≤ es.length * n := by
  induction es with
  | nil => exact Nat.zero_le _
  | cons e es ih =>
    have h1 := h e (List.mem_cons_self ..)
    have h2 := ih fun x hx => h x (List.mem_cons_of_mem _ hx)
    rw [List.map_cons, List.sum_cons, List.length_cons, Nat.succ_mul]
    omega
abbrev N__law_grown : List Str := ["stream", "letters", "room", "deep", "outer", "pick", "word", "many", "left", "parts", "k", "share"]
theorem sc__law_grown : FnScope ["stream", "letters", "room", "deep", "outer", "pick", "word", "many", "left", "parts", "k", "share"] ["stream", "letters", "room", "deep", "outer"] (defScope s__law_grown) := ⟨rfl, rfl, rfl, by decide +kernel, rfl, by decide +kernel, by decide +kernel⟩
theorem ok_grown_step {f : Addr} {fd : FuncData} (B : Bt K mg a_BOUNDS a_LONG_BOUNDS tL tM) (Dd : Df K mg "_law_grown" s__law_grown ["stream", "letters", "room", "deep", "outer"] f fd) (G_law_next : Cl P w K mg base 1 "_law_next" ["stream", "many"] spNext) (G_law_pick : Cl P w K mg base 2 "_law_pick" ["stream", "rows"] (spPick K)) (n : Nat)
    (G_law_grown : Cl P w K mg base (n + 2) "_law_grown" ["stream", "letters", "room", "deep", "outer"] (spGrown n)) : FnOk P w K mg base CX0 (n + 3) f fd ["stream", "letters", "room", "deep", "outer"] (spGrown (n + 1)) := by
  refine Dd.F.ok sc__law_grown (fun vs H Q Ex h => ?_) (fun cdv A outer s H vs Q Ex hr h => ?_)
  · obtain ⟨a, z, room, deep, outer, rfl, _⟩ := h
    rfl
  obtain ⟨a, z, room, deep, outer, rfl, hS, hz, hroom, hdeep, q⟩ := h
  refine ⟨_, (pss_cons (ps_set (i := 5) sc__law_grown.nd rfl (Or.inl rfl) (pe_cl G_law_next (hr.mono (by omega)) rfl (pa_cons (pv 0) (pa_cons pe_int pa_nil))))
    (pss_cons (ps_if (PW.pt (pw_or (pt_cmpR op_eq (pv 3) pe_int (nomark _)) (pw_or (pt_cmpR op_eq (pv 2) pe_int (nomark _)) (pw_or1 (pt_cmpR op_eq (pv 5) pe_int (nomark _)))))) (pss_one (ps_ret (pe_ifExp (PW.pt (pw_and (pt_cmpR op_gt (pv 2) pe_int (nomark _)) (pw_and1 (pt_cmpR op_gt (pe_cl G_law_next (hr.mono (by omega)) rfl (pa_cons (pv 0) (pa_cons pe_int pa_nil))) pe_int (nomark _))))) (pe_cl G_law_pick (hr.mono (by omega)) rfl (pa_cons (pv 0) (pa_cons (pe_callTy (call_list_text rfl) rfl B.b_list boot_list (pa_cons (pv 1) pa_nil)) pa_nil))) pe_str))) pss_nil)
    (pss_cons (ps_if (pt_cmpR op_lt (pv 5) pe_int (nomark _)) (pss_one (ps_ret (pe_tup (pa_cons (pe_cl G_law_pick (hr.mono (by omega)) rfl (pa_cons (pv 0) (pa_cons (pe_lst (pa_cons pe_str (pa_cons pe_str pa_nil))) pa_nil))) (pa_cons (pe_cl G_law_grown (hr.mono (by omega)) rfl (pa_cons (pv 0) (pa_cons (pv 1) (pa_cons (pv 2) (pa_cons (pe_op op_sub (pv 3) pe_int) (pa_cons pe_str pa_nil)))))) pa_nil))))) pss_nil)
    (pss_cons (ps_set (i := 6) sc__law_grown.nd rfl (Or.inl rfl) (pe_cl G_law_pick (hr.mono (by omega)) rfl (pa_cons (pv 0) (pa_cons (pe_lst (pa_cons pe_str (pa_cons pe_str pa_nil))) pa_nil))))
    (C8.pss_cut (ps_if (pt_cmpR op_eq (pv 6) (pv 4) (nomark _)) (pss_one (ps_set (i := 6) sc__law_grown.nd rfl (Or.inl rfl) (pe_ifExp (pt_cmpR op_eq (pv 4) pe_str (nomark _)) pe_str pe_str))) pss_nil)
    (pss_cons (ps_set (i := 7) sc__law_grown.nd rfl (Or.inl rfl) (pe_op op_add pe_int (pe_cl G_law_next (hr.mono (by omega)) rfl (pa_cons (pv 0) (pa_cons pe_int pa_nil)))))
    (pss_cons (ps_set (i := 8) sc__law_grown.nd rfl (Or.inl rfl) (pv 2))
    (pss_cons (ps_set (i := 9) sc__law_grown.nd rfl (Or.inl rfl) (pe_lst pa_nil))
    (pss_cons (ps_for PassesOwn.never rfl (pi_range1 rfl B.b_range (pa_cons (pv 7) pa_nil)) (pg_name (i := 10) sc__law_grown.nd rfl (Or.inl rfl)) (C8.pss_cut (ps_set (i := 11) sc__law_grown.nd rfl (Or.inl rfl) (pe_ifExp (pt_cmpR op_eq (pe_op op_add (pv 10) pe_int) (pv 7) (nomark _)) (pv 8) (pe_cl G_law_next (hr.mono (by omega)) rfl (pa_cons (pv 0) (pa_cons (pe_op op_add (pv 8) pe_int) pa_nil)))))
    (pss_cons (ps_set (i := 8) sc__law_grown.nd rfl (Or.inl rfl) (pe_op op_sub (pv 8) (pv 11)))
    (pss_one (ps_expr (pe_bm PySem.F.plainAttrs_list PySem.F.slot_list_append PySem.F.type_list_append mt_append (pv 9) (pa_cons (pe_cl G_law_grown (hr.mono (by omega)) rfl (pa_cons (pv 0) (pa_cons (pv 1) (pa_cons (pv 11) (pa_cons (pe_op op_sub (pv 3) pe_int) (pa_cons (pv 6) pa_nil)))))) pa_nil)))))))
    (pss_one (ps_ret (pe_tup (pa_cons (pv 6) (pa_cons (pe_callTy call_tuple_of rfl B.b_tuple boot_tuple (pa_cons (pv 9) pa_nil)) pa_nil)))))))))))))), ?_⟩
  -- pick
  refine ⟨_, rfl, a, 8, rfl, hS, by decide, by decide, fun d H1 d0 d1 g1 => ?_⟩
  refine ⟨_, rfl, rfl, _, rfl, ite2 (fun e1 => iteT ?_) (fun e1 => ⟨_, rfl, rfl, _, rfl, ite2 (fun e2 => iteT ?_) (fun e2 => ⟨_, rfl, rfl, _, rfl, ite2 (fun e3 => ?_) (fun e3 => ?rest)⟩)⟩)⟩
  case rest =>
    have hd1 : ¬ (deep : Int) = 0 := fun c => e1 (decide_eq_true (congrArg V.int c))
    obtain ⟨m, rfl⟩ : ∃ m, deep = m + 1 := ⟨deep - 1, by omega⟩
    have em : ((m + 1 : Nat) : Int) - 1 = (m : Int) := by omega
    refine ⟨_, rfl, _, _, rfl, rfl, _, rfl, ite2 (fun e4 => ?_) (fun e4 => ?_)⟩
    · -- a maybe, a many
      refine ⟨_, rfl, (by show 2 ≤ sizeLine; decide), fun l hl => ⟨a, l, _, rfl, g1.st.same (same_upd hl), SqL.of upd_same, (g1.st.ne hl).symm, by decide, by decide, fun v H2 hv g2 => ?_⟩⟩
      refine ⟨_, rfl, _, rfl, _, rfl, _, rfl, _, _, rfl, rfl, a, z, room, m, none, congrArg (fun i => [V.ref a, V.str z, V.int room, V.int i, V.str sNo]) em, g2.st, hz, hroom, by omega, fun v' H3 e' g3 r3 d3 => ⟨(by show 2 ≤ sizeLine; decide), fun p hp => ?_⟩⟩
      have G : Go a H (upd H3 p (.tup [v, v'])) := g1.trans ((Go.new g1.st hl).trans (g2.trans (g3.trans (Go.new g3.st hp))))
      have hP : v = .str sMaybe ∨ v = .str sMany := by simpa using hv
      have pbm : pb m + 1 ≤ pb (m + 1) := by rw [pb]; omega
      have R : Rep (upd H3 p (.tup [v, v'])) v' e'.toD := r3.pers (Pers.new hp)
      rcases hP with rfl | rfl
      · refine q _ _ (.maybe e') G ?_ ⟨by rw [E.ok]; exact d3.ok, by rw [E.places]; exact d3.pl, by rw [E.depth]; exact Nat.succ_le_succ d3.dp, by rw [E.parts]; exact Nat.le_trans (Nat.succ_le_succ d3.pt) pbm, .inl rfl⟩
        rw [E.toD]
        exact Rep.tup2 upd_same (by show 2 ≤ 100000; decide) (.cons (.str (by rw [lM]; decide)) (.cons R .nil))
      · refine q _ _ (.many e') G ?_ ⟨by rw [E.ok]; exact d3.ok, by rw [E.places]; exact d3.pl, by rw [E.depth]; exact Nat.succ_le_succ d3.dp, by rw [E.parts]; exact Nat.le_trans (Nat.succ_le_succ d3.pt) pbm, .inl rfl⟩
        rw [E.toD]
        exact Rep.tup2 upd_same (by show 2 ≤ 100000; decide) (.cons (.str (by rw [lN]; decide)) (.cons R .nil))
    · -- a row
      refine ⟨_, rfl, (by show 2 ≤ sizeLine; decide), fun l hl => ⟨a, l, _, rfl, g1.st.same (same_upd hl), SqL.of upd_same, (g1.st.ne hl).symm, by decide, by decide, fun v H2 hv g2 => ?_⟩⟩
      have G2 : Go a H H2 := g1.trans ((Go.new g1.st hl).trans g2)
      obtain ⟨wb, rfl⟩ : ∃ wb : Bool, v = .str (outS (some wb)) := by
        have hP : v = .str sJoin ∨ v = .str sOr := by simpa using hv
        rcases hP with rfl | rfl
        · exact ⟨false, rfl⟩
        · exact ⟨true, rfl⟩
      refine ⟨fun σ' H' => ∃ wb : Bool, some wb ≠ outer ∧ σ' = [some (.ref a), some (.str z), some (.int room), some (.int ((m + 1 : Nat) : Int)), some (.str (outS outer)), some (.int d), some (.str (outS (some wb))), none, none, none, none, none] ∧ H' = H2, ?_, ?_⟩
      · refine ⟨_, rfl, _, rfl, rfl, _, rfl, ite2 (fun e5 => ?_) (fun e5 => ?_)⟩
        · have e6 := outS_inj (vstr e5)
          subst e6
          refine ⟨_, rfl, rfl, _, rfl, ite2 (fun e7 => ?_) (fun e7 => ?_)⟩
          · have e8 : outS (some wb) = outS (some false) := vstr e7
            have e9 := outS_inj e8
            refine ⟨true, fun c => ?_, rfl, rfl⟩
            rw [← c] at e9
            cases e9
          · have e8 : ¬ outS (some wb) = outS (some false) := vstrN e7
            refine ⟨false, fun c => ?_, rfl, rfl⟩
            rw [c] at e8
            exact e8 rfl
        · exact ⟨wb, fun c => vstrN e5 (congrArg outS c), rfl, rfl⟩
      · clear wb hv
        rintro σ' H' ⟨wb, hwo, rfl, rfl⟩
        refine ⟨_, rfl, a, 2, rfl, G2.st, by decide, by decide, fun d2 H3 d20 d21 g3 => ⟨_, _, rfl, rfl, _, rfl, (by show 0 ≤ sizeLine; decide), fun pl hpl => ?_⟩⟩
        have hpa : pl ≠ a := (g3.st.ne hpl).symm
        have G3 : Go a H (upd H3 pl (.lst [])) := G2.trans (g3.trans (Go.new g3.st hpl))
        have nH : H pl = none := by
          cases c : H pl with
          | none => rfl
          | some o =>
            have := (G2.trans g3).keep _ _ c hpa
            rw [hpl] at this
            cases this
        refine ⟨_, rfl, _, rfl, by omega, by omega, for_range (lo := 0) (n := (2 + d2).toNat) (fun i σ' H' => ∃ (left : Int) (xs : List V) (es : List E) (kk sh : Option V), σ' = [some (.ref a), some (.str z), some (.int room), some (.int ((m + 1 : Nat) : Int)), some (.str (outS outer)), some (.int d), some (.str (outS (some wb))), some (.int (2 + d2)), some (.int left), some (.ref pl), kk, sh] ∧ Go a H H' ∧ H' pl = some (.lst xs) ∧ Two (Rep H') xs (es.map E.toD) ∧ es.length = i ∧ 0 ≤ left ∧ left + ((es.map E.places).sum : Nat) ≤ room ∧ ∀ e ∈ es, Drawn e room m (some wb)) ?_ ?_ ?_⟩
        · exact ⟨room, [], [], none, none, rfl, G3, upd_same, .nil, rfl, by omega, by show (room : Int) + ((0 : Nat) : Int) ≤ room; omega, fun e he => by cases he⟩
        · rintro i σ' H4 hi ⟨left, xs, es, kk, sh, rfl, G4, h4, hX, hle, hl0, hls, hdr⟩
          refine ⟨fun σ' H' => ∃ share : Int, 0 ≤ share ∧ share ≤ left ∧ σ' = [some (.ref a), some (.str z), some (.int room), some (.int ((m + 1 : Nat) : Int)), some (.str (outS outer)), some (.int d), some (.str (outS (some wb))), some (.int (2 + d2)), some (.int left), some (.ref pl), some (.int (0 + i)), some (.int share)] ∧ Go a H4 H', ?_, ?_⟩
          · refine ⟨_, rfl, _, _, rfl, rfl, _, rfl, rfl, _, rfl, ite2 (fun e5 => ?_) (fun e5 => ?_)⟩
            · exact ⟨_, rfl, left, hl0, Int.le_refl _, rfl, Go.refl G4.st⟩
            · exact ⟨_, rfl, _, rfl, _, _, rfl, rfl, a, left + 1, rfl, G4.st, by omega, by omega, fun d5 H5 d50 d51 g5 => ⟨d5, d50, by omega, rfl, g5⟩⟩
          · rintro σ' H5 ⟨share, hs0, hs1, rfl, g5⟩
            have h5 := g5.keep _ _ h4 hpa
            refine ⟨_, rfl, _, rfl, _, _, rfl, rfl, _, rfl, .inl ⟨rfl, _, SqL.of h5⟩, _, rfl, _, rfl, _, rfl, _, rfl, _, _, rfl, rfl, _, rfl, a, z, share.toNat, m, some wb, ?_, g5.st, hz, by omega, by omega, fun v6 H6 e6 g6 r6 dr6 => ?_⟩
            · have e1 : share = ((share.toNat : Nat) : Int) := by omega
              have e2 : ∀ i j i' j' : Int, i = i' → j = j' → ([V.ref a, V.str z, V.int i, V.int j, V.str (outS (some wb))] : List V) = [V.ref a, V.str z, V.int i', V.int j', V.str (outS (some wb))] := fun i j i' j' h h' => by rw [h, h']
              exact e2 _ _ _ _ e1 em
            · have h6 := g6.keep _ _ h5 hpa
              have hlx := hX.len
              rw [List.length_map] at hlx
              have P6 : Pers H4 (upd H6 pl (.lst (xs ++ [v6]))) := (g5.pers.trans g6.pers).trans (Pers.store h6)
              refine ⟨pl, xs, v6, rfl, rfl, h6, Nat.lt_of_le_of_lt (m := 100) (by omega) (by decide), ?_⟩
              refine ⟨left - share, _, es ++ [e6], _, _, rfl, ?_, upd_same, ?_, ?_, by omega, ?_, ?_⟩
              · exact (G4.trans (g5.trans g6)).loc nH
              · rw [List.map_append]
                exact (Rep.pers2 P6 hX).app (.cons (r6.pers (Pers.store h6)) .nil)
              · rw [List.length_append, hle]
                rfl
              · rw [List.map_append, List.sum_append]
                have := dr6.pl
                show left - share + (((es.map E.places).sum + (e6.places + 0) : Nat) : Int) ≤ room
                omega
              · intro e he
                rcases List.mem_append.mp he with he | he
                · exact hdr e he
                · rw [List.mem_singleton] at he
                  subst he
                  exact ⟨dr6.ok, by have := dr6.pl; omega, dr6.dp, dr6.pt, dr6.hd⟩
        · rintro σ' H4 ⟨left, xs, es, kk, sh, rfl, G4, h4, hX, hle, hl0, hls, hdr⟩
          refine ⟨_, rfl, _, rfl, pl, xs, rfl, .inl ⟨SqL.of h4, fun l hl => ⟨(by show 2 ≤ sizeLine; decide), fun p hp => ?_⟩⟩⟩
          have G : Go a H (upd (upd H4 l (.tup xs)) p (.tup [.str (outS (some wb)), .ref l])) := G4.trans ((Go.new G4.st hl).trans (Go.new (G4.st.same (same_upd hl)) hp))
          have hln : l ≠ p := fun c => by
            rw [← c, upd_same] at hp
            cases hp
          have hlx := hX.len
          rw [List.length_map] at hlx
          have R : Rep (upd (upd H4 l (.tup xs)) p (.tup [.str (outS (some wb)), .ref l])) (.ref l) (.tup (es.map E.toD)) := Rep.tup2 (by rw [upd_ne hln]; exact upd_same) (by omega) (Rep.pers2 ((Pers.new hl).trans (Pers.new hp)) hX)
          have hsum : (es.map E.places).sum ≤ room := by omega
          have hdep : E.depth.depths es ≤ m := depths_le fun e he => (hdr e he).dp
          have hpar : (es.map E.parts).sum + 1 ≤ pb (m + 1) := by
            have := sum_le_mul (es := es) (f := E.parts) (n := pb m) fun e he => (hdr e he).pt
            have l3 : es.length ≤ 3 := by omega
            have := Nat.mul_le_mul_right (pb m) l3
            rw [pb]
            omega
          have hok : es.all E.ok = true := List.all_eq_true.mpr fun e he => (hdr e he).ok
          have h2 : decide (2 ≤ es.length) = true := decide_eq_true (by omega)
          cases wb with
          | false =>
            refine q _ _ (.join es) G ?_ ⟨?_, by rw [E.places, placess_eq]; exact hsum, by rw [E.depth]; exact Nat.succ_le_succ hdep, by rw [E.parts, partss_eq]; exact hpar, .inr hwo⟩
            · rw [E.toD, toDs_eq]
              exact Rep.tup2 upd_same (by show 2 ≤ 100000; decide) (.cons (.str (by show sJoin.length ≤ 1000; rw [lJ]; decide)) (.cons R .nil))
            · have : es.any isJoin = false := any_no fun e he => by
                have := (hdr e he).hd
                cases e <;> first | rfl | exact absurd (this.resolve_left (by intro c; cases c)) (fun c => c rfl)
              rw [E.ok, oks_eq, h2, hok, this]
              rfl
          | true =>
            refine q _ _ (.alt es) G ?_ ⟨?_, by rw [E.places, placess_eq]; exact hsum, by rw [E.depth]; exact Nat.succ_le_succ hdep, by rw [E.parts, partss_eq]; exact hpar, .inr hwo⟩
            · rw [E.toD, toDs_eq]
              exact Rep.tup2 upd_same (by show 2 ≤ 100000; decide) (.cons (.str (by show sOr.length ≤ 1000; rw [lO]; decide)) (.cons R .nil))
            · have : es.any isAlt = false := any_no fun e he => by
                have := (hdr e he).hd
                cases e <;> first | rfl | exact absurd (this.resolve_left (by intro c; cases c)) (fun c => c rfl)
              rw [E.ok, oks_eq, h2, hok, this]
              rfl
  all_goals
    refine ⟨_, rfl, _, _, rfl, rfl, _, rfl, ite2 (fun e5 => ?_) (fun e5 => ?_)⟩
    · have hr0 : 0 < room := by
        have : (0 : Int) < (room : Int) := of_decide_eq_true e5
        omega
      refine ⟨_, rfl, a, 8, rfl, g1.st, by decide, by decide, fun d2 H2 d20 d21 g2 => ⟨_, _, rfl, rfl, _, rfl, ite2 (fun e6 => ?_) (fun e6 => ?_)⟩⟩
      · refine ⟨_, rfl, _, rfl, z, rfl, Nat.le_trans hz.2.1 (by decide), fun l hl => ⟨a, l, signsV z, rfl, g2.st.same (same_upd hl), SqL.of upd_same, (g2.st.ne hl).symm, ?_, ?_, fun v H3 hv g3 => ?_⟩⟩
        · rw [signs_len]
          exact hz.1
        · rw [signs_len]
          exact Nat.lt_of_le_of_lt hz.2.1 (by decide)
        · obtain ⟨c, hc, rfl⟩ := mem_signs hv
          exact q _ _ (.sym c) (g1.trans (g2.trans ((Go.new g2.st hl).trans g3))) (rep_sym c) (drawn_sym (hz.2.2 c hc) hr0)
      · exact q _ _ .eps (g1.trans g2) rep_eps drawn_eps
    · exact iteF (q _ _ .eps g1 rep_eps drawn_eps)
end
end My
namespace My
open PySem PySem.Spec PyProof.Rows L2
def spExpr : Sp := fun vs H Q _ => ∃ (a : Addr) (most : Nat), vs = [.ref a, .int most] ∧ Strm H a ∧ 1 ≤ most ∧ most ≤ 50 ∧ ∀ v H' e, Go a H H' → Rep H' v e.toD → Drawn e most 4 none → Q v H'
def spEqual (n : Nat) : Sp := fun vs H Q _ => ∃ (x y : V) (j : J) (k : Nat), vs = [x, y] ∧ k < n ∧ RepJ H x j k ∧ RepJ H y j k ∧ ∀ H', Same H H' → Q (.bl true) H'
def spInside : Sp := fun vs H Q _ => ∃ (v : V) (e : E), vs = [v] ∧ e.ok = true ∧ Rep H v e.toD ∧ ∀ p xs H', Same H H' → H' p = some (.tup xs) → xs.length ≤ 100000 → Two (Rep H') xs (e.kids.map E.toD) → Q (.ref p) H'
def spCount (n : Nat) : Sp := fun vs H Q _ => ∃ (v : V) (e : E), vs = [v] ∧ e.ok = true ∧ e.depth < n ∧ Rep H v e.toD ∧ ∀ H', Same H H' → Q (.int e.parts) H'
section
variable {P : Program} {w : World} {K : PySem.W.Frag} {mg : Str → Option Value} {base : Heap} {a_BOUNDS a_LONG_BOUNDS : Addr} {tL tM : Tok}
theorem Drawn.mono {e : E} {r r' d d' : Nat} {o : Option Bool} (h : Drawn e r d o) (hr : r ≤ r') (hd : d ≤ d') : Drawn e r' d' none where
  ok := h.ok
  pl := Nat.le_trans h.pl hr
  dp := Nat.le_trans h.dp hd
  pt := Nat.le_trans h.pt (pb_mono hd)
  hd := by
    cases e with
    | join es => exact .inr fun c => by cases c
    | alt es => exact .inr fun c => by cases c
    | _ => exact .inl rfl
theorem lets_by {z : Str} (h : (decide (0 < z.length) && decide (z.length ≤ 100) && z.cps.toList.all fun c => decide (97 ≤ c) && decide (c ≤ 100)) = true) : Lets z := by
  simp only [Bool.and_eq_true, decide_eq_true_eq, List.all_eq_true] at h
  exact ⟨h.1.1, h.1.2, h.2⟩
abbrev N__law_expression : List Str := ["stream", "most", "letters"]
theorem sc__law_expression : FnScope ["stream", "most", "letters"] ["stream", "most"] (defScope s__law_expression) := ⟨rfl, rfl, rfl, by decide +kernel, rfl, by decide +kernel, by decide +kernel⟩
theorem ok_expr {f : Addr} {fd : FuncData} (B : Bt K mg a_BOUNDS a_LONG_BOUNDS tL tM) (Dd : Df K mg "_law_expression" s__law_expression ["stream", "most"] f fd) (G_law_next : Cl P w K mg base 1 "_law_next" ["stream", "many"] spNext) (G_law_pick : Cl P w K mg base 2 "_law_pick" ["stream", "rows"] (spPick K))
    (G_law_grown : Cl P w K mg base 7 "_law_grown" ["stream", "letters", "room", "deep", "outer"] (spGrown 5)) : FnOk P w K mg base CX0 8 f fd ["stream", "most"] spExpr := by
  refine Dd.F.ok sc__law_expression (fun vs H Q Ex h => ?_) (fun cdv A outer s H vs Q Ex hr h => ?_)
  · obtain ⟨a, most, rfl, _⟩ := h
    rfl
  obtain ⟨a, most, rfl, hS, hm1, hm2, q⟩ := h
  refine ⟨_, (pss_cons (ps_set (i := 2) sc__law_expression.nd rfl (Or.inl rfl) (pe_cl G_law_pick (hr.mono (by omega)) rfl (pa_cons (pv 0) (pa_cons (pe_lst (pa_cons pe_str (pa_cons pe_str (pa_cons pe_str (pa_cons pe_str (pa_cons pe_str (pa_cons pe_str pa_nil))))))) pa_nil))))
    (pss_one (ps_ret (pe_cl G_law_grown (hr.mono (by omega)) rfl (pa_cons (pv 0) (pa_cons (pv 2) (pa_cons (pe_op op_add pe_int (pe_cl G_law_next (hr.mono (by omega)) rfl (pa_cons (pv 0) (pa_cons (pv 1) pa_nil)))) (pa_cons (pe_op op_add pe_int (pe_cl G_law_next (hr.mono (by omega)) rfl (pa_cons (pv 0) (pa_cons pe_int pa_nil)))) (pa_cons pe_str pa_nil))))))))), ?_⟩
  refine ⟨_, rfl, (by show 6 ≤ sizeLine; decide), fun l hl => ⟨a, l, _, rfl, hS.same (same_upd hl), SqL.of upd_same, (hS.ne hl).symm, by decide, by decide, fun v H1 hv g1 => ?_⟩⟩
  have G1 : Go a H H1 := (Go.new hS hl).trans g1
  obtain ⟨z, rfl, hz⟩ : ∃ z, v = .str z ∧ Lets z := by
    simp only [List.mem_cons, List.not_mem_nil, or_false] at hv
    rcases hv with rfl | rfl | rfl | rfl | rfl | rfl <;> exact ⟨_, rfl, lets_by (by decide +kernel)⟩
  refine ⟨_, rfl, _, rfl, _, rfl, _, rfl, a, most, rfl, G1.st, by omega, by omega, fun d H2 d0 d1 g2 => ⟨_, _, rfl, rfl, _, rfl, a, 4, rfl, g2.st, by decide, by decide, fun d' H3 d0' d1' g3 => ⟨_, _, rfl, rfl, a, z, (1 + d).toNat, (1 + d').toNat, none, ?_, g3.st, hz, by omega, by omega, fun v' H4 e g4 r4 dr => ?_⟩⟩⟩
  · have e1 : 1 + d = (((1 + d).toNat : Nat) : Int) := by omega
    have e2 : 1 + d' = (((1 + d').toNat : Nat) : Int) := by omega
    have e3 : ∀ i j i' j' : Int, i = i' → j = j' → ([V.ref a, V.str z, V.int i, V.int j, V.str sNo] : List V) = [V.ref a, V.str z, V.int i', V.int j', V.str sNo] := fun i j i' j' h h' => by rw [h, h']
    exact e3 _ _ _ _ e1 e2
  · exact q v' H4 e (G1.trans (g2.trans (g3.trans g4))) r4 (dr.mono (by omega) (by omega))
theorem sum_cast (es : List E) (f : E → Nat) : (es.map fun k => ((f k : Nat) : Int)).sum = (((es.map f).sum : Nat) : Int) := by
  induction es with
  | nil => rfl
  | cons e es ih =>
    rw [List.map_cons, List.sum_cons, List.map_cons, List.sum_cons, ih]
    omega
abbrev N__law_inside : List Str := ["expression"]
theorem sc__law_inside : FnScope ["expression"] ["expression"] (defScope s__law_inside) := ⟨rfl, rfl, rfl, by decide +kernel, rfl, by decide +kernel, by decide +kernel⟩
theorem ok_inside {f : Addr} {fd : FuncData} (B : Bt K mg a_BOUNDS a_LONG_BOUNDS tL tM) (Dd : Df K mg "_law_inside" s__law_inside ["expression"] f fd) : FnOk P w K mg base CX0 1 f fd ["expression"] spInside := by
  refine Dd.F.ok sc__law_inside (fun vs H Q Ex h => ?_) (fun cdv A outer s H vs Q Ex hr h => ?_)
  · obtain ⟨v, e, rfl, _⟩ := h
    rfl
  obtain ⟨v, e, rfl, hok, hR, q⟩ := h
  refine ⟨_, (pss_cons (ps_if (pt_val (pe_callB call_isi rfl B.b_isinstance boot_isinstance (pa_cons (pv 0) (pa_cons (pe_bltn (v := .ty "str") rfl B.b_str boot_str rfl) pa_nil)))) (pss_one (ps_ret (pe_tup pa_nil))) pss_nil)
    (pss_one (ps_ret (pe_ifExp (pt_cmpR op_in_seq (pe_ix (r := rIxT K) ix_tup (pv 0) pe_int (fun _ _ => rfl)) (pe_lst (pa_cons pe_str (pa_cons pe_str pa_nil))) rfl) (pe_tup (pa_cons (pe_ix (r := rIxT K) ix_tup (pv 0) pe_int (fun _ _ => rfl)) pa_nil)) (pe_ix (r := rIxT K) ix_tup (pv 0) pe_int (fun _ _ => rfl)))))), ?_⟩
  obtain ⟨t, ht, k1, _⟩ := hR.ty (K := K)
  refine ⟨_, rfl, _, _, _, _, _, rfl, .ty _, ht, k1, _, rfl, ite2 (fun e1 => ?_) (fun e1 => ?_)⟩
  · refine ⟨(by decide), fun p hp => ?_⟩
    have : e.kids = [] := by
      cases e <;> first | rfl | (rw [E.toD] at e1; exact absurd e1 (by intro c; cases c))
    refine q p [] _ (same_upd hp) upd_same (by decide) ?_
    rw [this]
    exact .nil
  · obtain ⟨w, y, hc, hk⟩ : ∃ w y, e.toD = .tup [.str w, y] ∧ ((inV (V.str w) [V.str sMaybe, V.str sMany] = true ∧ e.kids.map E.toD = [y]) ∨ (inV (V.str w) [V.str sMaybe, V.str sMany] = false ∧ y = .tup (e.kids.map E.toD))) := by
      cases e with
      | eps => exact absurd (by rw [E.toD]; rfl) e1
      | sym c => exact absurd (by rw [E.toD]; rfl) e1
      | maybe k => exact ⟨sMaybe, k.toD, by rw [E.toD], .inl ⟨by decide +kernel, rfl⟩⟩
      | many k => exact ⟨sMany, k.toD, by rw [E.toD], .inl ⟨by decide +kernel, rfl⟩⟩
      | join es => exact ⟨sJoin, .tup (es.map E.toD), by rw [E.toD, toDs_eq], .inr ⟨by decide +kernel, rfl⟩⟩
      | alt es => exact ⟨sOr, .tup (es.map E.toD), by rw [E.toD, toDs_eq], .inr ⟨by decide +kernel, rfl⟩⟩
    rw [hc] at hR
    obtain ⟨p, xs, rfl, hp, hz, hX⟩ := hR.untup
    match xs, hX with
    | [_, x], .cons (.str _) (.cons hx .nil) =>
    refine ⟨_, rfl, p, _, 0, _, rfl, rfl, SqT.of hp, at_zero, (by show 2 ≤ sizeLine; decide), fun l hl => ⟨l, _, rfl, .inl (SqL.of upd_same), rfl, rfl, _, rfl, ?_⟩⟩
    have hp2 : (upd H l (.lst [V.str sMaybe, V.str sMany])) p = some (.tup [.str w, x]) := by rw [upd_ne (ne_of_none hp hl)]; exact hp
    refine ite2 (fun e2 => ?_) (fun e2 => ?_)
    · have h1 := hk.resolve_right fun c => by
        have e3 : inV (V.str w) [V.str sMaybe, V.str sMany] = true := e2
        rw [c.1] at e3
        cases e3
      refine ⟨_, rfl, p, _, 1, x, rfl, rfl, SqT.of hp2, at_one, (by show 1 ≤ sizeLine; decide), fun p3 hp3 => ?_⟩
      refine q p3 [x] _ ((same_upd hl).trans (same_upd hp3)) upd_same (by show 1 ≤ 100000; decide) ?_
      rw [h1.2]
      exact .cons (hx.pers ((Pers.new hl).trans (Pers.new hp3))) .nil
    · have h1 := hk.resolve_left fun c => e2 c.1
      refine ⟨_, rfl, p, _, 1, x, rfl, rfl, SqT.of hp2, at_one, ?_⟩
      rw [h1.2] at hx
      obtain ⟨p2, xs, rfl, h2, hz, hX⟩ := hx.untup
      exact q p2 xs _ (same_upd hl) (by rw [upd_ne (ne_of_none h2 hl)]; exact h2) hz (Rep.pers2 (Pers.new hl) hX)
/-! ### the law's own comparison, of equal data -/
def SeqV (K : PySem.W.Frag) (H : Hp) (p : Addr) (xs : List V) : Prop := SqL K H p xs ∨ SqT K H p xs
theorem SeqV.len {K : PySem.W.Frag} {H : Hp} {p : Addr} {xs : List V} (h : SeqV K H p xs) {n : Nat} (e : n = xs.length) : LenV K (.ref p) H n := by
  rcases h with h | h
  · exact .inl ⟨xs, h, e⟩
  · exact .inr ⟨xs, h, e⟩
theorem SeqV.ix {K : PySem.W.Frag} {H : Hp} {p : Addr} {xs : List V} (h : SeqV K H p xs) {i : Int} {v : V} {Q : VK} (hi : atI xs i = some v) (q : Q v H) : rIx K (.ref p) (.int i) H Q := by
  rcases h with h | h
  · exact .inl ⟨p, xs, i, v, rfl, rfl, h, hi, q⟩
  · exact .inr (.inl ⟨p, xs, i, v, rfl, rfl, h, hi, q⟩)
theorem SeqV.same {K : PySem.W.Frag} {H H' : Hp} {p : Addr} {xs : List V} (s : Same H H') (h : SeqV K H p xs) : SeqV K H' p xs := by
  rcases h with h | h
  · exact .inl (s.seq h)
  · rcases h with (h | ⟨o, h⟩) | h
    · exact .inr (.inl (.inl (s _ _ h)))
    · exact .inr (.inl (.inr ⟨o, s _ _ h⟩))
    · exact .inr (.inr h)
theorem RepJ.both {K : PySem.W.Frag} {H : Hp} {x y : V} {j : J} {k : Nat} (hx : RepJ H x j k) (hy : RepJ H y j k) : (x = .non ∧ y = .non) ∨ (∃ b, x = .bl b ∧ y = .bl b) ∨ (∃ i, x = .int i ∧ y = .int i) ∨ (∃ z, x = .str z ∧ y = .str z) ∨
    ∃ (isT : Bool) (p q : Addr) (xs ys : List V) (js : List J) (k' : Nat), k = k' + 1 ∧ x = .ref p ∧ y = .ref q ∧ TyX K H x (.type (if isT then "tuple" else "list")) ∧ TyX K H y (.type (if isT then "tuple" else "list")) ∧ SeqV K H p xs ∧ SeqV K H q ys ∧ xs.length ≤ 100000 ∧ xs.length = js.length ∧ ys.length = js.length ∧
      (∀ (i : Nat) (x : V) (j : J), xs[i]? = some x → js[i]? = some j → RepJ H x j k') ∧ (∀ (i : Nat) (x : V) (j : J), ys[i]? = some x → js[i]? = some j → RepJ H x j k') := by
  cases hx with
  | non => cases hy; exact .inl ⟨rfl, rfl⟩
  | bl b => cases hy; exact .inr (.inl ⟨b, rfl, rfl⟩)
  | int i => cases hy; exact .inr (.inr (.inl ⟨i, rfl, rfl⟩))
  | str z => cases hy; exact .inr (.inr (.inr (.inl ⟨z, rfl, rfl⟩)))
  | @tup n p xs js h z l r =>
    cases hy with
    | @tup _ q ys _ h' z' l' r' => exact .inr (.inr (.inr (.inr ⟨true, p, q, xs, ys, js, n, rfl, rfl, rfl, .base (.tup h), .base (.tup h'), .inr (SqT.of h), .inr (SqT.of h'), z, l, l', r, r'⟩)))
  | @lst n p xs js h z l r =>
    cases hy with
    | @lst _ q ys _ h' z' l' r' => exact .inr (.inr (.inr (.inr ⟨false, p, q, xs, ys, js, n, rfl, rfl, rfl, .base (.lst h), .base (.lst h'), .inl (SqL.of h), .inl (SqL.of h'), z, l, l', r, r'⟩)))
def spIsInt : Sp := fun vs H Q _ => ∃ i : Int, vs = [.int i] ∧ Q (.bl true) H
abbrev N__law_is_integer : List Str := ["actual"]
theorem sc__law_is_integer : FnScope ["actual"] ["actual"] (defScope s__law_is_integer) := ⟨rfl, rfl, rfl, by decide +kernel, rfl, by decide +kernel, by decide +kernel⟩
theorem ok_isint {f : Addr} {fd : FuncData} (B : Bt K mg a_BOUNDS a_LONG_BOUNDS tL tM) (Dd : Df K mg "_law_is_integer" s__law_is_integer ["actual"] f fd) : FnOk P w K mg base CX0 1 f fd ["actual"] spIsInt := by
  refine Dd.F.ok sc__law_is_integer (fun vs H Q Ex h => ?_) (fun cdv A outer s H vs Q Ex hr h => ?_)
  · obtain ⟨i, rfl, _⟩ := h
    rfl
  obtain ⟨i, rfl, q⟩ := h
  refine ⟨_, (pss_one (ps_ret (pe_and (pe_callB call_isi rfl B.b_isinstance boot_isinstance (pa_cons (pv 0) (pa_cons (pe_bltn (v := .ty "int") rfl B.b_int boot_int rfl) pa_nil))) (pe_one (pe_not (pe_callB call_isi rfl B.b_isinstance boot_isinstance (pa_cons (pv 0) (pa_cons (pe_bltn (v := .ty "bool") rfl B.b_bool boot_bool rfl) pa_nil)))))))), ?_⟩
  have T : TyX K H (.int i) (.type "int") := .base (.int i)
  exact ⟨_, rfl, _, _, _, _, _, rfl, .ty _, T, kit_ty (r := true) (by decide +kernel), _, rfl, iteT ⟨_, rfl, _, _, _, _, _, rfl, .ty _, T, kit_ty (r := false) (by decide +kernel), _, rfl, q⟩⟩
abbrev N__law_equal : List Str := ["actual", "due", "at"]
theorem sc__law_equal : FnScope ["actual", "due", "at"] ["actual", "due"] (defScope s__law_equal) := ⟨rfl, rfl, rfl, by decide +kernel, rfl, by decide +kernel, by decide +kernel⟩
theorem ok_equal_step {f : Addr} {fd : FuncData} (B : Bt K mg a_BOUNDS a_LONG_BOUNDS tL tM) (Dd : Df K mg "_law_equal" s__law_equal ["actual", "due"] f fd) (G_law_is_integer : Cl P w K mg base 1 "_law_is_integer" ["actual"] spIsInt) (n : Nat)
    (G_law_equal : Cl P w K mg base (n + 1) "_law_equal" ["actual", "due"] (spEqual n)) : FnOk P w K mg base CX0 (n + 2) f fd ["actual", "due"] (spEqual (n + 1)) := by
  refine Dd.F.ok sc__law_equal (fun vs H Q Ex h => ?_) (fun cdv A outer s H vs Q Ex hr h => ?_)
  · obtain ⟨x, y, j, k, rfl, _⟩ := h
    rfl
  obtain ⟨x, y, j, k, rfl, hk, hx, hy, q⟩ := h
  refine ⟨_, (pss_cons (ps_if (pt_cmpR op_isN (pv 1) pe_non (nomark _)) (pss_one (ps_ret (pe_cmpR op_isN (pv 0) pe_non (nomark _)))) pss_nil)
    (pss_cons (ps_if (pt_val (pe_callB call_isi rfl B.b_isinstance boot_isinstance (pa_cons (pv 1) (pa_cons (pe_bltn (v := .ty "bool") rfl B.b_bool boot_bool rfl) pa_nil)))) (pss_one (ps_ret (pe_and (pe_callB call_isi rfl B.b_isinstance boot_isinstance (pa_cons (pv 0) (pa_cons (pe_bltn (v := .ty "bool") rfl B.b_bool boot_bool rfl) pa_nil))) (pe_one (pe_cmpR op_eq (pv 0) (pv 1) (nomark _)))))) pss_nil)
    (pss_cons (ps_if (pt_val (pe_callB call_isi rfl B.b_isinstance boot_isinstance (pa_cons (pv 1) (pa_cons (pe_bltn (v := .ty "int") rfl B.b_int boot_int rfl) pa_nil)))) (pss_one (ps_ret (pe_and (pe_cl G_law_is_integer (hr.mono (by omega)) rfl (pa_cons (pv 0) pa_nil)) (pe_one (pe_cmpR op_eq (pv 0) (pv 1) (nomark _)))))) pss_nil)
    (pss_cons (ps_if (pt_val (pe_callB call_isi rfl B.b_isinstance boot_isinstance (pa_cons (pv 1) (pa_cons (pe_bltn (v := .ty "str") rfl B.b_str boot_str rfl) pa_nil)))) (pss_one (ps_ret (pe_and (pe_callB call_isi rfl B.b_isinstance boot_isinstance (pa_cons (pv 0) (pa_cons (pe_bltn (v := .ty "str") rfl B.b_str boot_str rfl) pa_nil))) (pe_one (pe_cmpR op_eq (pv 0) (pv 1) (nomark _)))))) pss_nil)
    (C8.pss_cut (ps_if (PW.pt (pw_and (pt_val (pe_callB call_isi rfl B.b_isinstance boot_isinstance (pa_cons (pv 1) (pa_cons (pe_bltn (v := .ty "tuple") rfl B.b_tuple boot_tuple rfl) pa_nil)))) (pw_and1 (pt_not (pt_val (pe_callB call_isi rfl B.b_isinstance boot_isinstance (pa_cons (pv 0) (pa_cons (pe_bltn (v := .ty "tuple") rfl B.b_tuple boot_tuple rfl) pa_nil)))))))) (pss_one (ps_ret pe_bl)) pss_nil)
    (C8.pss_cut (ps_if (PW.pt (pw_and (pt_val (pe_callB call_isi rfl B.b_isinstance boot_isinstance (pa_cons (pv 1) (pa_cons (pe_bltn (v := .ty "list") rfl B.b_list boot_list rfl) pa_nil)))) (pw_and1 (pt_not (pt_val (pe_callB call_isi rfl B.b_isinstance boot_isinstance (pa_cons (pv 0) (pa_cons (pe_bltn (v := .ty "list") rfl B.b_list boot_list rfl) pa_nil)))))))) (pss_one (ps_ret pe_bl)) pss_nil)
    (pss_cons (ps_if (pt_cmpR op_ne (pe_callB call_len rfl B.b_len boot_len (pa_cons (pv 0) pa_nil)) (pe_callB call_len rfl B.b_len boot_len (pa_cons (pv 1) pa_nil)) (nomark _)) (pss_one (ps_ret pe_bl)) pss_nil)
    (pss_one (ps_ret (pe_callB (cr_all rfl) rfl B.b_all boot_all (pa_cons (pe_lc (own := [("at", 2)]) (g := gName 2) (tt := tYes) rfl sc__law_equal.nd (pi_range1 rfl B.b_range (pa_cons (pe_callB call_len rfl B.b_len boot_len (pa_cons (pv 1) pa_nil)) pa_nil)) (blkOk_by (N := N__law_equal) (sc := defScope s__law_equal) (by decide +kernel)) (fun _ _ _ _ _ => pg_name (i := 2) sc__law_equal.nd rfl (Or.inl rfl)) (fun _ _ _ _ _ => pts_nil) (fun _ _ _ _ _ => (pe_cl G_law_equal (hr.mono (by omega)) rfl (pa_cons (pe_ix (r := rIx K) ix_seq (pv 0) (pv 2) (fun _ _ => rfl)) (pa_cons (pe_ix (r := rIx K) ix_seq (pv 1) (pv 2) (fun _ _ => rfl)) pa_nil))))) pa_nil))))))))))), ?_⟩
  rcases hx.both (K := K) hy with ⟨rfl, rfl⟩ | ⟨b, rfl, rfl⟩ | ⟨i, rfl, rfl⟩ | ⟨z, rfl, rfl⟩ | ⟨isT, p, p', xs, ys, js, k', rfl, rfl, rfl, T, T', S, S', hz, l, l', r, r'⟩
  · exact ⟨_, rfl, rfl, _, rfl, iteT ⟨_, rfl, rfl, q _ (Same.refl _)⟩⟩
  · have T : TyX K H (.bl b) (.type "bool") := .base (.bl b)
    refine ⟨_, rfl, rfl, _, rfl, iteF ⟨_, rfl, _, _, _, _, _, rfl, .ty _, T, kit_ty (r := true) (by decide +kernel), _, rfl, iteT ⟨_, rfl, _, _, _, _, _, rfl, .ty _, T, kit_ty (r := true) (by decide +kernel), _, rfl, iteT ⟨_, rfl, _, rfl, rfl, ?_⟩⟩⟩⟩
    rw [decide_eq_true rfl]
    exact q _ (Same.refl _)
  · have T : TyX K H (.int i) (.type "int") := .base (.int i)
    refine ⟨_, rfl, rfl, _, rfl, iteF ⟨_, rfl, _, _, _, _, _, rfl, .ty _, T, kit_ty (r := false) (by decide +kernel), _, rfl, iteF ⟨_, rfl, _, _, _, _, _, rfl, .ty _, T, kit_ty (r := true) (by decide +kernel), _, rfl, iteT ⟨_, rfl, i, rfl, _, rfl, iteT ⟨_, rfl, _, rfl, rfl, ?_⟩⟩⟩⟩⟩
    rw [decide_eq_true rfl]
    exact q _ (Same.refl _)
  · have T : TyX K H (.str z) (.type "str") := .base (.str z)
    refine ⟨_, rfl, rfl, _, rfl, iteF ⟨_, rfl, _, _, _, _, _, rfl, .ty _, T, kit_ty (r := false) (by decide +kernel), _, rfl, iteF ⟨_, rfl, _, _, _, _, _, rfl, .ty _, T, kit_ty (r := false) (by decide +kernel), _, rfl, iteF ⟨_, rfl, _, _, _, _, _, rfl, .ty _, T, kit_ty (r := true) (by decide +kernel), _, rfl,
      iteT ⟨_, rfl, _, _, _, _, _, rfl, .ty _, T, kit_ty (r := true) (by decide +kernel), _, rfl, iteT ⟨_, rfl, _, rfl, rfl, ?_⟩⟩⟩⟩⟩⟩
    rw [decide_eq_true rfl]
    exact q _ (Same.refl _)
  · have kb : PySem.W.kitOne K (.type (if isT then "tuple" else "list")) (.type "bool") = some false := by cases isT <;> exact kit_ty (r := false) (by decide +kernel)
    have ki : PySem.W.kitOne K (.type (if isT then "tuple" else "list")) (.type "int") = some false := by cases isT <;> exact kit_ty (r := false) (by decide +kernel)
    have ks : PySem.W.kitOne K (.type (if isT then "tuple" else "list")) (.type "str") = some false := by cases isT <;> exact kit_ty (r := false) (by decide +kernel)
    have kt : PySem.W.kitOne K (.type (if isT then "tuple" else "list")) (.type "tuple") = some isT := by
      cases isT
      · exact kit_ty (r := false) (by decide +kernel)
      · exact kit_ty (r := true) (by decide +kernel)
    have kl : PySem.W.kitOne K (.type (if isT then "tuple" else "list")) (.type "list") = some (!isT) := by
      cases isT
      · exact kit_ty (r := true) (by decide +kernel)
      · exact kit_ty (r := false) (by decide +kernel)
    refine ⟨_, rfl, rfl, _, rfl, iteF ⟨_, rfl, _, _, _, _, _, rfl, .ty _, T', kb, _, rfl, iteF ⟨_, rfl, _, _, _, _, _, rfl, .ty _, T', ki, _, rfl, iteF ⟨_, rfl, _, _, _, _, _, rfl, .ty _, T', ks, _, rfl, iteF ?_⟩⟩⟩⟩
    refine ⟨fun σ' H' => σ' = [some (.ref p), some (.ref p'), none] ∧ H = H', ?_, ?_⟩
    · refine ⟨_, rfl, _, _, _, _, _, rfl, .ty _, T', kt, _, rfl, ite2 (fun e => ?_) (fun e => iteF ⟨rfl, rfl⟩)⟩
      refine ⟨_, rfl, _, _, _, _, _, rfl, .ty _, T, kt, _, rfl, ?_⟩
      rw [e]
      exact iteF ⟨rfl, rfl⟩
    rintro σ' H' ⟨rfl, rfl⟩
    refine ⟨fun σ' H' => σ' = [some (.ref p), some (.ref p'), none] ∧ H = H', ?_, ?_⟩
    · refine ⟨_, rfl, _, _, _, _, _, rfl, .ty _, T', kl, _, rfl, ite2 (fun e => ?_) (fun e => iteF ⟨rfl, rfl⟩)⟩
      refine ⟨_, rfl, _, _, _, _, _, rfl, .ty _, T, kl, _, rfl, ?_⟩
      rw [e]
      exact iteF ⟨rfl, rfl⟩
    rintro σ' H' ⟨rfl, rfl⟩
    refine ⟨_, rfl, _, js.length, rfl, S.len l.symm, _, rfl, _, js.length, rfl, S'.len l'.symm, rfl, _, rfl, ?_⟩
    have e0 : (!decide (V.int ((js.length : Nat) : Int) = V.int ((js.length : Nat) : Int))) = false := by
      rw [decide_eq_true rfl]
      rfl
    refine ite2 (fun e => ?_) (fun _ => ?_)
    · have e1 : (!decide (V.int ((js.length : Nat) : Int) = V.int ((js.length : Nat) : Int))) = true := e
      rw [e0] at e1
      cases e1
    refine ⟨_, rfl, _, js.length, rfl, S'.len l'.symm, _, rfl, by omega, by omega, fun L hL => ?_⟩
    refine lc_range (lo := 0) (n := js.length) (fun i H2 => Same H H2 ∧ H2 L = some (.lst ((List.replicate i true).map V.bl))) ⟨same_upd hL, upd_same⟩ (fun i H2 hi h => ?_) (fun H2 h => ?_)
    · have ix : xs[i]? = some xs[i] := List.getElem?_eq_getElem (by omega)
      have iy : ys[i]? = some ys[i] := List.getElem?_eq_getElem (by omega)
      have ij : js[i]? = some js[i] := List.getElem?_eq_getElem hi
      refine ⟨rfl, tyes ⟨_, rfl, _, rfl, (S.same h.1).ix (at_of (j := i) (by omega) ix) ⟨_, rfl, _, rfl, (S'.same h.1).ix (at_of (j := i) (by omega) iy) ⟨_, _, _, _, rfl, by omega, (r i _ _ ix ij).same h.1, (r' i _ _ iy ij).same h.1, fun H3 s3 => ⟨_, s3 _ _ h.2, ?_, ?_, ?_⟩⟩⟩⟩⟩
      · rw [List.length_map, List.length_replicate]
        exact Nat.lt_of_le_of_lt (m := 100000) (by omega) (by decide)
      · exact fun b o e => by rw [upd_ne (ne_of_none e hL)]; exact s3 _ _ (h.1 b o e)
      · rw [upd_same, List.replicate_succ', List.map_append]
        rfl
    · obtain ⟨h1, h2⟩ := h
      refine ⟨L, _, rfl, SqL.of h2, ?_⟩
      have e1 : (List.replicate js.length true).all id = true := by
        rw [List.all_eq_true]
        intro x hx
        rw [(List.mem_replicate.mp hx).2]
        rfl
      rw [e1]
      exact q _ h1
/-! ### rows of "maybe" and "many" -/
def spChain : Sp := fun vs H Q _ => ∃ n : Nat, vs = [.int n] ∧ n ≤ 5000 ∧ ∀ (v : V) (H' : Hp) (e : E), Same H H' → Rep H' v e.toD → e.ok = true → e.places = 1 → e.depth = n → e.parts = n + 1 → Q v H'
end
end My
namespace My
open PySem PySem.Spec PyProof.Rows L2
def spCheck : Sp := fun vs H Q _ => ∃ (v : V) (d : My.D), vs = [v] ∧ Rep H v d ∧ Fl d ∧ d.size ≤ 1000000 ∧ (sizesOf (40, 40, 200) d).isSome = true ∧ ∀ H', Same H H' → Q .non H'
def spLeast (n : Nat) : Sp := fun vs H Q _ => ∃ (v : V) (e : E), vs = [v] ∧ e.ok = true ∧ e.depth < n ∧ Rep H v e.toD ∧ ∀ H', Same H H' → Q (.int e.least) H'
def ov : Option Nat → V
  | none => .non
  | some g => .int g
def spGreat (n : Nat) : Sp := fun vs H Q _ => ∃ (v : V) (e : E), vs = [v] ∧ e.ok = true ∧ e.depth < n ∧ Rep H v e.toD ∧ ∀ H', Same H H' → Q (ov e.greatest) H'
def spLet (n : Nat) : Sp := fun vs H Q _ => ∃ (v : V) (e : E), vs = [v] ∧ e.ok = true ∧ e.depth < n ∧ e.places ≤ 1000 ∧ Rep H v e.toD ∧ ∀ (z : Str) H', Same H H' → z.length = e.places → Q (.str z) H'
theorem minL_is : ∀ (l : List Nat) (m : Int), m ∈ l.map (fun (a : Nat) => (a : Int)) → (∀ y ∈ l.map (fun (a : Nat) => (a : Int)), m ≤ y) → m = (minL l : Int)
  | [], m, h, _ => by cases h
  | [a], m, h, _ => by
    rw [List.map_cons, List.map_nil, List.mem_singleton] at h
    exact h
  | a :: b :: r, m, h, k => by
    have h0 := k a (by simp)
    by_cases c : m = (a : Int)
    · have hb : ∀ x ∈ (b :: r), a ≤ x := fun x hx => by
        have := k x (List.mem_map.mpr ⟨x, List.mem_cons_of_mem _ hx, rfl⟩)
        omega
      have : a ≤ minL (b :: r) := by
        have A : ∀ (l : List Nat), l ≠ [] → minL l ∈ l := by
          intro l
          induction l with
          | nil => intro h; exact absurd rfl h
          | cons x l ih =>
            intro _
            cases l with
            | nil => exact List.mem_singleton.mpr rfl
            | cons y l =>
              show min x (minL (y :: l)) ∈ x :: y :: l
              have h2 := ih (by intro e; cases e)
              by_cases c : x ≤ minL (y :: l)
              · rw [Nat.min_eq_left c]
                exact List.mem_cons_self ..
              · rw [Nat.min_eq_right (by omega)]
                exact List.mem_cons_of_mem _ h2
        exact hb _ (A _ (by intro e; cases e))
      show m = ((min a (minL (b :: r)) : Nat) : Int)
      omega
    · have h1 : m ∈ (b :: r).map (fun (a : Nat) => (a : Int)) := by
        rw [List.map_cons] at h
        rcases List.mem_cons.mp h with h | h
        · exact absurd h c
        · exact h
      have ih := minL_is (b :: r) m h1 fun y hy => k y (by rw [List.map_cons]; exact List.mem_cons_of_mem _ hy)
      show m = ((min a (minL (b :: r)) : Nat) : Int)
      omega
theorem maxL_is (l : List Nat) (m : Int) (h : m ∈ l.map (fun (a : Nat) => (a : Int))) (k : ∀ y ∈ l.map (fun (a : Nat) => (a : Int)), y ≤ m) : m = (maxL l : Int) := by
  have A : ∀ l : List Nat, (∀ x ∈ l, x ≤ maxL l) := by
    intro l
    induction l with
    | nil => intro x hx; cases hx
    | cons a l ih =>
      intro x hx
      show x ≤ max a (maxL l)
      rcases List.mem_cons.mp hx with rfl | hx
      · exact Nat.le_max_left _ _
      · exact Nat.le_trans (ih x hx) (Nat.le_max_right _ _)
  have B : ∀ l : List Nat, l ≠ [] → maxL l ∈ l := by
    intro l
    induction l with
    | nil => intro h; exact absurd rfl h
    | cons a l ih =>
      intro _
      show max a (maxL l) ∈ a :: l
      cases l with
      | nil =>
        show max a 0 ∈ [a]
        rw [Nat.max_eq_left (Nat.zero_le _)]
        exact List.mem_singleton.mpr rfl
      | cons b r =>
        have h2 := ih (by intro e; cases e)
        by_cases c : a ≤ maxL (b :: r)
        · rw [Nat.max_eq_right c]
          exact List.mem_cons_of_mem _ h2
        · rw [Nat.max_eq_left (by omega)]
          exact List.mem_cons_self ..
  obtain ⟨x, hx, rfl⟩ := List.mem_map.mp h
  have h1 := A l x hx
  have hne : l ≠ [] := fun e => by rw [e] at hx; cases hx
  have h2 := k _ (List.mem_map.mpr ⟨_, B l hne, rfl⟩)
  omega
section
variable {P : Program} {w : World} {K : PySem.W.Frag} {mg : Str → Option Value} {base : Heap} {a_BOUNDS a_LONG_BOUNDS : Addr} {tL tM : Tok}
/-- what stands at an expression that is no letter -/
theorem node_of {H : Hp} {v : V} {e : E} (hok : e.ok = true) (hR : Rep H v e.toD) (hs : ¬ isStr e.toD = true) : ∃ (w : Str) (y : My.D) (p : Addr) (x : V), w.length ≤ 1000 ∧ v = .ref p ∧ H p = some (.tup [.str w, x]) ∧ Rep H x y ∧
    (((w = sMaybe ∧ ∃ k, e = .maybe k ∧ y = k.toD) ∨ (w = sMany ∧ ∃ k, e = .many k ∧ y = k.toD)) ∨ ((w = sJoin ∧ ∃ es, e = .join es ∧ 2 ≤ es.length ∧ y = .tup (es.map E.toD)) ∨ (w = sOr ∧ ∃ es, e = .alt es ∧ 2 ≤ es.length ∧ y = .tup (es.map E.toD)))) := by
  have two : ∀ (w : Str) (y : My.D), e.toD = .tup [.str w, y] → ∃ p x, w.length ≤ 1000 ∧ v = .ref p ∧ H p = some (.tup [.str w, x]) ∧ Rep H x y := fun w y c => by
    rw [c] at hR
    obtain ⟨p, xs, rfl, hp, hz, hX⟩ := hR.untup
    match xs, hX with
    | [_, x], .cons (.str h) (.cons hx .nil) => exact ⟨p, x, h, rfl, hp, hx⟩
  cases e with
  | eps => exact absurd (by rw [E.toD]; rfl) hs
  | sym c => exact absurd (by rw [E.toD]; rfl) hs
  | maybe k =>
    obtain ⟨p, x, h0, h1, h2, h3⟩ := two sMaybe k.toD (by rw [E.toD])
    exact ⟨_, _, p, x, h0, h1, h2, h3, .inl (.inl ⟨rfl, k, rfl, rfl⟩)⟩
  | many k =>
    obtain ⟨p, x, h0, h1, h2, h3⟩ := two sMany k.toD (by rw [E.toD])
    exact ⟨_, _, p, x, h0, h1, h2, h3, .inl (.inr ⟨rfl, k, rfl, rfl⟩)⟩
  | join es =>
    rw [E.ok, oks_eq] at hok
    simp only [Bool.and_eq_true, decide_eq_true_eq] at hok
    obtain ⟨p, x, h0, h1, h2, h3⟩ := two sJoin (.tup (es.map E.toD)) (by rw [E.toD, toDs_eq])
    exact ⟨_, _, p, x, h0, h1, h2, h3, .inr (.inl ⟨rfl, es, rfl, hok.1.1, rfl⟩)⟩
  | alt es =>
    rw [E.ok, oks_eq] at hok
    simp only [Bool.and_eq_true, decide_eq_true_eq] at hok
    obtain ⟨p, x, h0, h1, h2, h3⟩ := two sOr (.tup (es.map E.toD)) (by rw [E.toD, toDs_eq])
    exact ⟨_, _, p, x, h0, h1, h2, h3, .inr (.inr ⟨rfl, es, rfl, hok.1.1, rfl⟩)⟩
abbrev N_check_long : List Str := ["value"]
theorem sc_check_long : FnScope ["value"] ["value"] (defScope s_check_long) := ⟨rfl, rfl, rfl, by decide +kernel, rfl, by decide +kernel, by decide +kernel⟩
theorem ok_checklong {f : Addr} {fd : FuncData} (B : Bt K mg a_BOUNDS a_LONG_BOUNDS tL tM) (Dd : Df K mg "check_long" s_check_long ["value"] f fd) (Gis_long : Cl P w K mg base 5 "is_long" ["value"] (spIs (40, 40, 200))) : FnOk P w K mg base CX0 6 f fd ["value"] spCheck := by
  refine Dd.F.ok sc_check_long (fun vs H Q Ex h => ?_) (fun cdv A outer s H vs Q Ex hr h => ?_)
  · obtain ⟨v, d, rfl, _⟩ := h
    rfl
  obtain ⟨v, d, rfl, hR, hF, hz, hs, q⟩ := h
  refine ⟨_, (pss_one (ps_if (pt_not (pt_val (pe_cl Gis_long (hr.mono (by omega)) rfl (pa_cons (pv 0) pa_nil)))) (pss_one ps_never) pss_nil)), ?_⟩
  refine ⟨_, rfl, v, d, rfl, hR, hF, hz, fun H1 s1 => ?_⟩
  rw [hs]
  exact ⟨_, rfl, iteF (q H1 s1)⟩
abbrev N__least : List Str := ["part", "word", "inner", "lengths", "each"]
theorem sc__least : FnScope ["part", "word", "inner", "lengths", "each"] ["part"] (defScope s__least) := ⟨rfl, rfl, rfl, by decide +kernel, rfl, by decide +kernel, by decide +kernel⟩
theorem ok_least_step {f : Addr} {fd : FuncData} (B : Bt K mg a_BOUNDS a_LONG_BOUNDS tL tM) (Dd : Df K mg "_least" s__least ["part"] f fd) (n : Nat) (G_least : Cl P w K mg base n "_least" ["part"] (spLeast n)) : FnOk P w K mg base CX0 (n + 1) f fd ["part"] (spLeast (n + 1)) := by
  refine Dd.F.ok sc__least (fun vs H Q Ex h => ?_) (fun cdv A outer s H vs Q Ex hr h => ?_)
  · obtain ⟨v, e, rfl, _⟩ := h
    rfl
  obtain ⟨v, e, rfl, hok, hd, hR, q⟩ := h
  refine ⟨_, (pss_cons (ps_if (pt_val (pe_callB call_isi rfl B.b_isinstance boot_isinstance (pa_cons (pv 0) (pa_cons (pe_bltn (v := .ty "str") rfl B.b_str boot_str rfl) pa_nil)))) (pss_one (ps_ret (pe_callB call_len rfl B.b_len boot_len (pa_cons (pv 0) pa_nil)))) pss_nil)
    (pss_cons (ps_asg (pv 0) (pg_tup rfl (pgs_cons (pg_name (i := 1) sc__least.nd rfl (Or.inl rfl)) (pgs_cons (pg_name (i := 2) sc__least.nd rfl (Or.inl rfl)) pgs_nil))))
    (pss_cons (ps_if (PW.pt (pw_or (pt_cmpR op_eq (pv 1) pe_str (nomark _)) (pw_or1 (pt_cmpR op_eq (pv 1) pe_str (nomark _))))) (pss_one (ps_ret pe_int)) pss_nil)
    (pss_cons (ps_setLc (i := 3) (own := [("each", 4)]) (g := gName 4) (tt := tYes) rfl sc__least.nd rfl rfl (sw_true rfl rfl rfl (by decide +kernel)) (pi_tup (pv 2)) (blkOk_by (N := N__least) (sc := defScope s__least) (by decide +kernel)) (fun _ _ _ _ _ => pg_name (i := 4) sc__least.nd rfl (Or.inl rfl)) (fun _ _ _ _ _ => pts_nil) (fun _ _ _ _ _ => (pe_cl G_least (hr.mono (by omega)) rfl (pa_cons (pv 4) pa_nil))))
    (pss_one (ps_ret (pe_ifExp (pt_cmpR op_eq (pv 1) pe_str (nomark _)) (pe_callB (cr_sum rfl) rfl B.b_sum boot_sum (pa_cons (pv 3) pa_nil)) (pe_callB (cr_min rfl) rfl B.b_min boot_min (pa_cons (pv 3) pa_nil))))))))), ?_⟩
  obtain ⟨t, ht, k1, _⟩ := hR.ty (K := K)
  refine ⟨_, rfl, _, _, _, _, _, rfl, .ty _, ht, k1, _, rfl, ite2 (fun e1 => ?_) (fun e1 => ?_)⟩
  · have hq := q H (Same.refl H)
    cases e with
    | eps =>
      rw [E.toD] at hR
      cases hR with
      | str h => exact ⟨_, rfl, _, _, rfl, ⟨Nat.le_trans h (by decide), rfl⟩, hq⟩
    | sym c =>
      rw [E.toD] at hR
      cases hR with
      | str h => exact ⟨_, rfl, _, _, rfl, ⟨Nat.le_trans h (by decide), rfl⟩, hq⟩
    | maybe k => exact absurd e1 (by rw [E.toD]; intro c; cases c)
    | many k => exact absurd e1 (by rw [E.toD]; intro c; cases c)
    | join es => exact absurd e1 (by rw [E.toD]; intro c; cases c)
    | alt es => exact absurd e1 (by rw [E.toD]; intro c; cases c)
  · obtain ⟨w, y, p, x, hlw, rfl, hp, hx, hk⟩ := node_of hok hR e1
    refine ⟨_, rfl, p, _, rfl, SqT.of hp, rfl, _, _, rfl, _, _, rfl, rfl, ?_⟩
    refine ⟨_, rfl, rfl, _, rfl, ite2 (fun e2 => iteT ?_) (fun e2 => ⟨_, rfl, rfl, _, rfl, ite2 (fun e3 => ?_) (fun e3 => ?_)⟩)⟩
    · have hw := vstr e2
      rcases hk with (⟨h, k, rfl, rfl⟩ | ⟨h, k, rfl, rfl⟩) | ⟨h, es, rfl, _, rfl⟩ | ⟨h, es, rfl, _, rfl⟩
      · exact q H (Same.refl H)
      · exact q H (Same.refl H)
      · exact absurd (h.symm.trans hw) jm
      · exact absurd (h.symm.trans hw) om
    · have hw := vstr e3
      rcases hk with (⟨h, k, rfl, rfl⟩ | ⟨h, k, rfl, rfl⟩) | ⟨h, es, rfl, _, rfl⟩ | ⟨h, es, rfl, _, rfl⟩
      · exact q H (Same.refl H)
      · exact q H (Same.refl H)
      · exact absurd (h.symm.trans hw) jn
      · exact absurd (h.symm.trans hw) on
    · have hk' := hk.resolve_left fun c => c.elim (fun h => vstrN e2 h.1) (fun h => vstrN e3 h.1)
      obtain ⟨es, hes, h2, rfl, hwj⟩ : ∃ es, e.kids = es ∧ 2 ≤ es.length ∧ y = .tup (es.map E.toD) ∧ ((w = sJoin ∧ e.least = (es.map E.least).sum) ∨ (w = sOr ∧ e.least = minL (es.map E.least))) := by
        rcases hk' with ⟨h, es, rfl, h2, rfl⟩ | ⟨h, es, rfl, h2, rfl⟩
        · exact ⟨es, rfl, h2, rfl, .inl ⟨h, by rw [E.least, leastl_eq]⟩⟩
        · exact ⟨es, rfl, h2, rfl, .inr ⟨h, by rw [E.least, leastl_eq]⟩⟩
      obtain ⟨p2, xs, rfl, hp2, hz2, hX⟩ := hx.untup
      have hl := hX.len
      rw [List.length_map] at hl
      refine ⟨_, rfl, p2, rfl, ⟨_, SqT.of hp2⟩, fun L hL => ?_⟩
      refine lc_tup (K := K) (a := p2) (xs := xs) (fun i H2 => Same H H2 ∧ H2 L = some (.lst (((es.take i).map fun k => (k.least : Int)).map V.int))) ⟨same_upd hL, upd_same⟩ (fun i H2 _ h => SqT.of (h.1 _ _ hp2)) (fun i x H2 hx h => ?_) (fun H2 h => ?_)
      · obtain ⟨d, hd1, hxd⟩ := hX.get hx
        rw [List.getElem?_map] at hd1
        obtain ⟨k, hk, rfl⟩ := Option.map_eq_some_iff.mp hd1
        have hmem : k ∈ e.kids := by rw [hes]; exact List.mem_of_getElem? hk
        refine ⟨rfl, tyes ⟨_, rfl, x, k, rfl, ok_kids hok k hmem, ?_, hxd.pers (Pers.same h.1), fun H3 s3 => ⟨_, s3 _ _ h.2, ?_, ?_, ?_⟩⟩⟩
        · have := depth_kids e k hmem
          omega
        · have : i < xs.length := (List.getElem?_eq_some_iff.mp hx).1
          rw [List.length_map, List.length_map, List.length_take]
          exact Nat.lt_of_le_of_lt (m := 100000) (by omega) (by decide)
        · exact fun b o e => by rw [upd_ne (ne_of_none e hL)]; exact s3 _ _ (h.1 b o e)
        · rw [upd_same, List.take_add_one, hk, List.map_append, List.map_append]
          rfl
      · obtain ⟨h1, h3⟩ := h
        rw [hl, List.take_length] at h3
        refine ⟨_, rfl, rfl, _, rfl, ite2 (fun e4 => ?_) (fun e4 => ?_)⟩
        · have hw := vstr e4
          have hq := q H2 h1
          rcases hwj with ⟨_, h⟩ | ⟨h, _⟩
          · refine ⟨_, rfl, L, _, rfl, SqL.of h3, ?_⟩
            rw [h] at hq
            rw [sum_cast es E.least]
            exact hq
          · exact absurd (hw.symm.trans h) jo
        · have hw := vstrN e4
          have hq := q H2 h1
          rcases hwj with ⟨h, _⟩ | ⟨_, h⟩
          · exact absurd h hw
          · refine ⟨_, rfl, L, _, rfl, SqL.of h3, by rw [List.length_map]; omega, fun m hm hle => ?_⟩
            have em : (es.map fun k => (k.least : Int)) = (es.map E.least).map (fun (a : Nat) => (a : Int)) := by
              rw [List.map_map]
              rfl
            rw [em] at hm hle
            rw [minL_is _ m hm hle]
            rw [h] at hq
            exact hq
end
end My
namespace My
open PySem PySem.Spec PyProof.Rows L2
theorem ov_flat (gs : List (Option Nat)) : (gs.map ov).all flatV = true := by
  rw [List.all_eq_true]
  intro x hx
  obtain ⟨g, _, rfl⟩ := List.mem_map.mp hx
  cases g <;> rfl
theorem allO_some : ∀ {gs : List (Option Nat)} {l : List Nat}, allO gs = some l → gs.map ov = (l.map (fun (a : Nat) => (a : Int))).map V.int ∧ inV .non (gs.map ov) = false
  | [], l, h => by
    cases h
    exact ⟨rfl, rfl⟩
  | none :: gs, l, h => by cases h
  | some a :: gs, l, h => by
    have h' : (allO gs).map (a :: ·) = some l := h
    cases c : allO gs with
    | none => rw [c] at h'; cases h'
    | some r =>
      rw [c] at h'
      cases h'
      obtain ⟨h1, h2⟩ := allO_some c
      refine ⟨?_, ?_⟩
      · rw [List.map_cons, h1]
        rfl
      · exact h2
theorem allO_none : ∀ {gs : List (Option Nat)}, allO gs = none → inV .non (gs.map ov) = true
  | [], h => by cases h
  | none :: gs, h => rfl
  | some a :: gs, h => by
    have h' : (allO gs).map (a :: ·) = none := h
    cases c : allO gs with
    | some r => rw [c] at h'; cases h'
    | none =>
      have ih : inV .non (gs.map ov) = true := allO_none (gs := gs) c
      exact ih
theorem sum_castN (l : List Nat) : (l.map (fun (a : Nat) => (a : Int))).sum = ((l.sum : Nat) : Int) := by
  induction l with
  | nil => rfl
  | cons a l ih =>
    rw [List.map_cons, List.sum_cons, ih, List.sum_cons]
    omega
theorem allO_len : ∀ {gs : List (Option Nat)} {l : List Nat}, allO gs = some l → l.length = gs.length
  | [], l, h => by cases h; rfl
  | none :: gs, l, h => by cases h
  | some a :: gs, l, h => by
    have h' : (allO gs).map (a :: ·) = some l := h
    cases c : allO gs with
    | none => rw [c] at h'; cases h'
    | some r =>
      rw [c] at h'
      cases h'
      rw [List.length_cons, allO_len c, List.length_cons]
theorem len_toList2 (z : Str) : z.cps.toList.length = z.length := Array.length_toList
theorem join_flat2 (ys : List Str) : (Txt.join sNo ys).cps.toList = (ys.map fun z => z.cps.toList).flatten := by
  rw [TL.join_eq]
  have e := TL.tl_join sNo ys
  have j : ∀ ps : List (List Nat), TL.joinL [] ps = ps.flatten := by
    intro ps
    induction ps with
    | nil => rfl
    | cons p ps ih =>
      cases ps with
      | nil => show p = (p :: []).flatten; simp
      | cons q r =>
        show p ++ ([] ++ TL.joinL [] (q :: r)) = _
        rw [ih]
        rfl
  have n : TL.tl sNo = [] := by decide +kernel
  rw [n, j] at e
  exact e
section
variable {P : Program} {w : World} {K : PySem.W.Frag} {mg : Str → Option Value} {base : Heap} {a_BOUNDS a_LONG_BOUNDS : Addr} {tL tM : Tok}
abbrev N__greatest : List Str := ["part", "word", "inner", "lengths", "each"]
theorem sc__greatest : FnScope ["part", "word", "inner", "lengths", "each"] ["part"] (defScope s__greatest) := ⟨rfl, rfl, rfl, by decide +kernel, rfl, by decide +kernel, by decide +kernel⟩
theorem ok_greatest_step {f : Addr} {fd : FuncData} (B : Bt K mg a_BOUNDS a_LONG_BOUNDS tL tM) (Dd : Df K mg "_greatest" s__greatest ["part"] f fd) (n : Nat) (G_greatest : Cl P w K mg base n "_greatest" ["part"] (spGreat n)) : FnOk P w K mg base CX0 (n + 1) f fd ["part"] (spGreat (n + 1)) := by
  refine Dd.F.ok sc__greatest (fun vs H Q Ex h => ?_) (fun cdv A outer s H vs Q Ex hr h => ?_)
  · obtain ⟨v, e, rfl, _⟩ := h
    rfl
  obtain ⟨v, e, rfl, hok, hd, hR, q⟩ := h
  refine ⟨_, (pss_cons (ps_if (pt_val (pe_callB call_isi rfl B.b_isinstance boot_isinstance (pa_cons (pv 0) (pa_cons (pe_bltn (v := .ty "str") rfl B.b_str boot_str rfl) pa_nil)))) (pss_one (ps_ret (pe_callB call_len rfl B.b_len boot_len (pa_cons (pv 0) pa_nil)))) pss_nil)
    (pss_cons (ps_asg (pv 0) (pg_tup rfl (pgs_cons (pg_name (i := 1) sc__greatest.nd rfl (Or.inl rfl)) (pgs_cons (pg_name (i := 2) sc__greatest.nd rfl (Or.inl rfl)) pgs_nil))))
    (pss_cons (ps_if (pt_cmpR op_eq (pv 1) pe_str (nomark _)) (pss_one (ps_ret (pe_cl G_greatest (hr.mono (by omega)) rfl (pa_cons (pv 2) pa_nil)))) pss_nil)
    (pss_cons (ps_if (pt_cmpR op_eq (pv 1) pe_str (nomark _)) (pss_one (ps_ret (pe_ifExp (pt_cmpR op_eq (pe_cl G_greatest (hr.mono (by omega)) rfl (pa_cons (pv 2) pa_nil)) pe_int (nomark _)) pe_int pe_non))) pss_nil)
    (pss_cons (ps_setLc (i := 3) (own := [("each", 4)]) (g := gName 4) (tt := tYes) rfl sc__greatest.nd rfl rfl (sw_true rfl rfl rfl (by decide +kernel)) (pi_tup (pv 2)) (blkOk_by (N := N__greatest) (sc := defScope s__greatest) (by decide +kernel)) (fun _ _ _ _ _ => pg_name (i := 4) sc__greatest.nd rfl (Or.inl rfl)) (fun _ _ _ _ _ => pts_nil) (fun _ _ _ _ _ => (pe_cl G_greatest (hr.mono (by omega)) rfl (pa_cons (pv 4) pa_nil))))
    (pss_cons (ps_if (pt_cmpR op_in_seq pe_non (pv 3) rfl) (pss_one (ps_ret pe_non)) pss_nil)
    (pss_one (ps_ret (pe_ifExp (pt_cmpR op_eq (pv 1) pe_str (nomark _)) (pe_callB (cr_sum rfl) rfl B.b_sum boot_sum (pa_cons (pv 3) pa_nil)) (pe_callB (cr_max rfl) rfl B.b_max boot_max (pa_cons (pv 3) pa_nil))))))))))), ?_⟩
  obtain ⟨t, ht, k1, _⟩ := hR.ty (K := K)
  refine ⟨_, rfl, _, _, _, _, _, rfl, .ty _, ht, k1, _, rfl, ite2 (fun e1 => ?_) (fun e1 => ?_)⟩
  · have hq := q H (Same.refl H)
    cases e with
    | eps =>
      rw [E.toD] at hR
      cases hR with
      | str h => exact ⟨_, rfl, _, _, rfl, ⟨Nat.le_trans h (by decide), rfl⟩, hq⟩
    | sym c =>
      rw [E.toD] at hR
      cases hR with
      | str h => exact ⟨_, rfl, _, _, rfl, ⟨Nat.le_trans h (by decide), rfl⟩, hq⟩
    | maybe k => exact absurd e1 (by rw [E.toD]; intro c; cases c)
    | many k => exact absurd e1 (by rw [E.toD]; intro c; cases c)
    | join es => exact absurd e1 (by rw [E.toD]; intro c; cases c)
    | alt es => exact absurd e1 (by rw [E.toD]; intro c; cases c)
  · obtain ⟨w, y, p, x, hlw, rfl, hp, hx, hk⟩ := node_of hok hR e1
    refine ⟨_, rfl, p, _, rfl, SqT.of hp, rfl, _, _, rfl, _, _, rfl, rfl, ?_⟩
    refine ⟨_, rfl, rfl, _, rfl, ite2 (fun e2 => ?_) (fun e2 => ⟨_, rfl, rfl, _, rfl, ite2 (fun e3 => ?_) (fun e3 => ?_)⟩)⟩
    · have hw := vstr e2
      rcases hk with (⟨h, k, rfl, rfl⟩ | ⟨h, k, rfl, rfl⟩) | ⟨h, es, rfl, _, rfl⟩ | ⟨h, es, rfl, _, rfl⟩
      · rw [E.ok] at hok
        rw [E.depth] at hd
        exact ⟨_, rfl, x, k, rfl, hok, by omega, hx, fun H1 s1 => by have := q H1 s1; rw [E.greatest] at this; exact this⟩
      · exact absurd (hw.symm.trans h) mn
      · exact absurd (h.symm.trans hw) jm
      · exact absurd (h.symm.trans hw) om
    · have hw := vstr e3
      rcases hk with (⟨h, k, rfl, rfl⟩ | ⟨h, k, rfl, rfl⟩) | ⟨h, es, rfl, _, rfl⟩ | ⟨h, es, rfl, _, rfl⟩
      · exact absurd (h.symm.trans hw) mn
      · rw [E.ok] at hok
        rw [E.depth] at hd
        refine ⟨_, rfl, x, k, rfl, hok, by omega, hx, fun H1 s1 => ?_⟩
        have hq := q H1 s1
        rw [E.greatest] at hq
        cases c : k.greatest with
        | none =>
          rw [c] at hq
          exact ⟨rfl, _, rfl, iteF hq⟩
        | some g =>
          rw [c] at hq
          refine ⟨rfl, _, rfl, ite2 (fun e4 => ?_) (fun e4 => ?_)⟩
          · have e5 : V.int (g : Int) = V.int 0 := of_decide_eq_true e4
            have e6 : (g : Int) = 0 := V.int.inj e5
            have e7 : g = 0 := by omega
            subst e7
            rw [if_pos rfl] at hq
            exact hq
          · have e5 : ¬ (some g = some 0) := fun h => e4 (by
              cases h
              exact decide_eq_true rfl)
            rw [if_neg e5] at hq
            exact hq
      · exact absurd (h.symm.trans hw) jn
      · exact absurd (h.symm.trans hw) on
    · have hk' := hk.resolve_left fun c => c.elim (fun h => vstrN e2 h.1) (fun h => vstrN e3 h.1)
      obtain ⟨es, hes, h2, rfl, hwj⟩ : ∃ es, e.kids = es ∧ 2 ≤ es.length ∧ y = .tup (es.map E.toD) ∧ ((w = sJoin ∧ e.greatest = (allO (es.map E.greatest)).map List.sum) ∨ (w = sOr ∧ e.greatest = (allO (es.map E.greatest)).map maxL)) := by
        rcases hk' with ⟨h, es, rfl, h2, rfl⟩ | ⟨h, es, rfl, h2, rfl⟩
        · exact ⟨es, rfl, h2, rfl, .inl ⟨h, by rw [E.greatest, greatl_eq]⟩⟩
        · exact ⟨es, rfl, h2, rfl, .inr ⟨h, by rw [E.greatest, greatl_eq]⟩⟩
      obtain ⟨p2, xs, rfl, hp2, hz2, hX⟩ := hx.untup
      have hl := hX.len
      rw [List.length_map] at hl
      refine ⟨_, rfl, p2, rfl, ⟨_, SqT.of hp2⟩, fun L hL => ?_⟩
      refine lc_tup (K := K) (a := p2) (xs := xs) (fun i H2 => Same H H2 ∧ H2 L = some (.lst (((es.take i).map E.greatest).map ov))) ⟨same_upd hL, upd_same⟩ (fun i H2 _ h => SqT.of (h.1 _ _ hp2)) (fun i x H2 hx h => ?_) (fun H2 h => ?_)
      · obtain ⟨d, hd1, hxd⟩ := hX.get hx
        rw [List.getElem?_map] at hd1
        obtain ⟨k, hk, rfl⟩ := Option.map_eq_some_iff.mp hd1
        have hmem : k ∈ e.kids := by rw [hes]; exact List.mem_of_getElem? hk
        refine ⟨rfl, tyes ⟨_, rfl, x, k, rfl, ok_kids hok k hmem, ?_, hxd.pers (Pers.same h.1), fun H3 s3 => ⟨_, s3 _ _ h.2, ?_, ?_, ?_⟩⟩⟩
        · have := depth_kids e k hmem
          omega
        · have : i < xs.length := (List.getElem?_eq_some_iff.mp hx).1
          rw [List.length_map, List.length_map, List.length_take]
          exact Nat.lt_of_le_of_lt (m := 100000) (by omega) (by decide)
        · exact fun b o e => by rw [upd_ne (ne_of_none e hL)]; exact s3 _ _ (h.1 b o e)
        · rw [upd_same, List.take_add_one, hk, List.map_append, List.map_append]
          rfl
      · obtain ⟨h1, h3⟩ := h
        rw [hl, List.take_length] at h3
        have hq := q H2 h1
        refine ⟨_, rfl, L, _, rfl, .inl (SqL.of h3), rfl, ov_flat _, _, rfl, ite2 (fun e6 => ?_) (fun e6 => ?_)⟩
        · have e7 : inV .non ((es.map E.greatest).map ov) = true := e6
          have : allO (es.map E.greatest) = none := by
            cases c : allO (es.map E.greatest) with
            | none => rfl
            | some l => rw [(allO_some c).2] at e7; cases e7
          have hn : e.greatest = none := by
            rcases hwj with ⟨_, h⟩ | ⟨_, h⟩ <;> rw [h, this] <;> rfl
          rw [hn] at hq
          exact hq
        · have e7 : ¬ inV .non ((es.map E.greatest).map ov) = true := e6
          obtain ⟨l, hl2⟩ : ∃ l, allO (es.map E.greatest) = some l := by
            cases c : allO (es.map E.greatest) with
            | none => exact absurd (allO_none c) e7
            | some l => exact ⟨l, rfl⟩
          have h4 := (allO_some hl2).1
          have h5 := allO_len hl2
          rw [List.length_map] at h5
          rw [h4] at h3
          refine ⟨_, rfl, rfl, _, rfl, ite2 (fun e4 => ?_) (fun e4 => ?_)⟩
          · have hw := vstr e4
            rcases hwj with ⟨_, h⟩ | ⟨h, _⟩
            · refine ⟨_, rfl, L, _, rfl, SqL.of h3, ?_⟩
              rw [h, hl2] at hq
              rw [sum_castN]
              exact hq
            · exact absurd (hw.symm.trans h) jo
          · have hw := vstrN e4
            rcases hwj with ⟨h, _⟩ | ⟨_, h⟩
            · exact absurd h hw
            · refine ⟨_, rfl, L, _, rfl, SqL.of h3, by rw [List.length_map]; omega, fun m hm hle => ?_⟩
              rw [maxL_is _ m hm hle]
              rw [h, hl2] at hq
              exact hq
theorem least_top {e : E} (h1 : e.ok = true) (h2 : e.places ≤ 40) (h3 : e.depth ≤ 40) (h4 : e.parts ≤ 200) : (sizesOf (40, 40, 200) e.toD).isSome = true := by
  rw [sizes_ok h1 (by decide), if_pos (within_iff.mpr ⟨h2, h3, h4⟩)]
  rfl
def spLL : Sp := fun vs H Q _ => ∃ (v : V) (e : E), vs = [v] ∧ e.ok = true ∧ e.places ≤ 40 ∧ e.depth < 12 ∧ e.parts ≤ 200 ∧ e.toD.size ≤ 1000000 ∧ Rep H v e.toD ∧ ∀ H', Same H H' → Q (.int e.least) H'
def spGL : Sp := fun vs H Q _ => ∃ (v : V) (e : E), vs = [v] ∧ e.ok = true ∧ e.places ≤ 40 ∧ e.depth < 12 ∧ e.parts ≤ 200 ∧ e.toD.size ≤ 1000000 ∧ Rep H v e.toD ∧ ∀ H', Same H H' → Q (ov e.greatest) H'
abbrev N_least_length : List Str := ["expression"]
theorem sc_least_length : FnScope ["expression"] ["expression"] (defScope s_least_length) := ⟨rfl, rfl, rfl, by decide +kernel, rfl, by decide +kernel, by decide +kernel⟩
theorem ok_leastlength {f : Addr} {fd : FuncData} (B : Bt K mg a_BOUNDS a_LONG_BOUNDS tL tM) (Dd : Df K mg "least_length" s_least_length ["expression"] f fd) (Gcheck_long : Cl P w K mg base 6 "check_long" ["value"] spCheck) (G_least : Cl P w K mg base 12 "_least" ["part"] (spLeast 12)) : FnOk P w K mg base CX0 13 f fd ["expression"] spLL := by
  refine Dd.F.ok sc_least_length (fun vs H Q Ex h => ?_) (fun cdv A outer s H vs Q Ex hr h => ?_)
  · obtain ⟨v, e, rfl, _⟩ := h
    rfl
  obtain ⟨v, e, rfl, hok, hp, hd, hc, hz, hR, q⟩ := h
  refine ⟨_, (pss_cons (ps_expr (pe_cl Gcheck_long (hr.mono (by omega)) rfl (pa_cons (pv 0) pa_nil)))
    (pss_one (ps_ret (pe_cl G_least (hr.mono (by omega)) rfl (pa_cons (pv 0) pa_nil))))), ?_⟩
  exact ⟨_, rfl, v, _, rfl, hR, fl_toD e, hz, least_top hok hp (by omega) hc, fun H1 s1 => ⟨_, rfl, v, e, rfl, hok, hd, hR.pers (Pers.same s1), fun H2 s2 => q H2 (s1.trans s2)⟩⟩
abbrev N_greatest_length : List Str := ["expression"]
theorem sc_greatest_length : FnScope ["expression"] ["expression"] (defScope s_greatest_length) := ⟨rfl, rfl, rfl, by decide +kernel, rfl, by decide +kernel, by decide +kernel⟩
theorem ok_greatestlength {f : Addr} {fd : FuncData} (B : Bt K mg a_BOUNDS a_LONG_BOUNDS tL tM) (Dd : Df K mg "greatest_length" s_greatest_length ["expression"] f fd) (Gcheck_long : Cl P w K mg base 6 "check_long" ["value"] spCheck) (G_greatest : Cl P w K mg base 12 "_greatest" ["part"] (spGreat 12)) : FnOk P w K mg base CX0 13 f fd ["expression"] spGL := by
  refine Dd.F.ok sc_greatest_length (fun vs H Q Ex h => ?_) (fun cdv A outer s H vs Q Ex hr h => ?_)
  · obtain ⟨v, e, rfl, _⟩ := h
    rfl
  obtain ⟨v, e, rfl, hok, hp, hd, hc, hz, hR, q⟩ := h
  refine ⟨_, (pss_cons (ps_expr (pe_cl Gcheck_long (hr.mono (by omega)) rfl (pa_cons (pv 0) pa_nil)))
    (pss_one (ps_ret (pe_cl G_greatest (hr.mono (by omega)) rfl (pa_cons (pv 0) pa_nil))))), ?_⟩
  exact ⟨_, rfl, v, _, rfl, hR, fl_toD e, hz, least_top hok hp (by omega) hc, fun H1 s1 => ⟨_, rfl, v, e, rfl, hok, hd, hR.pers (Pers.same s1), fun H2 s2 => q H2 (s1.trans s2)⟩⟩
abbrev N__law_letters : List Str := ["expression", "part"]
theorem sc__law_letters : FnScope ["expression", "part"] ["expression"] (defScope s__law_letters) := ⟨rfl, rfl, rfl, by decide +kernel, rfl, by decide +kernel, by decide +kernel⟩
theorem ok_letters_step {f : Addr} {fd : FuncData} (B : Bt K mg a_BOUNDS a_LONG_BOUNDS tL tM) (Dd : Df K mg "_law_letters" s__law_letters ["expression"] f fd) (G_law_inside : Cl P w K mg base 1 "_law_inside" ["expression"] spInside) (n : Nat)
    (G_law_letters : Cl P w K mg base (n + 1) "_law_letters" ["expression"] (spLet n)) : FnOk P w K mg base CX0 (n + 2) f fd ["expression"] (spLet (n + 1)) := by
  refine Dd.F.ok sc__law_letters (fun vs H Q Ex h => ?_) (fun cdv A outer s H vs Q Ex hr h => ?_)
  · obtain ⟨v, e, rfl, _⟩ := h
    rfl
  obtain ⟨v, e, rfl, hok, hd, hpl, hR, q⟩ := h
  refine ⟨_, (pss_cons (ps_if (pt_val (pe_callB call_isi rfl B.b_isinstance boot_isinstance (pa_cons (pv 0) (pa_cons (pe_bltn (v := .ty "str") rfl B.b_str boot_str rfl) pa_nil)))) (pss_one (ps_ret (pv 0))) pss_nil)
    (pss_one (ps_ret (pe_join pe_str (pe_lc (own := [("part", 1)]) (g := gName 1) (tt := tYes) rfl sc__law_letters.nd (pi_tup (pe_cl G_law_inside (hr.mono (by omega)) rfl (pa_cons (pv 0) pa_nil))) (blkOk_by (N := N__law_letters) (sc := defScope s__law_letters) (by decide +kernel)) (fun _ _ _ _ _ => pg_name (i := 1) sc__law_letters.nd rfl (Or.inl rfl)) (fun _ _ _ _ _ => pts_nil) (fun _ _ _ _ _ => (pe_cl G_law_letters (hr.mono (by omega)) rfl (pa_cons (pv 1) pa_nil)))))))), ?_⟩
  obtain ⟨t, ht, k1, _⟩ := hR.ty (K := K)
  refine ⟨_, rfl, _, _, _, _, _, rfl, .ty _, ht, k1, _, rfl, ite2 (fun e1 => ?_) (fun e1 => ?_)⟩
  · cases e with
    | eps =>
      rw [E.toD] at hR
      cases hR with
      | str h => exact ⟨_, rfl, q _ H (Same.refl H) (by rw [E.places, lE])⟩
    | sym c =>
      rw [E.toD] at hR
      cases hR with
      | str h => exact ⟨_, rfl, q _ H (Same.refl H) (by rw [E.places]; rfl)⟩
    | maybe k => exact absurd e1 (by rw [E.toD]; intro c; cases c)
    | many k => exact absurd e1 (by rw [E.toD]; intro c; cases c)
    | join es => exact absurd e1 (by rw [E.toD]; intro c; cases c)
    | alt es => exact absurd e1 (by rw [E.toD]; intro c; cases c)
  · have own0 : e.own = 0 := by
      cases e with
      | sym c => exact absurd (by rw [E.toD]; rfl) e1
      | _ => rfl
    refine ⟨⟨_, rfl⟩, _, rfl, v, e, rfl, hok, hR, fun p xs H1 s1 hp hz hX => ⟨p, rfl, ⟨_, SqT.of hp⟩, fun L hL => ?_⟩⟩
    have hl := hX.len
    rw [List.length_map] at hl
    have hpk := places_kids e
    refine lc_tup (K := K) (a := p) (xs := xs) (fun i H2 => Same H1 H2 ∧ ∃ zs : List Str, zs.map Str.length = (e.kids.take i).map E.places ∧ H2 L = some (.lst (zs.map V.str))) ⟨same_upd hL, [], rfl, upd_same⟩ (fun i H2 _ h => SqT.of (h.1 _ _ hp)) (fun i x H2 hx h => ?_) (fun H2 h => ?_)
    · obtain ⟨h0, zs, hzs, h2⟩ := h
      obtain ⟨d, hd1, hxd⟩ := hX.get hx
      rw [List.getElem?_map] at hd1
      obtain ⟨k, hk, rfl⟩ := Option.map_eq_some_iff.mp hd1
      have hmem := List.mem_of_getElem? hk
      have hkp : k.places ≤ (e.kids.map E.places).sum := by
        have : ∀ l : List E, k ∈ l → k.places ≤ (l.map E.places).sum := by
          intro l
          induction l with
          | nil => intro h; cases h
          | cons a l ih =>
            intro h
            rw [List.map_cons, List.sum_cons]
            rcases List.mem_cons.mp h with rfl | h
            · omega
            · have := ih h
              omega
        exact this _ hmem
      have hzl := congrArg List.length hzs
      rw [List.length_map, List.length_map, List.length_take] at hzl
      refine ⟨rfl, tyes ⟨_, rfl, x, k, rfl, ok_kids hok k hmem, ?_, by omega, hxd.pers (Pers.same h0), fun z H3 s3 hz3 => ⟨_, s3 _ _ h2, ?_, ?_, zs ++ [z], ?_, ?_⟩⟩⟩
      · have := depth_kids e k hmem
        omega
      · have : i < xs.length := (List.getElem?_eq_some_iff.mp hx).1
        rw [List.length_map]
        exact Nat.lt_of_le_of_lt (m := 100000) (by omega) (by decide)
      · exact fun b o e => by rw [upd_ne (ne_of_none e hL)]; exact s3 _ _ (h0 b o e)
      · rw [List.map_append, hzs, List.take_add_one, hk, List.map_append, List.map_cons, List.map_nil, hz3]
        rfl
      · rw [upd_same, List.map_append]
        rfl
    · obtain ⟨h0, zs, hzs, h2⟩ := h
      rw [hl, List.take_length] at hzs
      have hsum : (zs.map Str.length).sum = e.places := by rw [hzs, hpk, own0]; omega
      refine ⟨sNo, L, zs, rfl, rfl, .inl (SqL.of h2), ?_, ?_⟩
      · show (zs.map Str.length).sum + zs.length * sNo.length ≤ 16777216
        rw [hsum, lE]
        omega
      · refine q _ H2 (s1.trans h0) ?_
        rw [← len_toList2, join_flat2, List.length_flatten, List.map_map, ← hsum]
        exact congrArg List.sum (List.map_congr_left fun y _ => len_toList2 y)
end
end My
namespace My
open PySem PySem.Spec PyProof.Rows L2
def keysD (ms : List Int) : List (Key × V) := ms.map fun x => (Sum.inl x, V.bl true)
theorem putK_keys (ms : List Int) (x : Int) : putK (keysD ms) (Sum.inl x : Key) (V.bl true) = keysD (if x ∈ ms then ms else ms ++ [x]) := by
  unfold putK keysD
  have e1 : ((ms.map fun x => ((Sum.inl x : Key), V.bl true)).any fun kv => decide (kv.1 = Sum.inl x)) = decide (x ∈ ms) := by
    induction ms with
    | nil => simp
    | cons m ms ih =>
      rw [List.map_cons, List.any_cons, ih]
      by_cases c : m = x
      · subst c
        simp
      · have : ¬ ((Sum.inl m : Key) = Sum.inl x) := fun h => c (Sum.inl.inj h)
        rw [decide_eq_false this, Bool.false_or]
        by_cases d : x ∈ ms
        · rw [decide_eq_true d, decide_eq_true (List.mem_cons_of_mem _ d)]
        · rw [decide_eq_false d, decide_eq_false]
          intro h
          rcases List.mem_cons.mp h with h | h
          · exact c h.symm
          · exact d h
  rw [e1]
  by_cases c : x ∈ ms
  · rw [if_pos (decide_eq_true c), if_pos c, List.map_map]
    refine List.map_congr_left fun y _ => ?_
    show (if (Sum.inl y : Key) = Sum.inl x then ((Sum.inl y : Key), V.bl true) else ((Sum.inl y : Key), V.bl true)) = _
    split <;> rfl
  · rw [if_neg (by rw [decide_eq_false c]; exact Bool.false_ne_true), if_neg c, List.map_append]
    rfl
theorem keysD_vals (ms : List Int) : (keysD ms).map (fun kv => kV kv.1) = ms.map V.int := by
  unfold keysD
  rw [List.map_map]
  rfl
theorem keysD_len (ms : List Int) : (keysD ms).length = ms.length := List.length_map _
/-- a new key beside the others, once -/
def addK (ms : List Int) (x : Int) : List Int := if x ∈ ms then ms else ms ++ [x]
theorem mem_addK {ms : List Int} {x y : Int} : y ∈ addK ms x ↔ y ∈ ms ∨ y = x := by
  unfold addK
  split
  · rename_i h
    constructor
    · exact .inl
    · rintro (c | rfl)
      · exact c
      · exact h
  · rw [List.mem_append, List.mem_singleton]
theorem nodup_addK {ms : List Int} {x : Int} (h : ms.Nodup) : (addK ms x).Nodup := by
  unfold addK
  split
  · exact h
  · rename_i c
    rw [List.nodup_append]
    exact ⟨h, by simp, fun a ha b hb e => c (by rw [List.mem_singleton] at hb; rw [← hb, ← e]; exact ha)⟩
theorem len_addK (ms : List Int) (x : Int) : (addK ms x).length ≤ ms.length + 1 := by
  unfold addK
  split
  · omega
  · rw [List.length_append]; exact Nat.le_refl _
def spOnce : Sp := fun vs H Q _ => ∃ (r : Addr) (ns : List Int), vs = [.ref r] ∧ H r = some (.lst (ns.map V.int)) ∧ ns.length ≤ 100000 ∧ ∀ (p : Addr) (H' : Hp) (ms : List Int), Same H H' → H p = none → H' p = some (.lst (ms.map V.int)) → ms.Nodup → (∀ x, x ∈ ms ↔ x ∈ ns) → Q (.ref p) H'
def spSums : Sp := fun vs H Q _ => ∃ (r t : Addr) (xs ys : List Int), vs = [.ref r, .ref t, .int 40] ∧ H r = some (.lst (xs.map V.int)) ∧ H t = some (.lst (ys.map V.int)) ∧ xs.length ≤ 100 ∧ ys.length ≤ 100 ∧
  ∀ (p : Addr) (H' : Hp) (ms : List Int), Same H H' → H p = none → H' p = some (.lst (ms.map V.int)) → ms.Nodup → (∀ x, x ∈ ms ↔ ∃ a ∈ xs, ∃ b ∈ ys, a + b ≤ 40 ∧ x = a + b) → Q (.ref p) H'
section
variable {P : Program} {w : World} {K : PySem.W.Frag} {mg : Str → Option Value} {base : Heap} {a_BOUNDS a_LONG_BOUNDS : Addr} {tL tM : Tok}
theorem mem_take_succ {ns : List Int} {i : Nat} {z : Int} (h : ns[i]? = some z) (x : Int) : x ∈ ns.take (i + 1) ↔ x ∈ ns.take i ∨ x = z := by
  rw [List.take_add_one, h, List.mem_append]
  show _ ∨ x ∈ [z] ↔ _
  rw [List.mem_singleton]
abbrev N__law_once : List Str := ["rows", "seen", "row"]
theorem sc__law_once : FnScope ["rows", "seen", "row"] ["rows"] (defScope s__law_once) := ⟨rfl, rfl, rfl, by decide +kernel, rfl, by decide +kernel, by decide +kernel⟩
theorem ok_once {f : Addr} {fd : FuncData} (B : Bt K mg a_BOUNDS a_LONG_BOUNDS tL tM) (Dd : Df K mg "_law_once" s__law_once ["rows"] f fd) : FnOk P w K mg base CX0 1 f fd ["rows"] spOnce := by
  refine Dd.F.ok sc__law_once (fun vs H Q Ex h => ?_) (fun cdv A outer s H vs Q Ex hr h => ?_)
  · obtain ⟨r, ns, rfl, _⟩ := h
    rfl
  obtain ⟨r, ns, rfl, hH, hz, q⟩ := h
  refine ⟨_, (pss_cons (ps_set (i := 1) sc__law_once.nd rfl (Or.inl rfl) pe_dnewK)
    (pss_cons (ps_for PassesOwn.never rfl (pi_list (pv 0)) (pg_name (i := 2) sc__law_once.nd rfl (Or.inl rfl)) (pss_one (ps_dput (hu_of hr) (pv 1) (pv 2) pe_bl rfl)))
    (pss_one (ps_ret (pe_callTy (call_list_dK rfl) rfl B.b_list boot_list (pa_cons (pv 1) pa_nil)))))), ?_⟩
  intro d hd
  have nrd : r ≠ d := ne_of_none hH hd
  refine ⟨_, rfl, r, rfl, ⟨_, SqL.of ((same_upd hd) _ _ hH)⟩, for_list (K := K) (a := r) (xs := ns.map V.int) (fun i σ' H' => ∃ (rw : Option V) (ms : List Int), σ' = [some (.ref r), some (.ref d), rw] ∧ Same H H' ∧ H' d = some (.dK (keysD ms)) ∧ ms.Nodup ∧ ms.length ≤ i ∧ ∀ x, x ∈ ms ↔ x ∈ ns.take i)
    ⟨none, [], rfl, same_upd hd, upd_same, List.nodup_nil, Nat.le_refl _, fun x => by simp⟩ (fun i σ' H' _ h => ?_) (fun i y σ' H' hi h => ?_) (fun σ' H' h => ?_)⟩
  · obtain ⟨_, _, _, h1, _⟩ := h
    exact SqL.of (h1 _ _ hH)
  · obtain ⟨rw0, ms, rfl, h1, h2, h3, h4, h5⟩ := h
    rw [List.getElem?_map] at hi
    obtain ⟨z, hz2, rfl⟩ := Option.map_eq_some_iff.mp hi
    have hlt := (List.getElem?_eq_some_iff.mp hz2).1
    refine ⟨_, rfl, _, rfl, d, _, rfl, DPut.k (k := Sum.inl z) h2 ?_, _, addK ms z, rfl, ?_, ?_, nodup_addK h3, ?_, fun x => ?_⟩
    · rw [keysD_len]
      exact Nat.lt_of_le_of_lt (m := 100000) (by omega) (by decide)
    · exact fun b o e => by rw [upd_ne (ne_of_none e hd)]; exact h1 b o e
    · rw [upd_same, putK_keys]
      rfl
    · have := len_addK ms z
      omega
    · rw [mem_addK, h5, mem_take_succ hz2]
  · obtain ⟨rw0, ms, rfl, h1, h2, h3, h4, h5⟩ := h
    rw [List.length_map, List.take_length] at h5
    refine ⟨_, rfl, d, _, rfl, h2, fun p hp => ?_⟩
    rw [keysD_vals]
    exact q p _ ms (h1.trans (same_upd hp)) (h1.free hp) upd_same h3 h5
abbrev N__law_sums : List Str := ["first", "second", "most", "seen", "one", "other"]
theorem sc__law_sums : FnScope ["first", "second", "most", "seen", "one", "other"] ["first", "second", "most"] (defScope s__law_sums) := ⟨rfl, rfl, rfl, by decide +kernel, rfl, by decide +kernel, by decide +kernel⟩
theorem ok_sums {f : Addr} {fd : FuncData} (B : Bt K mg a_BOUNDS a_LONG_BOUNDS tL tM) (Dd : Df K mg "_law_sums" s__law_sums ["first", "second", "most"] f fd) : FnOk P w K mg base CX0 1 f fd ["first", "second", "most"] spSums := by
  refine Dd.F.ok sc__law_sums (fun vs H Q Ex h => ?_) (fun cdv A outer s H vs Q Ex hr h => ?_)
  · obtain ⟨r, t, xs, ys, rfl, _⟩ := h
    rfl
  obtain ⟨r, t, xs, ys, rfl, hX, hY, hx1, hy1, q⟩ := h
  refine ⟨_, (pss_cons (ps_set (i := 3) sc__law_sums.nd rfl (Or.inl rfl) pe_dnewK)
    (pss_cons (ps_for PassesOwn.never rfl (pi_list (pv 0)) (pg_name (i := 4) sc__law_sums.nd rfl (Or.inl rfl)) (pss_one (ps_for PassesOwn.never rfl (pi_list (pv 1)) (pg_name (i := 5) sc__law_sums.nd rfl (Or.inl rfl)) (pss_one (ps_if (pt_cmpR op_le (pe_op op_add (pv 4) (pv 5)) (pv 2) (nomark _)) (pss_one (ps_dput (hu_of hr) (pv 3) (pe_op op_add (pv 4) (pv 5)) pe_bl rfl)) pss_nil)))))
    (pss_one (ps_ret (pe_callTy (call_list_dK rfl) rfl B.b_list boot_list (pa_cons (pv 3) pa_nil)))))), ?_⟩
  intro d hd
  refine ⟨_, rfl, r, rfl, ⟨_, SqL.of ((same_upd hd) _ _ hX)⟩, for_list (K := K) (a := r) (xs := xs.map V.int) (fun i σ' H' => ∃ (o1 o2 : Option V) (ms : List Int), σ' = [some (.ref r), some (.ref t), some (.int 40), some (.ref d), o1, o2] ∧ Same H H' ∧ H' d = some (.dK (keysD ms)) ∧ ms.Nodup ∧ ms.length ≤ i * 100 ∧ ∀ x, x ∈ ms ↔ ∃ a ∈ xs.take i, ∃ b ∈ ys, a + b ≤ 40 ∧ x = a + b)
    ⟨none, none, [], rfl, same_upd hd, upd_same, List.nodup_nil, Nat.zero_le _, fun x => by simp⟩ (fun i σ' H' _ h => ?_) (fun i y σ' H' hi h => ?_) (fun σ' H' h => ?_)⟩
  · obtain ⟨_, _, _, _, h1, _⟩ := h
    exact SqL.of (h1 _ _ hX)
  · obtain ⟨o1, o2, ms, rfl, h1, h2, h3, h4, h5⟩ := h
    rw [List.getElem?_map] at hi
    obtain ⟨z, hz2, rfl⟩ := Option.map_eq_some_iff.mp hi
    have hlt := (List.getElem?_eq_some_iff.mp hz2).1
    refine ⟨_, rfl, t, rfl, ⟨_, SqL.of (h1 _ _ hY)⟩, for_list (K := K) (a := t) (xs := ys.map V.int) (fun j σ' H' => ∃ (o2 : Option V) (ms : List Int), σ' = [some (.ref r), some (.ref t), some (.int 40), some (.ref d), some (.int z), o2] ∧ Same H H' ∧ H' d = some (.dK (keysD ms)) ∧ ms.Nodup ∧ ms.length ≤ i * 100 + j ∧ ∀ x, x ∈ ms ↔ (∃ a ∈ xs.take i, ∃ b ∈ ys, a + b ≤ 40 ∧ x = a + b) ∨ ∃ b ∈ ys.take j, z + b ≤ 40 ∧ x = z + b)
      ⟨o2, ms, rfl, h1, h2, h3, h4, fun x => by rw [h5]; simp⟩ (fun j σ' H' _ h => ?_) (fun j y σ' H' hj h => ?_) (fun σ' H' h => ?_)⟩
    · obtain ⟨_, _, _, h1, _⟩ := h
      exact SqL.of (h1 _ _ hY)
    · obtain ⟨o2, ms, rfl, g1, g2, g3, g4, g5⟩ := h
      rw [List.getElem?_map] at hj
      obtain ⟨u, hu2, rfl⟩ := Option.map_eq_some_iff.mp hj
      have hlt2 := (List.getElem?_eq_some_iff.mp hu2).1
      have step : ∀ x, (∃ b ∈ ys.take (j + 1), z + b ≤ 40 ∧ x = z + b) ↔ (∃ b ∈ ys.take j, z + b ≤ 40 ∧ x = z + b) ∨ (z + u ≤ 40 ∧ x = z + u) := fun x => by
        constructor
        · rintro ⟨b, hb, h⟩
          rcases (mem_take_succ hu2 b).mp hb with c | rfl
          · exact .inl ⟨b, c, h⟩
          · exact .inr h
        · rintro (⟨b, hb, h⟩ | h)
          · exact ⟨b, (mem_take_succ hu2 b).mpr (.inl hb), h⟩
          · exact ⟨u, (mem_take_succ hu2 u).mpr (.inr rfl), h⟩
      refine ⟨_, rfl, _, rfl, _, _, rfl, rfl, _, rfl, _, _, rfl, rfl, _, rfl, ite2 (fun e => ?_) (fun e => ?_)⟩
      · have e1 : z + u ≤ 40 := of_decide_eq_true e
        refine ⟨_, rfl, _, rfl, _, rfl, _, _, rfl, rfl, d, _, rfl, DPut.k (k := Sum.inl (z + u)) g2 ?_, _, addK ms (z + u), rfl, ?_, ?_, nodup_addK g3, ?_, fun x => ?_⟩
        · rw [keysD_len]
          exact Nat.lt_of_le_of_lt (m := 20000) (by omega) (by decide)
        · exact fun b o e => by rw [upd_ne (ne_of_none e hd)]; exact g1 b o e
        · rw [upd_same, putK_keys]
          rfl
        · have := len_addK ms (z + u)
          omega
        · rw [mem_addK, g5, step]
          constructor
          · rintro ((h | h) | rfl)
            · exact .inl h
            · exact .inr (.inl h)
            · exact .inr (.inr ⟨e1, rfl⟩)
          · rintro (h | h | ⟨_, rfl⟩)
            · exact .inl (.inl h)
            · exact .inl (.inr h)
            · exact .inr rfl
      · have e1 : ¬ z + u ≤ 40 := fun h => e (decide_eq_true h)
        refine ⟨_, ms, rfl, g1, g2, g3, by omega, fun x => ?_⟩
        rw [g5, step]
        constructor
        · rintro (h | h)
          · exact .inl h
          · exact .inr (.inl h)
        · rintro (h | h | ⟨h, _⟩)
          · exact .inl h
          · exact .inr h
          · exact absurd h e1
    · obtain ⟨o2, ms, rfl, g1, g2, g3, g4, g5⟩ := h
      rw [List.length_map] at g4 g5
      rw [List.take_length] at g5
      refine ⟨_, _, ms, rfl, g1, g2, g3, by omega, fun x => ?_⟩
      rw [g5]
      constructor
      · rintro (⟨a, ha, h⟩ | h)
        · exact ⟨a, (mem_take_succ hz2 a).mpr (.inl ha), h⟩
        · exact ⟨z, (mem_take_succ hz2 z).mpr (.inr rfl), h⟩
      · rintro ⟨a, ha, h⟩
        rcases (mem_take_succ hz2 a).mp ha with c | rfl
        · exact .inl ⟨a, c, h⟩
        · exact .inr h
  · obtain ⟨o1, o2, ms, rfl, h1, h2, h3, h4, h5⟩ := h
    rw [List.length_map, List.take_length] at h5
    refine ⟨_, rfl, d, _, rfl, h2, fun p hp => ?_⟩
    rw [keysD_vals]
    exact q p _ ms (h1.trans (same_upd hp)) (h1.free hp) upd_same h3 h5
end
end My
namespace My
open PySem PySem.Spec PyProof.Rows L2
structure NumAt (L : Addr) (H : Hp) (v : V) (k : E) : Prop where
  ex : ∃ (p : Addr) (ns : List Int), v = .ref p ∧ p ≠ L ∧ H p = some (.lst (ns.map V.int)) ∧ NumE k ns ∧ ns.length ≤ 41
theorem NumAt.same {L : Addr} {H H' : Hp} (s : Same H H') {v : V} {k : E} (h : NumAt L H v k) : NumAt L H' v k := by
  obtain ⟨p, ns, h1, h0, h2, h3⟩ := h.ex
  exact ⟨p, ns, h1, h0, s _ _ h2, h3⟩
theorem NumAt.store {L : Addr} {H : Hp} {o : HO} {v : V} {k : E} (h : NumAt L H v k) : NumAt L (upd H L o) v k := by
  obtain ⟨p, ns, h1, h0, h2, h3⟩ := h.ex
  exact ⟨p, ns, h1, h0, by rw [upd_ne h0]; exact h2, h3⟩
def spNum (n : Nat) : Sp := fun vs H Q _ => ∃ (v : V) (e : E), vs = [v, .int 40] ∧ e.ok = true ∧ e.depth < n ∧ e.places ≤ 20 ∧ Rep H v e.toD ∧ ∀ (p : Addr) (H' : Hp) (ns : List Int), Same H H' → H p = none → H' p = some (.lst (ns.map V.int)) → NumE e ns → ns.length ≤ 41 → Q (.ref p) H'
theorem len41 {lo pl : Nat} {gt : Option Nat} {po gw : Bool} {ns : List Int} (h : NumP lo pl gt po gw ns) (d : ns.Nodup) : ns.length ≤ 41 := nodup_len 41 ns d fun x hx => by
  have := h.rng x hx
  omega
theorem numE_join {es : List E} {ns : List Int} (h : RowP true es ns) : NumE (.join es) ns := by
  have q := h.num
  simp only [if_true] at q
  show NumP (E.join es).least (E.join es).places (E.join es).greatest (E.join es).pos (E.join es).grows ns
  rw [E.least, leastl_eq, E.places, placess_eq, E.greatest, greatl_eq, E.pos, poss_eq, E.grows, growss_eq]
  exact q
theorem numE_alt {es : List E} {ns : List Int} (h : RowP false es ns) : NumE (.alt es) ns := by
  have q := h.num
  simp only [Bool.false_eq_true, if_false] at q
  show NumP (E.alt es).least (E.alt es).places (E.alt es).greatest (E.alt es).pos (E.alt es).grows ns
  rw [E.least, leastl_eq, E.places, placess_eq, E.greatest, greatl_eq, E.pos, poss_eq, E.grows, growss_eq]
  exact q
theorem numE_one {k : E} {ns : List Int} (h : RowP false [k] ns) : NumE k ns := by
  have q := h.num
  simp only [Bool.false_eq_true, if_false] at q
  have e1 : (allO (List.map E.greatest [k])).map maxL = k.greatest := by
    show (allO [k.greatest]).map maxL = _
    cases h : k.greatest with
    | none => rfl
    | some g =>
      show some (max g 0) = some g
      exact congrArg some (by omega)
  rw [e1] at q
  simpa [minL] using q
theorem take_snoc {α : Type} {l : List α} {i : Nat} {x : α} (h : l[i]? = some x) : l.take (i + 1) = l.take i ++ [x] := by
  rw [List.take_add_one, h]
  rfl
theorem sum_take_le (es : List E) (i : Nat) : ((es.take i).map E.places).sum ≤ (es.map E.places).sum := by
  have e := List.take_append_drop i es
  have : (es.map E.places).sum = ((es.take i).map E.places).sum + ((es.drop i).map E.places).sum := by
    rw [← List.sum_append, ← List.map_append, e]
  omega
section
variable {P : Program} {w : World} {K : PySem.W.Frag} {mg : Str → Option Value} {base : Heap} {a_BOUNDS a_LONG_BOUNDS : Addr} {tL tM : Tok}
abbrev N__law_numbers : List Str := ["expression", "most", "rows", "found", "row", "turn", "part"]
theorem sc__law_numbers : FnScope ["expression", "most", "rows", "found", "row", "turn", "part"] ["expression", "most"] (defScope s__law_numbers) := ⟨rfl, rfl, rfl, by decide +kernel, rfl, by decide +kernel, by decide +kernel⟩
set_option maxHeartbeats 1000000 in
theorem ok_numbers_step {f : Addr} {fd : FuncData} (B : Bt K mg a_BOUNDS a_LONG_BOUNDS tL tM) (Dd : Df K mg "_law_numbers" s__law_numbers ["expression", "most"] f fd) (G_law_inside : Cl P w K mg base 1 "_law_inside" ["expression"] spInside) (G_law_once : Cl P w K mg base 1 "_law_once" ["rows"] spOnce) (G_law_sums : Cl P w K mg base 1 "_law_sums" ["first", "second", "most"] spSums) (n : Nat)
    (G_law_numbers : Cl P w K mg base (n + 1) "_law_numbers" ["expression", "most"] (spNum n)) : FnOk P w K mg base CX0 (n + 2) f fd ["expression", "most"] (spNum (n + 1)) := by
  refine Dd.F.ok sc__law_numbers (fun vs H Q Ex h => ?_) (fun cdv A outer s H vs Q Ex hr h => ?_)
  · obtain ⟨v, e, rfl, _⟩ := h
    rfl
  obtain ⟨v, e, rfl, hok, hd, hpl, hR, q⟩ := h
  refine ⟨_, (pss_cons (ps_if (pt_val (pe_callB call_isi rfl B.b_isinstance boot_isinstance (pa_cons (pv 0) (pa_cons (pe_bltn (v := .ty "str") rfl B.b_str boot_str rfl) pa_nil)))) (pss_one (ps_ret (pe_lst (pa_cons (pe_callB call_len rfl B.b_len boot_len (pa_cons (pv 0) pa_nil)) pa_nil)))) pss_nil)
    (pss_cons (ps_setLc (i := 2) (own := [("part", 6)]) (g := gName 6) (tt := tYes) rfl sc__law_numbers.nd rfl rfl (sw_true rfl rfl rfl (by decide +kernel)) (pi_tup (pe_cl G_law_inside (hr.mono (by omega)) rfl (pa_cons (pv 0) pa_nil))) (blkOk_by (N := N__law_numbers) (sc := defScope s__law_numbers) (by decide +kernel)) (fun _ _ _ _ _ => pg_name (i := 6) sc__law_numbers.nd rfl (Or.inl rfl)) (fun _ _ _ _ _ => pts_nil) (fun _ _ _ _ _ => (pe_cl G_law_numbers (hr.mono (by omega)) rfl (pa_cons (pv 6) (pa_cons (pv 1) pa_nil)))))
    (pss_cons (ps_if (pt_cmpR op_eq (pe_ix (r := rIxT K) ix_tup (pv 0) pe_int (fun _ _ => rfl)) pe_str (nomark _)) (pss_cons (ps_set (i := 3) sc__law_numbers.nd rfl (Or.inl rfl) (pe_lst (pa_cons pe_int pa_nil)))
    (pss_cons (ps_for PassesOwn.never rfl (pi_list (pv 2)) (pg_name (i := 4) sc__law_numbers.nd rfl (Or.inl rfl)) (pss_one (ps_set (i := 3) sc__law_numbers.nd rfl (Or.inl rfl) (pe_cl G_law_sums (hr.mono (by omega)) rfl (pa_cons (pv 3) (pa_cons (pv 4) (pa_cons (pv 1) pa_nil)))))))
    (pss_one (ps_ret (pv 3))))) pss_nil)
    (pss_cons (ps_set (i := 3) sc__law_numbers.nd rfl (Or.inl rfl) (pe_lst pa_nil))
    (pss_cons (ps_for PassesOwn.never rfl (pi_list (pv 2)) (pg_name (i := 4) sc__law_numbers.nd rfl (Or.inl rfl)) (pss_one (ps_set (i := 3) sc__law_numbers.nd rfl (Or.inl rfl) (pe_cl G_law_once (hr.mono (by omega)) rfl (pa_cons (pe_op op_cat (pv 3) (pv 4)) pa_nil)))))
    (pss_cons (ps_if (pt_cmpR op_eq (pe_ix (r := rIxT K) ix_tup (pv 0) pe_int (fun _ _ => rfl)) pe_str (nomark _)) (pss_one (ps_ret (pv 3))) pss_nil)
    (pss_cons (ps_set (i := 3) sc__law_numbers.nd rfl (Or.inl rfl) (pe_cl G_law_once (hr.mono (by omega)) rfl (pa_cons (pe_op op_cat (pv 3) (pe_lst (pa_cons pe_int pa_nil))) pa_nil)))
    (C8.pss_cut (ps_if (pt_cmpR op_eq (pe_ix (r := rIxT K) ix_tup (pv 0) pe_int (fun _ _ => rfl)) pe_str (nomark _)) (pss_one (ps_for PassesOwn.never rfl (pi_range1 rfl B.b_range (pa_cons pe_int pa_nil)) (pg_name (i := 5) sc__law_numbers.nd rfl (Or.inl rfl)) (pss_one (ps_set (i := 3) sc__law_numbers.nd rfl (Or.inl rfl) (pe_cl G_law_sums (hr.mono (by omega)) rfl (pa_cons (pv 3) (pa_cons (pv 3) (pa_cons (pv 1) pa_nil)))))))) pss_nil)
    (pss_one (ps_ret (pv 3))))))))))), ?_⟩
  obtain ⟨t, ht, k1, _⟩ := hR.ty (K := K)
  refine ⟨_, rfl, _, _, _, _, _, rfl, .ty _, ht, k1, _, rfl, ite2 (fun e1 => ?_) (fun e1 => ?_)⟩
  · cases e with
    | eps =>
      rw [E.toD] at hR
      cases hR with
      | str h => exact ⟨_, rfl, _, 0, rfl, ⟨Nat.le_trans h (by decide), lE.symm⟩, by show 1 ≤ sizeLine; decide, fun p hp => q p _ [0] (same_upd hp) hp upd_same num_zero (by decide)⟩
    | sym c =>
      rw [E.toD] at hR
      cases hR with
      | str h => exact ⟨_, rfl, _, 1, rfl, ⟨Nat.le_trans h (by decide), rfl⟩, by show 1 ≤ sizeLine; decide, fun p hp => q p _ [1] (same_upd hp) hp upd_same num_one (by decide)⟩
    | maybe k => exact absurd e1 (by rw [E.toD]; intro c; cases c)
    | many k => exact absurd e1 (by rw [E.toD]; intro c; cases c)
    | join es => exact absurd e1 (by rw [E.toD]; intro c; cases c)
    | alt es => exact absurd e1 (by rw [E.toD]; intro c; cases c)
  · obtain ⟨w, y, p0, x0, hlw, rfl, hp0, hx0, hk⟩ := node_of hok hR e1
    refine ⟨_, rfl, .ref p0, e, rfl, hok, hR, fun p xs H1 s1 hp hz hX => ⟨p, rfl, ⟨_, SqT.of hp⟩, fun L hL => ?_⟩⟩
    have hl := hX.len
    rw [List.length_map] at hl
    have hpk := places_kids e
    refine lc_tup (K := K) (a := p) (xs := xs) (fun i H2 => Same H1 H2 ∧ ∃ zs : List V, Two (NumAt L H2) zs (e.kids.take i) ∧ H2 L = some (.lst zs)) ⟨same_upd hL, [], .nil, upd_same⟩ (fun i H2 _ h => SqT.of (h.1 _ _ hp)) (fun i x H2 hx h => ?_) (fun H2 h => ?_)
    · obtain ⟨h0, zs, hzs, h2⟩ := h
      obtain ⟨d, hd1, hxd⟩ := hX.get hx
      rw [List.getElem?_map] at hd1
      obtain ⟨k, hk, rfl⟩ := Option.map_eq_some_iff.mp hd1
      have hmem := List.mem_of_getElem? hk
      have hkp : k.places ≤ (e.kids.map E.places).sum := by
        have h1 := sum_take_le e.kids (i + 1)
        rw [take_snoc hk, List.map_append, List.sum_append] at h1
        have h2 : (List.map E.places [k]).sum = k.places := by show k.places + 0 = _; omega
        omega
      have hzl := hzs.len
      rw [List.length_take] at hzl
      refine ⟨rfl, tyes ⟨_, rfl, _, rfl, x, k, rfl, ok_kids hok k hmem, ?_, by omega, hxd.pers (Pers.same h0), fun r H3 ns s3 hr0 hr3 hn3 hl3 => ⟨_, s3 _ _ h2, ?_, ?_, zs ++ [.ref r], ?_, upd_same⟩⟩⟩
      · have := depth_kids e k hmem
        omega
      · have : i < xs.length := (List.getElem?_eq_some_iff.mp hx).1
        exact Nat.lt_of_le_of_lt (m := 100000) (by omega) (by decide)
      · exact fun b o e => by rw [upd_ne (ne_of_none e hL)]; exact s3 _ _ (h0 b o e)
      · rw [take_snoc hk]
        have nrL : r ≠ L := (ne_of_none h2 hr0).symm
        exact (hzs.mono fun _ _ g => (g.same s3).store).app (.cons ⟨r, ns, rfl, nrL, by rw [upd_ne nrL]; exact hr3, hn3, hl3⟩ .nil)
    · obtain ⟨h0, vs, hvs, hLv⟩ := h
      rw [hl, List.take_length] at hvs
      have S2 := s1.trans h0
      have hp2 := S2 _ _ hp0
      have hvl := hvs.len
      refine ⟨_, rfl, p0, _, 0, _, rfl, rfl, SqT.of hp2, at_zero, rfl, _, rfl, ite2 (fun e2 => ?_) (fun e2 => ?_)⟩
      · have hw := vstr e2
        rcases hk with (⟨h, k, rfl, rfl⟩ | ⟨h, k, rfl, rfl⟩) | ⟨h, es, rfl, hes, rfl⟩ | ⟨h, es, rfl, _, rfl⟩
        · exact absurd (hw.symm.trans h) jm
        · exact absurd (hw.symm.trans h) jn
        · refine ⟨by show 1 ≤ sizeLine; decide, fun f0 hf0 => ?_⟩
          refine ⟨_, rfl, L, rfl, ⟨_, SqL.of ((same_upd hf0) _ _ hLv)⟩, for_list (K := K) (a := L) (xs := vs) (fun i σ' H' => ∃ (fd : Addr) (ns : List Int) (o : Option V), σ' = [some (.ref p0), some (.int 40), some (.ref L), some (.ref fd), o, none, none] ∧ Same H2 H' ∧ H fd = none ∧ H' fd = some (.lst (ns.map V.int)) ∧ RowP true (es.take i) ns ∧ ns.length ≤ 41)
            ⟨f0, [0], none, rfl, same_upd hf0, S2.free hf0, upd_same, row_join0, by decide⟩ (fun i σ' H' _ h => ?_) (fun i y σ' H' hi h => ?_) (fun σ' H' h => ?_)⟩
          · obtain ⟨_, _, _, _, h1, _⟩ := h
            exact SqL.of (h1 _ _ hLv)
          · obtain ⟨fd, ns, o, rfl, g1, g2, g3, g4, g5⟩ := h
            obtain ⟨k, hk, hnk⟩ := hvs.get hi
            obtain ⟨r, ms, rfl, _, r2, r3, r4⟩ := (hnk.same g1).ex
            refine ⟨_, rfl, _, rfl, _, rfl, fd, r, ns, ms, rfl, g3, r2, by omega, by omega, fun p6 H6 ms6 s6 hn6 h6 nd6 hz6 => ?_⟩
            have hk5 : es[i]? = some k := hk
            have hpl6 : (((es.take i) ++ [k]).map E.places).sum ≤ 20 := by
              rw [← take_snoc hk5]
              have h1 := sum_take_le es (i + 1)
              have h2 : (E.join es).places = (es.map E.places).sum := by rw [E.places, placess_eq]
              omega
            have rw6 := row_join g4 r3 hpl6 hz6
            refine ⟨p6, ms6, _, rfl, g1.trans s6, (S2.trans g1).free hn6, h6, ?_, len41 rw6.num nd6⟩
            rw [take_snoc hk5]
            exact rw6
          · obtain ⟨fd, ns, o, rfl, g1, g2, g3, g4, g5⟩ := h
            rw [hvl] at g4
            have g4' : RowP true es ns := by
              have e4 : es.take (E.join es).kids.length = es := List.take_length
              rw [e4] at g4
              exact g4
            exact ⟨_, rfl, q fd H' ns (S2.trans g1) g2 g3 (numE_join g4') g5⟩
        · exact absurd (hw.symm.trans h) jo
      · have hwn := vstrN e2
        refine ⟨Nat.zero_le _, fun f0 hf0 => ?_⟩
        refine ⟨_, rfl, L, rfl, ⟨_, SqL.of ((same_upd hf0) _ _ hLv)⟩, for_list (K := K) (a := L) (xs := vs) (fun i σ' H' => ∃ (fd : Addr) (ns : List Int) (o : Option V), σ' = [some (.ref p0), some (.int 40), some (.ref L), some (.ref fd), o, none, none] ∧ Same H2 H' ∧ H fd = none ∧ H' fd = some (.lst (ns.map V.int)) ∧ ((i = 0 ∧ ns = []) ∨ (0 < i ∧ RowP false (e.kids.take i) ns)) ∧ ns.length ≤ 41)
            ⟨f0, [], none, rfl, same_upd hf0, S2.free hf0, upd_same, .inl ⟨rfl, rfl⟩, by decide⟩ (fun i σ' H' _ h => ?_) (fun i y σ' H' hi h => ?_) (fun σ' H' h => ?_)⟩
        · obtain ⟨_, _, _, _, h1, _⟩ := h
          exact SqL.of (h1 _ _ hLv)
        · obtain ⟨fd, ns, o, rfl, g1, g2, g3, g4, g5⟩ := h
          obtain ⟨k, hk, hnk⟩ := hvs.get hi
          obtain ⟨r, ms, rfl, _, r2, r3, r4⟩ := (hnk.same g1).ex
          refine ⟨_, rfl, _, rfl, fd, r, _, _, rfl, rfl, g3, r2, ?_, fun c hc => ⟨c, ns ++ ms, rfl, by rw [upd_same, List.map_append] <;> rfl, by rw [List.length_append]; omega, fun p6 H6 ms6 s6 hn6 h6 nd6 hz6 => ?_⟩⟩
          · rw [List.length_map, List.length_map]
            exact Nat.le_trans (m := 100) (by omega) (by decide)
          · have S6 := g1.trans ((same_upd hc).trans s6)
            have rw6 : RowP false (e.kids.take (i + 1)) ms6 := by
              rw [take_snoc hk]
              rcases g4 with ⟨rfl, rfl⟩ | ⟨hi0, g4⟩
              · exact row_alt1 r3 fun x => by rw [hz6, List.nil_append]
              · refine row_alt g4 (fun c => ?_) r3 fun x => by rw [hz6, List.mem_append]
                have h1 := congrArg List.length c
                have h2 := (List.getElem?_eq_some_iff.mp hk).1
                rw [List.length_take] at h1
                have h3 : min i e.kids.length = 0 := h1
                omega
            exact ⟨p6, ms6, _, rfl, S6, (S2.trans (g1.trans (same_upd hc))).free hn6, h6, .inr ⟨Nat.succ_pos i, rw6⟩, len41 rw6.num nd6⟩
        · obtain ⟨fd, ns, o, rfl, g1, g2, g3, g4, g5⟩ := h
          have S3 := S2.trans g1
          have kpos : 0 < e.kids.length := by
            rcases hk with (⟨_, k, rfl, _⟩ | ⟨_, k, rfl, _⟩) | ⟨_, es, rfl, hes, _⟩ | ⟨_, es, rfl, hes, _⟩
            · exact Nat.succ_pos 0
            · exact Nat.succ_pos 0
            · show 0 < es.length
              omega
            · show 0 < es.length
              omega
          have g6 : RowP false e.kids ns := by
            rcases g4 with ⟨h, _⟩ | ⟨_, g4⟩
            · omega
            · rw [hvl, List.take_length] at g4
              exact g4
          refine ⟨_, rfl, p0, _, 0, _, rfl, rfl, SqT.of (S3 _ _ hp0), at_zero, rfl, _, rfl, ite2 (fun e3 => ?_) (fun e3 => ?_)⟩
          · have hw := vstr e3
            rcases hk with (⟨h, k, rfl, rfl⟩ | ⟨h, k, rfl, rfl⟩) | ⟨h, es, rfl, hes, rfl⟩ | ⟨h, es, rfl, _, rfl⟩
            · exact absurd (hw.symm.trans h) om
            · exact absurd (hw.symm.trans h) on
            · exact absurd (h.symm.trans hw) jo
            · exact ⟨_, rfl, q fd H' ns S3 g2 g3 (numE_alt g6) g5⟩
          · have hwo := vstrN e3
            have hk' := hk.resolve_right fun c => c.elim (fun h => hwn h.1) (fun h => hwo h.1)
            obtain ⟨k, hkk, hyk, hwk⟩ : ∃ k, e.kids = [k] ∧ y = k.toD ∧ ((w = sMaybe ∧ e = .maybe k) ∨ (w = sMany ∧ e = .many k)) := by
              rcases hk' with ⟨h, k, rfl, rfl⟩ | ⟨h, k, rfl, rfl⟩
              · exact ⟨k, rfl, rfl, .inl ⟨h, rfl⟩⟩
              · exact ⟨k, rfl, rfl, .inr ⟨h, rfl⟩⟩
            rw [hkk] at g6
            have nk := numE_one g6
            have plk : k.places ≤ 20 := by
              rcases hwk with ⟨_, rfl⟩ | ⟨_, rfl⟩ <;> (rw [E.places] at hpl; exact hpl)
            -- found = _law_once(found + [0])
            refine ⟨_, rfl, by show 1 ≤ sizeLine; decide, fun z0 hz0 => ⟨fd, z0, _, _, rfl, rfl, (same_upd hz0) _ _ g3, upd_same, ?_, fun c hc => ⟨c, ns ++ [0], rfl, by rw [upd_same, List.map_append] <;> rfl, by rw [List.length_append]; show ns.length + 1 ≤ _; omega, fun p7 H7 ms7 s7 hn7 h7 nd7 hz7 => ?_⟩⟩⟩
            · rw [List.length_map]
              exact Nat.le_trans (m := 100) (by show ns.length + 1 ≤ 100; omega) (by decide)
            · have S7 := S3.trans ((same_upd hz0).trans ((same_upd hc).trans s7))
              have hz7' : ∀ x, x ∈ ms7 ↔ x ∈ ns ∨ x = 0 := fun x => by rw [hz7, List.mem_append, List.mem_singleton]
              have n7 := num_maybe nk hz7'
              have r7 := rounds_zero nk hz7'
              refine ⟨fun σ' H' => ∃ (fd : Addr) (ns : List Int) (o t : Option V), σ' = [some (.ref p0), some (.int 40), some (.ref L), some (.ref fd), o, t, none] ∧ Same H H' ∧ H fd = none ∧ H' fd = some (.lst (ns.map V.int)) ∧ NumE e ns ∧ ns.length ≤ 41, ?_, ?_⟩
              · refine ⟨_, rfl, p0, _, 0, _, rfl, rfl, SqT.of (S7 _ _ hp0), at_zero, rfl, _, rfl, ite2 (fun e4 => ?_) (fun e4 => ?_)⟩
                · have hw := vstr e4
                  have hem : e = .many k := by
                    rcases hwk with ⟨h, _⟩ | ⟨_, h⟩
                    · exact absurd (h.symm.trans hw) mn
                    · exact h
                  refine ⟨6, rfl, by decide, by decide, for_range (lo := 0) (n := 6) (fun i σ' H' => ∃ (fd : Addr) (zs : List Int) (o t : Option V), σ' = [some (.ref p0), some (.int 40), some (.ref L), some (.ref fd), o, t, none] ∧ Same H H' ∧ H fd = none ∧ H' fd = some (.lst (zs.map V.int)) ∧ Rounds ns i zs ∧ zs.length ≤ 41) ?_ ?_ ?_⟩
                  · exact ⟨p7, ms7, _, _, rfl, S7, (S3.trans ((same_upd hz0).trans (same_upd hc))).free hn7, h7, r7, len41 n7 nd7⟩
                  · rintro i σ' H8 hi ⟨f8, zs, o8, t8, rfl, a1, a2, a3, a4, a5⟩
                    refine ⟨_, rfl, _, rfl, _, rfl, f8, f8, zs, zs, rfl, a3, a3, by omega, by omega, fun p9 H9 ms9 s9 hn9 h9 nd9 hz9 => ?_⟩
                    have r9 := rounds_succ a4 hz9
                    exact ⟨p9, ms9, _, _, rfl, a1.trans s9, a1.free hn9, h9, r9, nodup_len 41 ms9 nd9 fun x hx => by have := r9.rng x hx; omega⟩
                  · rintro σ' H8 ⟨f8, zs, o8, t8, rfl, a1, a2, a3, a4, a5⟩
                    refine ⟨f8, zs, o8, t8, rfl, a1, a2, a3, ?_, a5⟩
                    rw [hem]
                    have nm := num_many nk plk a4
                    show NumP (E.many k).least (E.many k).places (E.many k).greatest (E.many k).pos (E.many k).grows zs
                    rw [E.least, E.places, E.greatest, E.pos, E.grows]
                    exact nm
                · have hw := vstrN e4
                  have hem : e = .maybe k := by
                    rcases hwk with ⟨_, h⟩ | ⟨h, _⟩
                    · exact h
                    · exact absurd h hw
                  refine ⟨p7, ms7, _, _, rfl, S7, (S3.trans ((same_upd hz0).trans (same_upd hc))).free hn7, h7, ?_, len41 n7 nd7⟩
                  rw [hem]
                  show NumP (E.maybe k).least (E.maybe k).places (E.maybe k).greatest (E.maybe k).pos (E.maybe k).grows ms7
                  rw [E.least, E.places, E.greatest, E.pos, E.grows]
                  exact n7
              · rintro σ' H8 ⟨f8, ns8, o8, t8, rfl, a1, a2, a3, a4, a5⟩
                exact ⟨_, rfl, q f8 H8 ns8 a1 a2 a3 a4 a5⟩
end
end My
namespace My
open PySem PySem.Spec PyProof.Rows L2
def spGrows (n : Nat) : Sp := fun vs H Q _ => ∃ (v : V) (e : E), vs = [v] ∧ e.ok = true ∧ e.depth < n ∧ e.depth ≤ 8 ∧ e.places ≤ 20 ∧ Rep H v e.toD ∧ ∀ H', Same H H' → Q (.bl e.grows) H'
def spLaw (K : PySem.W.Frag) : Sp := fun vs H Q _ => ∃ (a : Addr) (ns : List Int), vs = [.ref a] ∧ SqL K H a (ns.map V.int) ∧ ns.length ≤ 63 ∧ ∀ H', Q (.bl true) H'
theorem kids_places {e k : E} (h : k ∈ e.kids) : k.places ≤ e.places := by
  have h1 := places_kids e
  have : ∀ l : List E, k ∈ l → k.places ≤ (l.map E.places).sum := by
    intro l
    induction l with
    | nil => intro h; cases h
    | cons a l ih =>
      intro h
      rw [List.map_cons, List.sum_cons]
      rcases List.mem_cons.mp h with rfl | h
      · omega
      · have := ih h
        omega
  have := this _ h
  omega
def manyPos : E → Bool
  | .many k => k.pos
  | _ => false
theorem grows_kids (e : E) : e.grows = (manyPos e || e.kids.any E.grows) := by
  cases e with
  | eps => rfl
  | sym c => rfl
  | maybe k => rw [E.grows, E.kids]; simp [manyPos]
  | many k => rw [E.grows, E.kids]; simp [manyPos]
  | join es => rw [E.grows, E.kids, growss_eq]; simp [manyPos]
  | alt es => rw [E.grows, E.kids, growss_eq]; simp [manyPos]
section
variable {P : Program} {w : World} {K : PySem.W.Frag} {mg : Str → Option Value} {base : Heap} {a_BOUNDS a_LONG_BOUNDS : Addr} {tL tM : Tok}
abbrev N__law_grows : List Str := ["expression", "part"]
theorem sc__law_grows : FnScope ["expression", "part"] ["expression"] (defScope s__law_grows) := ⟨rfl, rfl, rfl, by decide +kernel, rfl, by decide +kernel, by decide +kernel⟩
theorem ok_grows_step {f : Addr} {fd : FuncData} (B : Bt K mg a_BOUNDS a_LONG_BOUNDS tL tM) (Dd : Df K mg "_law_grows" s__law_grows ["expression"] f fd) (G_law_inside : Cl P w K mg base 1 "_law_inside" ["expression"] spInside) (G_law_numbers : Cl P w K mg base 9 "_law_numbers" ["expression", "most"] (spNum 8)) (n : Nat)
    (G_law_grows : Cl P w K mg base (n + 9) "_law_grows" ["expression"] (spGrows n)) : FnOk P w K mg base CX0 (n + 10) f fd ["expression"] (spGrows (n + 1)) := by
  refine Dd.F.ok sc__law_grows (fun vs H Q Ex h => ?_) (fun cdv A outer s H vs Q Ex hr h => ?_)
  · obtain ⟨v, e, rfl, _⟩ := h
    rfl
  obtain ⟨v, e, rfl, hok, hd, hd8, hpl, hR, q⟩ := h
  refine ⟨_, (pss_cons (ps_if (pt_val (pe_callB call_isi rfl B.b_isinstance boot_isinstance (pa_cons (pv 0) (pa_cons (pe_bltn (v := .ty "str") rfl B.b_str boot_str rfl) pa_nil)))) (pss_one (ps_ret pe_bl)) pss_nil)
    (C8.pss_cut (ps_if (PW.pt (pw_and (pt_cmpR op_eq (pe_ix (r := rIxT K) ix_tup (pv 0) pe_int (fun _ _ => rfl)) pe_str (nomark _)) (pw_and1 (pt_cmpR op_gt (pe_callB (cr_max rfl) rfl B.b_max boot_max (pa_cons (pe_cl G_law_numbers (hr.mono (by omega)) rfl (pa_cons (pe_ix (r := rIxT K) ix_tup (pv 0) pe_int (fun _ _ => rfl)) (pa_cons pe_int pa_nil))) pa_nil)) pe_int (nomark _))))) (pss_one (ps_ret pe_bl)) pss_nil)
    (pss_one (ps_ret (pe_callB (cr_any rfl) rfl B.b_any boot_any (pa_cons (pe_lc (own := [("part", 1)]) (g := gName 1) (tt := tYes) rfl sc__law_grows.nd (pi_tup (pe_cl G_law_inside (hr.mono (by omega)) rfl (pa_cons (pv 0) pa_nil))) (blkOk_by (N := N__law_grows) (sc := defScope s__law_grows) (by decide +kernel)) (fun _ _ _ _ _ => pg_name (i := 1) sc__law_grows.nd rfl (Or.inl rfl)) (fun _ _ _ _ _ => pts_nil) (fun _ _ _ _ _ => (pe_cl G_law_grows (hr.mono (by omega)) rfl (pa_cons (pv 1) pa_nil)))) pa_nil)))))), ?_⟩
  obtain ⟨t, ht, k1, _⟩ := hR.ty (K := K)
  refine ⟨_, rfl, _, _, _, _, _, rfl, .ty _, ht, k1, _, rfl, ite2 (fun e1 => ?_) (fun e1 => ?_)⟩
  · have hq := q H (Same.refl H)
    cases e with
    | eps => exact hq
    | sym c => exact hq
    | maybe k => exact absurd e1 (by rw [E.toD]; intro c; cases c)
    | many k => exact absurd e1 (by rw [E.toD]; intro c; cases c)
    | join es => exact absurd e1 (by rw [E.toD]; intro c; cases c)
    | alt es => exact absurd e1 (by rw [E.toD]; intro c; cases c)
  · obtain ⟨w, y, p0, x0, hlw, rfl, hp0, hx0, hk⟩ := node_of hok hR e1
    refine ⟨fun σ' H' => σ' = [some (.ref p0), none] ∧ Same H H' ∧ manyPos e = false, ?_, ?_⟩
    · refine ⟨_, rfl, p0, _, 0, _, rfl, rfl, SqT.of hp0, at_zero, rfl, _, rfl, ite2 (fun e2 => ?_) (fun e2 => ?_)⟩
      · have hw := vstr e2
        rcases hk with (⟨h, k, rfl, rfl⟩ | ⟨h, k, rfl, rfl⟩) | ⟨h, es, rfl, hes, rfl⟩ | ⟨h, es, rfl, _, rfl⟩
        · exact absurd (h.symm.trans hw) mn
        · rw [E.ok] at hok
          rw [E.depth] at hd8
          rw [E.places] at hpl
          refine ⟨_, rfl, p0, _, 1, _, rfl, rfl, SqT.of hp0, at_one, x0, k, rfl, hok, by omega, hpl, hx0, fun p H1 ns s1 hn1 h1 hne hl => ⟨p, ns, rfl, SqL.of h1, ?_, fun m hm hle => ⟨_, _, rfl, rfl, _, rfl, ite2 (fun e3 => ?_) (fun e3 => ?_)⟩⟩⟩
          · have := List.length_pos_of_mem hne.low
            exact this
          · have e4 : 0 < m := of_decide_eq_true e3
            have kp : k.pos = true := by
              cases c : k.pos with
              | true => rfl
              | false =>
                have := hne.posN c m hm
                omega
            have hq := q H1 s1
            rw [E.grows, kp] at hq
            exact hq
          · have e4 : ¬ 0 < m := fun h => e3 (decide_eq_true h)
            refine ⟨rfl, s1, ?_⟩
            show k.pos = false
            cases c : k.pos with
            | false => rfl
            | true =>
              obtain ⟨x, hx, h0, _⟩ := hne.posY c
              have := hle x hx
              omega
        · exact absurd (h.symm.trans hw) jn
        · exact absurd (h.symm.trans hw) on
      · have hw := vstrN e2
        refine iteF ⟨rfl, Same.refl H, ?_⟩
        rcases hk with (⟨h, k, rfl, rfl⟩ | ⟨h, k, rfl, rfl⟩) | ⟨h, es, rfl, hes, rfl⟩ | ⟨h, es, rfl, _, rfl⟩
        · rfl
        · exact absurd h hw
        · rfl
        · rfl
    rintro σ' H0 ⟨rfl, s0, hpos⟩
    have hR0 := hR.pers (Pers.same s0)
    refine ⟨_, rfl, .ref p0, e, rfl, hok, hR0, fun p xs H1 s1 hp hz hX => ⟨p, rfl, ⟨_, SqT.of hp⟩, fun L hL => ?_⟩⟩
    have hl := hX.len
    rw [List.length_map] at hl
    refine lc_tup (K := K) (a := p) (xs := xs) (fun i H2 => Same H1 H2 ∧ H2 L = some (.lst (((e.kids.take i).map E.grows).map V.bl))) ⟨same_upd hL, upd_same⟩ (fun i H2 _ h => SqT.of (h.1 _ _ hp)) (fun i x H2 hx h => ?_) (fun H2 h => ?_)
    · obtain ⟨d, hd1, hxd⟩ := hX.get hx
      rw [List.getElem?_map] at hd1
      obtain ⟨k, hk, rfl⟩ := Option.map_eq_some_iff.mp hd1
      have hmem := List.mem_of_getElem? hk
      have hdk := depth_kids e k hmem
      have hpk := kids_places hmem
      refine ⟨rfl, tyes ⟨_, rfl, x, k, rfl, ok_kids hok k hmem, by omega, by omega, by omega, hxd.pers (Pers.same h.1), fun H3 s3 => ⟨_, s3 _ _ h.2, ?_, ?_, ?_⟩⟩⟩
      · have : i < xs.length := (List.getElem?_eq_some_iff.mp hx).1
        rw [List.length_map, List.length_map, List.length_take]
        exact Nat.lt_of_le_of_lt (m := 100000) (by omega) (by decide)
      · exact fun b o e => by rw [upd_ne (ne_of_none e hL)]; exact s3 _ _ (h.1 b o e)
      · rw [upd_same, take_snoc hk, List.map_append, List.map_append]
        rfl
    · obtain ⟨h1, h2⟩ := h
      rw [hl, List.take_length] at h2
      refine ⟨L, _, rfl, SqL.of h2, ?_⟩
      have e3 : ((e.kids.map E.grows).any id) = e.kids.any E.grows := by
        rw [List.any_map]
        rfl
      have hq := q H2 ((s0.trans s1).trans h1)
      rw [grows_kids, hpos, Bool.false_or] at hq
      rw [e3]
      exact hq
/-! ### written data around what stands in a slot -/
def GD0 (H0 : Hp) (σ : L2.St) (ta : TE) (d : My.D) : Prop := ∀ (H : Hp), Same H0 H → ∀ Q : VK, (∀ v H', Same H H' → Rep H' v d → Q v H') → ta σ H Q
def GDs0 (H0 : Hp) (σ : L2.St) (t : TA) (ds : List My.D) : Prop := ∀ (H : Hp), Same H0 H → ∀ Q : List V → Hp → Prop, (∀ vs H', Same H H' → Two (Rep H') vs ds → Q vs H') → t σ H Q
theorem g0_var {H0 : Hp} {σ : L2.St} {i : Nat} {v : V} {d : My.D} (h : σ[i]? = some (some v)) (r : Rep H0 v d) : GD0 H0 σ (tVar i) d := fun H s Q q => ⟨v, h, q v H (Same.refl H) (r.pers (Pers.same s))⟩
theorem g0_str {H0 : Hp} {σ : L2.St} {z : Str} (h : z.length ≤ 1000) : GD0 H0 σ (tC (.str z)) (.str z) := fun H _ Q q => q _ H (Same.refl H) (.str h)
theorem g0s_nil {H0 : Hp} {σ : L2.St} : GDs0 H0 σ tNil [] := fun H _ Q q => q _ H (Same.refl H) .nil
theorem g0s_cons {H0 : Hp} {σ : L2.St} {ta : TE} {t : TA} {d : My.D} {ds : List My.D} (h : GD0 H0 σ ta d) (k : GDs0 H0 σ t ds) : GDs0 H0 σ (tCons ta t) (d :: ds) := fun H s Q q =>
  h H s _ fun v H1 s1 r1 => k H1 (s.trans s1) _ fun vs H2 s2 r2 => q _ H2 (s1.trans s2) (.cons (r1.pers (Pers.same s2)) r2)
theorem g0_tup {H0 : Hp} {σ : L2.St} {t : TA} {ds : List My.D} (h : GDs0 H0 σ t ds) (z : ds.length ≤ 100000) : GD0 H0 σ (tTup t) (.tup ds) := fun H s Q q =>
  h H s _ fun vs H1 s1 r1 => ⟨Nat.le_trans (Nat.le_of_eq r1.len) (Nat.le_trans z (by decide)), fun p hp => q _ _ (s1.trans (same_upd hp)) (Rep.tup2 upd_same (Nat.le_trans (Nat.le_of_eq r1.len) z) (Rep.pers2 (Pers.new hp) r1))⟩
/-- a written list that goes to a name -/
theorem g0s_set {H0 : Hp} {σ : L2.St} {t : TA} {ds : List My.D} {i : Nat} {D : Ends} (h : GDs0 H0 σ t ds) (z : ds.length ≤ 100000) (k : ∀ vs H', Same H0 H' → Two (Rep H') vs ds → ∀ l, H' l = none → D.nx (σ.set i (some (.ref l))) (upd H' l (.lst vs))) : tAsg (tLst t) (gName i) D σ H0 :=
  h H0 (Same.refl H0) _ fun vs H1 s1 r1 => ⟨Nat.le_trans (Nat.le_of_eq r1.len) (Nat.le_trans z (by decide)), fun p hp => k vs H1 s1 r1 p hp⟩
theorem two_mem {α β : Type} {R : α → β → Prop} {as : List α} {bs : List β} (h : Two R as bs) {a : α} (ha : a ∈ as) : ∃ b ∈ bs, R a b := by
  induction h with
  | nil => cases ha
  | cons h t ih =>
    rcases List.mem_cons.mp ha with rfl | ha
    · exact ⟨_, List.mem_cons_self .., h⟩
    · obtain ⟨b, hb, r⟩ := ih ha
      exact ⟨b, List.mem_cons_of_mem _ hb, r⟩
theorem repj_two {H : Hp} {p : Addr} {x y : V} {j i : J} (h : H p = some (.lst [x, y])) (hx : RepJ H x j 0) (hy : RepJ H y i 0) : RepJ H (.ref p) (.lst [j, i]) 1 := by
  refine .lst h (by show 2 ≤ 100000; decide) rfl fun k a b ha hb => ?_
  match k, ha, hb with
  | 0, ha, hb => cases ha; cases hb; exact hx
  | 1, ha, hb => cases ha; cases hb; exact hy
def jv : Option Nat → J
  | none => .non
  | some g => .int g
theorem repj_ov {H : Hp} (o : Option Nat) : RepJ H (ov o) (jv o) 0 := by
  cases o with
  | none => exact .non
  | some g => exact .int _
/-- what the law asks of an expression -/
structure Fine (e : E) : Prop where
  ok : e.ok = true
  pl : e.places ≤ 20
  dp : e.depth ≤ 7
  pt : e.parts ≤ 190
  sz : e.toD.size ≤ 1000000
theorem size_le : ∀ e : E, e.toD.size ≤ 4 * e.parts := by
  have A : ∀ n (e : E), e.depth ≤ n → e.toD.size ≤ 4 * e.parts := by
    intro n
    induction n with
    | zero =>
      intro e h
      cases e with
      | eps => rw [E.toD, E.parts, My.D.size]; omega
      | sym c => rw [E.toD, E.parts, My.D.size]; omega
      | maybe e => rw [E.depth] at h; omega
      | many e => rw [E.depth] at h; omega
      | join es => rw [E.depth] at h; omega
      | alt es => rw [E.depth] at h; omega
    | succ n ih =>
      have rows : ∀ es : List E, (∀ e ∈ es, e.depth ≤ n) → ((es.map E.toD).map My.D.size).sum ≤ 4 * (es.map E.parts).sum := by
        intro es
        induction es with
        | nil => intro _; exact Nat.zero_le _
        | cons e es ih2 =>
          intro h
          have h1 := ih e (h e (List.mem_cons_self ..))
          have h2 := ih2 fun x hx => h x (List.mem_cons_of_mem _ hx)
          simp only [List.map_cons, List.sum_cons]
          omega
      intro e h
      cases e with
      | eps => rw [E.toD, E.parts, My.D.size]; omega
      | sym c => rw [E.toD, E.parts, My.D.size]; omega
      | maybe e =>
        rw [E.depth] at h
        have := ih e (by omega)
        rw [E.toD, E.parts]
        simp only [My.D.size, My.D.size.sizes]
        omega
      | many e =>
        rw [E.depth] at h
        have := ih e (by omega)
        rw [E.toD, E.parts]
        simp only [My.D.size, My.D.size.sizes]
        omega
      | join es =>
        have hk : ∀ e ∈ es, e.depth ≤ n := fun e he => by
          have := depth_kids (.join es) e he
          omega
        have := rows es hk
        rw [E.toD, E.parts, partss_eq, toDs_eq]
        simp only [My.D.size, My.D.size.sizes, sizes_eq]
        omega
      | alt es =>
        have hk : ∀ e ∈ es, e.depth ≤ n := fun e he => by
          have := depth_kids (.alt es) e he
          omega
        have := rows es hk
        rw [E.toD, E.parts, partss_eq, toDs_eq]
        simp only [My.D.size, My.D.size.sizes, sizes_eq]
        omega
  exact fun e => A _ e (Nat.le_refl _)
theorem ij_many (k : E) : isJoin (.many k) = false := rfl
theorem ij_sym (c : Nat) : isJoin (.sym c) = false := rfl
theorem ia_eps : isAlt .eps = false := rfl
def rowsE (e p : E) : List E := [e, e, p, .many (.maybe .eps), .join [p, .many (.maybe .eps)], .alt [.eps, p], .join [.sym 97, p, .sym 98], .many (.alt [.eps, p])]
theorem rowsE_fine {e p : E} (h1 : e.ok = true) (h2 : p.ok = true) (j : isJoin p = false) (l : isAlt p = false) (a1 : e.places ≤ 8) (a2 : p.places ≤ 8) (b1 : e.depth ≤ 4) (b2 : p.depth ≤ 5) (c1 : e.parts ≤ 121) (c2 : p.parts ≤ 122) : ∀ x ∈ rowsE e p, Fine x := by
  have mk : ∀ x : E, x.ok = true → x.places ≤ 20 → x.depth ≤ 7 → x.parts ≤ 190 → Fine x := fun x o1 o2 o3 o4 => ⟨o1, o2, o3, o4, by have := size_le x; omega⟩
  intro x hx
  unfold rowsE at hx
  simp only [List.mem_cons, List.not_mem_nil, or_false] at hx
  rcases hx with rfl | rfl | rfl | rfl | rfl | rfl | rfl | rfl
  · exact mk _ h1 (by omega) (by omega) (by omega)
  · exact mk _ h1 (by omega) (by omega) (by omega)
  · exact mk _ h2 (by omega) (by omega) (by omega)
  · exact mk _ rfl (by decide) (by decide) (by decide)
  · refine mk _ ?_ ?_ ?_ ?_
    · simp [E.ok, E.ok.oks, ij_many, ij_sym, h2, j]
    · simp only [E.places, E.places.placess]; omega
    · simp only [E.depth, E.depth.depths]; omega
    · simp only [E.parts, E.parts.partss]; omega
  · refine mk _ ?_ ?_ ?_ ?_
    · simp [E.ok, E.ok.oks, ia_eps, h2, l]
    · simp only [E.places, E.places.placess]; omega
    · simp only [E.depth, E.depth.depths]; omega
    · simp only [E.parts, E.parts.partss]; omega
  · refine mk _ ?_ ?_ ?_ ?_
    · simp [E.ok, E.ok.oks, ij_many, ij_sym, h2, j]
    · simp only [E.places, E.places.placess]; omega
    · simp only [E.depth, E.depth.depths]; omega
    · simp only [E.parts, E.parts.partss]; omega
  · refine mk _ ?_ ?_ ?_ ?_
    · simp [E.ok, E.ok.oks, ia_eps, h2, l]
    · simp only [E.places, E.places.placess]; omega
    · simp only [E.depth, E.depth.depths]; omega
    · simp only [E.parts, E.parts.partss]; omega
end
end My
namespace My
open PySem PySem.Spec PyProof.Rows L2
section
variable {P : Program} {w : World} {K : PySem.W.Frag} {mg : Str → Option Value} {base : Heap} {a_BOUNDS a_LONG_BOUNDS : Addr} {tL tM : Tok}
abbrev N_law : List Str := ["script", "stream", "inner", "part", "rows", "expression", "numbers", "grows"]
theorem sc_law : FnScope ["script", "stream", "inner", "part", "rows", "expression", "numbers", "grows"] ["script"] (defScope s_law) := ⟨rfl, rfl, rfl, by decide +kernel, rfl, by decide +kernel, by decide +kernel⟩
set_option maxHeartbeats 2000000 in
theorem ok_law {f : Addr} {fd : FuncData} (B : Bt K mg a_BOUNDS a_LONG_BOUNDS tL tM) (Dd : Df K mg "law" s_law ["script"] f fd)
    (G_law_stream : Cl P w K mg base 1 "_law_stream" ["script"] (spStream K)) (G_law_pick : Cl P w K mg base 2 "_law_pick" ["stream", "rows"] (spPick K))
    (G_law_expression : Cl P w K mg base 8 "_law_expression" ["stream", "most"] spExpr) (G_law_numbers : Cl P w K mg base 9 "_law_numbers" ["expression", "most"] (spNum 8))
    (G_law_grows : Cl P w K mg base 17 "_law_grows" ["expression"] (spGrows 8)) (G_law_letters : Cl P w K mg base 9 "_law_letters" ["expression"] (spLet 8))
    (Gleast_length : Cl P w K mg base 13 "least_length" ["expression"] spLL) (Ggreatest_length : Cl P w K mg base 13 "greatest_length" ["expression"] spGL)
    (G_law_equal : Cl P w K mg base 3 "_law_equal" ["actual", "due"] (spEqual 2)) : FnOk P w K mg base CX0 18 f fd ["script"] (spLaw K) := by
  refine Dd.F.ok sc_law (fun vs H Q Ex h => ?_) (fun cdv A outer s H vs Q Ex hr h => ?_)
  · obtain ⟨a, ns, rfl, _⟩ := h
    rfl
  obtain ⟨sc, ns, rfl, hSc, h63, q⟩ := h
  refine ⟨_, (pss_cons (ps_set (i := 1) sc_law.nd rfl (Or.inl rfl) (pe_cl G_law_stream (hr.mono (by omega)) rfl (pa_cons (pv 0) pa_nil)))
    (pss_cons (ps_set (i := 2) sc_law.nd rfl (Or.inl rfl) (pe_cl G_law_expression (hr.mono (by omega)) rfl (pa_cons (pv 1) (pa_cons pe_int pa_nil))))
    (C8.pss_cut (ps_set (i := 3) sc_law.nd rfl (Or.inl rfl) (pe_ifExp (pt_val (pe_callB call_isi rfl B.b_isinstance boot_isinstance (pa_cons (pv 2) (pa_cons (pe_bltn (v := .ty "tuple") rfl B.b_tuple boot_tuple rfl) pa_nil)))) (pe_tup (pa_cons pe_str (pa_cons (pv 2) pa_nil))) (pv 2)))
    (C8.pss_cut (ps_set (i := 4) sc_law.nd rfl (Or.inl rfl) (pe_lst (pa_cons (pv 2) (pa_cons (pv 2) (pa_cons (pv 3) (pa_cons (pe_tup (pa_cons pe_str (pa_cons (pe_tup (pa_cons pe_str (pa_cons pe_str pa_nil))) pa_nil))) (pa_cons (pe_tup (pa_cons pe_str (pa_cons (pe_tup (pa_cons (pv 3) (pa_cons (pe_tup (pa_cons pe_str (pa_cons (pe_tup (pa_cons pe_str (pa_cons pe_str pa_nil))) pa_nil))) pa_nil))) pa_nil))) (pa_cons (pe_tup (pa_cons pe_str (pa_cons (pe_tup (pa_cons pe_str (pa_cons (pv 3) pa_nil))) pa_nil))) (pa_cons (pe_tup (pa_cons pe_str (pa_cons (pe_tup (pa_cons pe_str (pa_cons (pv 3) (pa_cons pe_str pa_nil)))) pa_nil))) (pa_cons (pe_tup (pa_cons pe_str (pa_cons (pe_tup (pa_cons pe_str (pa_cons (pe_tup (pa_cons pe_str (pa_cons (pv 3) pa_nil))) pa_nil))) pa_nil))) pa_nil))))))))))
    (pss_cons (ps_set (i := 5) sc_law.nd rfl (Or.inl rfl) (pe_cl G_law_pick (hr.mono (by omega)) rfl (pa_cons (pv 1) (pa_cons (pv 4) pa_nil))))
    (pss_cons (ps_set (i := 6) sc_law.nd rfl (Or.inl rfl) (pe_cl G_law_numbers (hr.mono (by omega)) rfl (pa_cons (pv 5) (pa_cons pe_int pa_nil))))
    (pss_cons (ps_set (i := 7) sc_law.nd rfl (Or.inl rfl) (pe_cl G_law_grows (hr.mono (by omega)) rfl (pa_cons (pv 5) pa_nil)))
    (pss_cons (ps_if (pt_cmpR op_ne (pv 7) (pe_cmpR op_gt (pe_callB (cr_max rfl) rfl B.b_max boot_max (pa_cons (pv 6) pa_nil)) (pe_callB call_len rfl B.b_len boot_len (pa_cons (pe_cl G_law_letters (hr.mono (by omega)) rfl (pa_cons (pv 5) pa_nil)) pa_nil)) (nomark _)) (nomark _)) (pss_one (ps_ret pe_bl)) pss_nil)
    (pss_one (ps_ret (pe_cl G_law_equal (hr.mono (by omega)) rfl (pa_cons (pe_lst (pa_cons (pe_cl Gleast_length (hr.mono (by omega)) rfl (pa_cons (pv 5) pa_nil)) (pa_cons (pe_cl Ggreatest_length (hr.mono (by omega)) rfl (pa_cons (pv 5) pa_nil)) pa_nil))) (pa_cons (pe_lst (pa_cons (pe_callB (cr_min rfl) rfl B.b_min boot_min (pa_cons (pv 6) pa_nil)) (pa_cons (pe_ifExp (pt_truth (pv 7) (by intro _; rfl)) pe_non (pe_callB (cr_max rfl) rfl B.b_max boot_max (pa_cons (pv 6) pa_nil))) pa_nil))) pa_nil))))))))))))), ?_⟩
  refine ⟨_, rfl, sc, ns, rfl, hSc, h63, fun a H1 s1 _ hS1 => ?_⟩
  refine ⟨_, rfl, a, 8, rfl, hS1, by decide, by decide, fun v H2 e g2 hR hD => ?_⟩
  have hpt : e.parts ≤ 121 := hD.pt
  -- part
  refine ⟨fun σ' H' => ∃ (u : V) (p : E), σ' = [some (.ref sc), some (.ref a), some v, some u, none, none, none, none] ∧ Go a H2 H' ∧ Rep H' u p.toD ∧ p.ok = true ∧ isJoin p = false ∧ isAlt p = false ∧ p.places ≤ 8 ∧ p.depth ≤ 5 ∧ p.parts ≤ 122, ?_, ?_⟩
  · obtain ⟨t, ht, _, k2⟩ := hR.ty (K := K)
    refine ⟨_, rfl, _, _, _, _, _, rfl, .ty _, ht, k2, _, rfl, ite2 (fun e1 => ?_) (fun e1 => ?_)⟩
    · refine ⟨_, rfl, (by show 2 ≤ sizeLine; decide), fun p hp => ⟨_, .maybe e, rfl, Go.new g2.st hp, ?_, by rw [E.ok]; exact hD.ok, rfl, rfl, by rw [E.places]; exact hD.pl, by rw [E.depth]; have := hD.dp; omega, by rw [E.parts]; omega⟩⟩
      rw [E.toD]
      exact Rep.tup2 upd_same (by show 2 ≤ 100000; decide) (.cons (.str (by show sMaybe.length ≤ 1000; rw [lM]; decide)) (.cons (hR.pers (Pers.new hp)) .nil))
    · refine ⟨_, rfl, v, e, rfl, Go.refl g2.st, hR, hD.ok, ?_, ?_, hD.pl, by have := hD.dp; omega, by omega⟩
      · cases e with
        | join es => exact absurd (by rw [E.toD]; rfl) e1
        | _ => rfl
      · cases e with
        | alt es => exact absurd (by rw [E.toD]; rfl) e1
        | _ => rfl
  rintro σ' H3 ⟨u, p, rfl, g3, hU, po, pj, pl, pp, pd, pc⟩
  have hR3 := hR.pers g3.pers
  -- rows
  refine ⟨fun σ' H' => ∃ (l : Addr) (vs : List V), σ' = [some (.ref sc), some (.ref a), some v, some u, some (.ref l), none, none, none] ∧ Same H3 H' ∧ H3 l = none ∧ H' l = some (.lst vs) ∧ Two (Rep H') vs ((rowsE e p).map E.toD), ?_, ?_⟩
  · have za : Str.ofString "a" = ⟨#[97]⟩ := by decide +kernel
    have zb : Str.ofString "b" = ⟨#[98]⟩ := by decide +kernel
    have G : GDs0 H3 [some (.ref sc), some (.ref a), some v, some u, none, none, none, none] _ [e.toD, e.toD, p.toD, .tup [.str sMany, .tup [.str sMaybe, .str sNo]], .tup [.str sJoin, .tup [p.toD, .tup [.str sMany, .tup [.str sMaybe, .str sNo]]]], .tup [.str sOr, .tup [.str sNo, p.toD]], .tup [.str sJoin, .tup [.str (Str.ofString "a"), p.toD, .str (Str.ofString "b")]], .tup [.str sMany, .tup [.str sOr, .tup [.str sNo, p.toD]]]] :=
      g0s_cons (g0_var (i := 2) rfl hR3) (g0s_cons (g0_var (i := 2) rfl hR3) (g0s_cons (g0_var (i := 3) rfl hU)
        (g0s_cons (g0_tup (g0s_cons (g0_str (z := sMany) (by decide +kernel)) (g0s_cons (g0_tup (g0s_cons (g0_str (z := sMaybe) (by decide +kernel)) (g0s_cons (g0_str (z := sNo) (by decide +kernel)) g0s_nil)) (by show 2 ≤ 100000; decide)) g0s_nil)) (by show 2 ≤ 100000; decide))
        (g0s_cons (g0_tup (g0s_cons (g0_str (z := sJoin) (by decide +kernel)) (g0s_cons (g0_tup (g0s_cons (g0_var (i := 3) rfl hU) (g0s_cons (g0_tup (g0s_cons (g0_str (z := sMany) (by decide +kernel)) (g0s_cons (g0_tup (g0s_cons (g0_str (z := sMaybe) (by decide +kernel)) (g0s_cons (g0_str (z := sNo) (by decide +kernel)) g0s_nil)) (by show 2 ≤ 100000; decide)) g0s_nil)) (by show 2 ≤ 100000; decide)) g0s_nil)) (by show 2 ≤ 100000; decide)) g0s_nil)) (by show 2 ≤ 100000; decide))
        (g0s_cons (g0_tup (g0s_cons (g0_str (z := sOr) (by decide +kernel)) (g0s_cons (g0_tup (g0s_cons (g0_str (z := sNo) (by decide +kernel)) (g0s_cons (g0_var (i := 3) rfl hU) g0s_nil)) (by show 2 ≤ 100000; decide)) g0s_nil)) (by show 2 ≤ 100000; decide))
        (g0s_cons (g0_tup (g0s_cons (g0_str (z := sJoin) (by decide +kernel)) (g0s_cons (g0_tup (g0s_cons (g0_str (z := Str.ofString "a") (by decide +kernel)) (g0s_cons (g0_var (i := 3) rfl hU) (g0s_cons (g0_str (z := Str.ofString "b") (by decide +kernel)) g0s_nil))) (by show 3 ≤ 100000; decide)) g0s_nil)) (by show 2 ≤ 100000; decide))
        (g0s_cons (g0_tup (g0s_cons (g0_str (z := sMany) (by decide +kernel)) (g0s_cons (g0_tup (g0s_cons (g0_str (z := sOr) (by decide +kernel)) (g0s_cons (g0_tup (g0s_cons (g0_str (z := sNo) (by decide +kernel)) (g0s_cons (g0_var (i := 3) rfl hU) g0s_nil)) (by show 2 ≤ 100000; decide)) g0s_nil)) (by show 2 ≤ 100000; decide)) g0s_nil)) (by show 2 ≤ 100000; decide)) g0s_nil)))))))
    show tAsg (tLst _) (gName 4) _ _ _
    refine g0s_set G (by show 8 ≤ 100000; decide) fun vs H4 s4 r4 l hl => ⟨l, vs, rfl, s4.trans (same_upd hl), s4.free hl, upd_same, ?_⟩
    have e1 : (rowsE e p).map E.toD = [e.toD, e.toD, p.toD, .tup [.str sMany, .tup [.str sMaybe, .str sNo]], .tup [.str sJoin, .tup [p.toD, .tup [.str sMany, .tup [.str sMaybe, .str sNo]]]], .tup [.str sOr, .tup [.str sNo, p.toD]], .tup [.str sJoin, .tup [.str (Str.ofString "a"), p.toD, .str (Str.ofString "b")]], .tup [.str sMany, .tup [.str sOr, .tup [.str sNo, p.toD]]]] := by
      rw [za, zb]
      unfold rowsE
      simp only [List.map_cons, List.map_nil, E.toD, E.toD.toDs]
    rw [e1]
    exact Rep.pers2 (Pers.new hl) r4
  rintro σ' H4 ⟨l, vs, rfl, s4, nl, hl, r4⟩
  have hS4 := g3.st.same s4
  have nla : l ≠ a := fun c => by
    obtain ⟨xs, hx⟩ := g3.st.isl
    rw [c, hx] at nl
    cases nl
  have hlen : vs.length = 8 := by
    rw [r4.len, List.length_map]
    rfl
  -- expression
  refine ⟨_, rfl, _, rfl, a, l, vs, rfl, hS4, SqL.of hl, nla, by omega, by omega, fun x H5 hx g5 => ?_⟩
  obtain ⟨d, hd, rd⟩ := two_mem r4 hx
  obtain ⟨ex, hex, rfl⟩ := List.mem_map.mp hd
  have F := rowsE_fine hD.ok po pj pl hD.pl pp hD.dp pd hpt pc ex hex
  have hE := rd.pers g5.pers
  -- numbers, grows
  refine ⟨_, rfl, x, ex, rfl, F.ok, by have := F.dp; omega, F.pl, hE, fun p6 H6 nums s6 hn6 h6 hne hl6 => ?_⟩
  refine ⟨_, rfl, x, ex, rfl, F.ok, by have := F.dp; omega, by have := F.dp; omega, F.pl, hE.pers (Pers.same s6), fun H7 s7 => ?_⟩
  have npos : 0 < nums.length := List.length_pos_of_mem hne.low
  have h7 := s7 _ _ h6
  refine ⟨_, rfl, _, rfl, p6, nums, rfl, SqL.of h7, npos, fun m hm hle => ⟨_, rfl, x, ex, rfl, F.ok, by have := F.dp; omega, by have := F.pl; omega, hE.pers (Pers.same (s6.trans s7)), fun z H8 s8 hz => ⟨_, z.length, rfl, ⟨?_, rfl⟩, _, _, rfl, rfl, rfl, _, rfl, ?_⟩⟩⟩
  · rw [hz]
    exact Nat.le_trans (m := 20) F.pl (by decide)
  have hgr : decide ((z.length : Int) < m) = ex.grows := by
    rw [hz]
    cases c : ex.grows with
    | true =>
      obtain ⟨_, y, hy, y1, _⟩ := hne.grow c
      have := hle y hy
      have := F.pl
      exact decide_eq_true (by omega)
    | false =>
      obtain ⟨g, _, g1, g2, g3⟩ := hne.top c
      have := g3 m hm
      exact decide_eq_false (by omega)
  have e0 : (!decide (V.bl ex.grows = V.bl (decide ((z.length : Int) < m)))) = false := by
    rw [hgr, decide_eq_true rfl]
    rfl
  refine ite2 (fun e1 => ?_) (fun _ => ?_)
  · have e2 : (!decide (V.bl ex.grows = V.bl (decide ((z.length : Int) < m)))) = true := e1
    rw [e0] at e2
    cases e2
  have S8 := s6.trans (s7.trans s8)
  have h8 := s8 _ _ h7
  refine ⟨_, rfl, x, ex, rfl, F.ok, by have := F.pl; omega, by have := F.dp; omega, by have := F.pt; omega, F.sz, hE.pers (Pers.same S8), fun H9 s9 => ⟨_, rfl, x, ex, rfl, F.ok, by have := F.pl; omega, by have := F.dp; omega, by have := F.pt; omega, F.sz, hE.pers (Pers.same (S8.trans s9)), fun H10 s10 => ⟨(by show 2 ≤ sizeLine; decide), fun l1 hl1 => ?_⟩⟩⟩
  have h10 := (same_upd (o := .lst [V.int ex.least, ov ex.greatest]) hl1) _ _ (s10 _ _ (s9 _ _ h8))
  refine ⟨_, rfl, p6, nums, rfl, SqL.of h10, npos, fun m1 hm1 hle1 => ?_⟩
  have e1 : m1 = (ex.least : Int) := by
    have a1 := hne.min m1 hm1
    have a2 := hle1 _ hne.low
    omega
  subst e1
  have fin : ∀ (y : V), y = ov ex.greatest → ([V.int (ex.least : Int), y].length ≤ sizeLine ∧ ∀ l2, (upd H10 l1 (.lst [V.int ex.least, ov ex.greatest])) l2 = none → spEqual 2 [.ref l1, .ref l2] (upd (upd H10 l1 (.lst [V.int ex.least, ov ex.greatest])) l2 (.lst [V.int ex.least, y])) Q E0) := fun y hy => ⟨(by show 2 ≤ sizeLine; decide), fun l2 hl2 => by
    subst hy
    exact ⟨.ref l1, .ref l2, .lst [.int ex.least, jv ex.greatest], 1, rfl, by decide, repj_two ((same_upd hl2) _ _ upd_same) (.int _) (repj_ov _), repj_two upd_same (.int _) (repj_ov _), fun H11 _ => q H11⟩⟩
  refine ⟨_, rfl, _, rfl, ite2 (fun e2 => ?_) (fun e2 => ?_)⟩
  · have hg := (hne.grow e2).1
    refine fin _ ?_
    rw [hg]
    rfl
  · have hg : ex.grows = false := by
      cases c : ex.grows with
      | true => exact absurd c e2
      | false => rfl
    obtain ⟨g, g0, g1, g2, g3⟩ := hne.top hg
    refine ⟨_, rfl, p6, nums, rfl, SqL.of h10, npos, fun m2 hm2 hle2 => fin _ ?_⟩
    have a1 := g3 m2 hm2
    have a2 := hle2 _ g2
    rw [g0]
    exact congrArg V.int (by omega)
end
end My
namespace My
open PySem PySem.Spec PyProof.Rows L2
section
variable {P : Program} {w : World} {K : PySem.W.Frag} {mg : Str → Option Value} {base : Heap} {a_BOUNDS a_LONG_BOUNDS : Addr} {tL tM : Tok}
theorem all_grown {f : Addr} {fd : FuncData} (B : Bt K mg a_BOUNDS a_LONG_BOUNDS tL tM) (Dd : Df K mg "_law_grown" s__law_grown ["stream", "letters", "room", "deep", "outer"] f fd) (G1 : Cl P w K mg base 1 "_law_next" ["stream", "many"] spNext) (G2 : Cl P w K mg base 2 "_law_pick" ["stream", "rows"] (spPick K)) :
    ∀ n, FnOk P w K mg base CX0 (n + 2) f fd ["stream", "letters", "room", "deep", "outer"] (spGrown n)
  | 0 => none_left fun vs H Q Ex h => by
    obtain ⟨a, z, room, deep, outer, _, _, _, _, h, _⟩ := h
    exact absurd h (Nat.not_lt_zero _)
  | n + 1 => ok_grown_step B Dd G1 G2 n (Dd.cl (all_grown B Dd G1 G2 n))
theorem all_equal {f : Addr} {fd : FuncData} (B : Bt K mg a_BOUNDS a_LONG_BOUNDS tL tM) (Dd : Df K mg "_law_equal" s__law_equal ["actual", "due"] f fd) (G1 : Cl P w K mg base 1 "_law_is_integer" ["actual"] spIsInt) :
    ∀ n, FnOk P w K mg base CX0 (n + 1) f fd ["actual", "due"] (spEqual n)
  | 0 => none_left fun vs H Q Ex h => by
    obtain ⟨x, y, j, k, _, h, _⟩ := h
    exact absurd h (Nat.not_lt_zero _)
  | n + 1 => ok_equal_step B Dd G1 n (Dd.cl (all_equal B Dd G1 n))
theorem all_least {f : Addr} {fd : FuncData} (B : Bt K mg a_BOUNDS a_LONG_BOUNDS tL tM) (Dd : Df K mg "_least" s__least ["part"] f fd) : ∀ n, FnOk P w K mg base CX0 n f fd ["part"] (spLeast n)
  | 0 => none_left fun vs H Q Ex h => by
    obtain ⟨v, e, _, _, h, _⟩ := h
    exact absurd h (Nat.not_lt_zero _)
  | n + 1 => ok_least_step B Dd n (Dd.cl (all_least B Dd n))
theorem all_greatest {f : Addr} {fd : FuncData} (B : Bt K mg a_BOUNDS a_LONG_BOUNDS tL tM) (Dd : Df K mg "_greatest" s__greatest ["part"] f fd) : ∀ n, FnOk P w K mg base CX0 n f fd ["part"] (spGreat n)
  | 0 => none_left fun vs H Q Ex h => by
    obtain ⟨v, e, _, _, h, _⟩ := h
    exact absurd h (Nat.not_lt_zero _)
  | n + 1 => ok_greatest_step B Dd n (Dd.cl (all_greatest B Dd n))
theorem all_letters {f : Addr} {fd : FuncData} (B : Bt K mg a_BOUNDS a_LONG_BOUNDS tL tM) (Dd : Df K mg "_law_letters" s__law_letters ["expression"] f fd) (G1 : Cl P w K mg base 1 "_law_inside" ["expression"] spInside) : ∀ n, FnOk P w K mg base CX0 (n + 1) f fd ["expression"] (spLet n)
  | 0 => none_left fun vs H Q Ex h => by
    obtain ⟨v, e, _, _, h, _⟩ := h
    exact absurd h (Nat.not_lt_zero _)
  | n + 1 => ok_letters_step B Dd G1 n (Dd.cl (all_letters B Dd G1 n))
theorem all_numbers {f : Addr} {fd : FuncData} (B : Bt K mg a_BOUNDS a_LONG_BOUNDS tL tM) (Dd : Df K mg "_law_numbers" s__law_numbers ["expression", "most"] f fd) (G1 : Cl P w K mg base 1 "_law_inside" ["expression"] spInside) (G2 : Cl P w K mg base 1 "_law_once" ["rows"] spOnce) (G3 : Cl P w K mg base 1 "_law_sums" ["first", "second", "most"] spSums) : ∀ n, FnOk P w K mg base CX0 (n + 1) f fd ["expression", "most"] (spNum n)
  | 0 => none_left fun vs H Q Ex h => by
    obtain ⟨v, e, _, _, h, _⟩ := h
    exact absurd h (Nat.not_lt_zero _)
  | n + 1 => ok_numbers_step B Dd G1 G2 G3 n (Dd.cl (all_numbers B Dd G1 G2 G3 n))
theorem all_grows {f : Addr} {fd : FuncData} (B : Bt K mg a_BOUNDS a_LONG_BOUNDS tL tM) (Dd : Df K mg "_law_grows" s__law_grows ["expression"] f fd) (G1 : Cl P w K mg base 1 "_law_inside" ["expression"] spInside) (G2 : Cl P w K mg base 9 "_law_numbers" ["expression", "most"] (spNum 8)) : ∀ n, FnOk P w K mg base CX0 (n + 9) f fd ["expression"] (spGrows n)
  | 0 => none_left fun vs H Q Ex h => by
    obtain ⟨v, e, _, _, h, _⟩ := h
    exact absurd h (Nat.not_lt_zero _)
  | n + 1 => ok_grows_step B Dd G1 G2 n (Dd.cl (all_grows B Dd G1 G2 n))
end
/-! ### what the top has left -/
theorem all_mk {l : PySem.W.OpenLaw} {w : World} {K : PySem.W.Frag} {h : Heap} {mg : Str → Option Value} {fa : Addr} (X : K.In h) (G : h.Ns mainGlobals mg) (hfa : mg "law" = some (.ref fa))
    {od1 an1 od2 an2 od3 an3 od4 an4 od5 an5 od6 an6 od7 an7 od8 an8 od9 an9 od10 an10 od11 an11 od12 an12 od13 an13 od14 an14 od15 an15 od16 an16 od17 an17 od18 an18 od19 an19 od20 an20 od21 an21 od22 an22 od23 an23 od24 an24 od25 an25 : Option Addr} {sl1 sl2 sl3 sl4 sl5 sl6 sl7 sl8 sl9 sl10 sl11 sl12 sl13 sl14 sl15 sl16 sl17 sl18 sl19 sl20 sl21 sl22 sl23 sl24 sl25 : Array (Option Value)} {oc1 kV1 dc1 pm1 cd1 ct1 oc2 kV2 dc2 pm2 cd2 ct2 oc3 kV3 dc3 pm3 cd3 ct3 oc4 kV4 dc4 pm4 cd4 ct4 oc5 kV5 dc5 pm5 cd5 ct5 oc6 kV6 dc6 pm6 cd6 ct6 oc7 kV7 dc7 pm7 cd7 ct7 oc8 kV8 dc8 pm8 cd8 ct8 oc9 kV9 dc9 pm9 cd9 ct9 oc10 kV10 dc10 pm10 cd10 ct10 oc11 kV11 dc11 pm11 cd11 ct11 oc12 kV12 dc12 pm12 cd12 ct12 oc13 kV13 dc13 pm13 cd13 ct13 oc14 kV14 dc14 pm14 cd14 ct14 oc15 kV15 dc15 pm15 cd15 ct15 oc16 kV16 dc16 pm16 cd16 ct16 oc17 kV17 dc17 pm17 cd17 ct17 oc18 kV18 dc18 pm18 cd18 ct18 oc19 kV19 dc19 pm19 cd19 ct19 oc20 kV20 dc20 pm20 cd20 ct20 oc21 kV21 dc21 pm21 cd21 ct21 oc22 kV22 dc22 pm22 cd22 ct22 oc23 kV23 dc23 pm23 cd23 ct23 oc24 kV24 dc24 pm24 cd24 ct24 oc25 kV25 dc25 pm25 cd25 ct25 : Value} {f1 f2 f3 f4 f5 f6 f7 f8 f9 f10 f11 f12 f13 f14 f15 f16 f17 f18 f19 f20 f21 f22 f23 f24 f25 : Addr}
    (a1 : PySem.W.nsIn K mainGlobals "is_long" = some (some (.ref f1))) (l1 : K.lookup f1 = some ⟨oc1, od1, .func (PySem.W.fnOf "is_long" "is_long" (defArgs s_is_long) (defBody s_is_long) (defScope s_is_long) .none kV1 dc1 pm1 an1 cd1 ct1), sl1⟩) (c1 : PySem.W.codeIn K cd1 "is_long" = true) (k1 : PySem.W.keepIn K (.ref f1) = true)
    (a2 : PySem.W.nsIn K mainGlobals "is_letter" = some (some (.ref f2))) (l2 : K.lookup f2 = some ⟨oc2, od2, .func (PySem.W.fnOf "is_letter" "is_letter" (defArgs s_is_letter) (defBody s_is_letter) (defScope s_is_letter) .none kV2 dc2 pm2 an2 cd2 ct2), sl2⟩) (c2 : PySem.W.codeIn K cd2 "is_letter" = true) (k2 : PySem.W.keepIn K (.ref f2) = true)
    (a3 : PySem.W.nsIn K mainGlobals "check_long" = some (some (.ref f3))) (l3 : K.lookup f3 = some ⟨oc3, od3, .func (PySem.W.fnOf "check_long" "check_long" (defArgs s_check_long) (defBody s_check_long) (defScope s_check_long) .none kV3 dc3 pm3 an3 cd3 ct3), sl3⟩) (c3 : PySem.W.codeIn K cd3 "check_long" = true) (k3 : PySem.W.keepIn K (.ref f3) = true)
    (a4 : PySem.W.nsIn K mainGlobals "sizes_within" = some (some (.ref f4))) (l4 : K.lookup f4 = some ⟨oc4, od4, .func (PySem.W.fnOf "sizes_within" "sizes_within" (defArgs s_sizes_within) (defBody s_sizes_within) (defScope s_sizes_within) .none kV4 dc4 pm4 an4 cd4 ct4), sl4⟩) (c4 : PySem.W.codeIn K cd4 "sizes_within" = true) (k4 : PySem.W.keepIn K (.ref f4) = true)
    (a5 : PySem.W.nsIn K mainGlobals "_parts_of" = some (some (.ref f5))) (l5 : K.lookup f5 = some ⟨oc5, od5, .func (PySem.W.fnOf "_parts_of" "_parts_of" (defArgs s__parts_of) (defBody s__parts_of) (defScope s__parts_of) .none kV5 dc5 pm5 an5 cd5 ct5), sl5⟩) (c5 : PySem.W.codeIn K cd5 "_parts_of" = true) (k5 : PySem.W.keepIn K (.ref f5) = true)
    (a6 : PySem.W.nsIn K mainGlobals "_is_row" = some (some (.ref f6))) (l6 : K.lookup f6 = some ⟨oc6, od6, .func (PySem.W.fnOf "_is_row" "_is_row" (defArgs s__is_row) (defBody s__is_row) (defScope s__is_row) .none kV6 dc6 pm6 an6 cd6 ct6), sl6⟩) (c6 : PySem.W.codeIn K cd6 "_is_row" = true) (k6 : PySem.W.keepIn K (.ref f6) = true)
    (a7 : PySem.W.nsIn K mainGlobals "_begins_with" = some (some (.ref f7))) (l7 : K.lookup f7 = some ⟨oc7, od7, .func (PySem.W.fnOf "_begins_with" "_begins_with" (defArgs s__begins_with) (defBody s__begins_with) (defScope s__begins_with) .none kV7 dc7 pm7 an7 cd7 ct7), sl7⟩) (c7 : PySem.W.codeIn K cd7 "_begins_with" = true) (k7 : PySem.W.keepIn K (.ref f7) = true)
    (a8 : PySem.W.nsIn K mainGlobals "least_length" = some (some (.ref f8))) (l8 : K.lookup f8 = some ⟨oc8, od8, .func (PySem.W.fnOf "least_length" "least_length" (defArgs s_least_length) (defBody s_least_length) (defScope s_least_length) .none kV8 dc8 pm8 an8 cd8 ct8), sl8⟩) (c8 : PySem.W.codeIn K cd8 "least_length" = true) (k8 : PySem.W.keepIn K (.ref f8) = true)
    (a9 : PySem.W.nsIn K mainGlobals "_least" = some (some (.ref f9))) (l9 : K.lookup f9 = some ⟨oc9, od9, .func (PySem.W.fnOf "_least" "_least" (defArgs s__least) (defBody s__least) (defScope s__least) .none kV9 dc9 pm9 an9 cd9 ct9), sl9⟩) (c9 : PySem.W.codeIn K cd9 "_least" = true) (k9 : PySem.W.keepIn K (.ref f9) = true)
    (a10 : PySem.W.nsIn K mainGlobals "greatest_length" = some (some (.ref f10))) (l10 : K.lookup f10 = some ⟨oc10, od10, .func (PySem.W.fnOf "greatest_length" "greatest_length" (defArgs s_greatest_length) (defBody s_greatest_length) (defScope s_greatest_length) .none kV10 dc10 pm10 an10 cd10 ct10), sl10⟩) (c10 : PySem.W.codeIn K cd10 "greatest_length" = true) (k10 : PySem.W.keepIn K (.ref f10) = true)
    (a11 : PySem.W.nsIn K mainGlobals "_greatest" = some (some (.ref f11))) (l11 : K.lookup f11 = some ⟨oc11, od11, .func (PySem.W.fnOf "_greatest" "_greatest" (defArgs s__greatest) (defBody s__greatest) (defScope s__greatest) .none kV11 dc11 pm11 an11 cd11 ct11), sl11⟩) (c11 : PySem.W.codeIn K cd11 "_greatest" = true) (k11 : PySem.W.keepIn K (.ref f11) = true)
    (a12 : PySem.W.nsIn K mainGlobals "_law_stream" = some (some (.ref f12))) (l12 : K.lookup f12 = some ⟨oc12, od12, .func (PySem.W.fnOf "_law_stream" "_law_stream" (defArgs s__law_stream) (defBody s__law_stream) (defScope s__law_stream) .none kV12 dc12 pm12 an12 cd12 ct12), sl12⟩) (c12 : PySem.W.codeIn K cd12 "_law_stream" = true) (k12 : PySem.W.keepIn K (.ref f12) = true)
    (a13 : PySem.W.nsIn K mainGlobals "_law_next" = some (some (.ref f13))) (l13 : K.lookup f13 = some ⟨oc13, od13, .func (PySem.W.fnOf "_law_next" "_law_next" (defArgs s__law_next) (defBody s__law_next) (defScope s__law_next) .none kV13 dc13 pm13 an13 cd13 ct13), sl13⟩) (c13 : PySem.W.codeIn K cd13 "_law_next" = true) (k13 : PySem.W.keepIn K (.ref f13) = true)
    (a14 : PySem.W.nsIn K mainGlobals "_law_is_integer" = some (some (.ref f14))) (l14 : K.lookup f14 = some ⟨oc14, od14, .func (PySem.W.fnOf "_law_is_integer" "_law_is_integer" (defArgs s__law_is_integer) (defBody s__law_is_integer) (defScope s__law_is_integer) .none kV14 dc14 pm14 an14 cd14 ct14), sl14⟩) (c14 : PySem.W.codeIn K cd14 "_law_is_integer" = true) (k14 : PySem.W.keepIn K (.ref f14) = true)
    (a15 : PySem.W.nsIn K mainGlobals "_law_equal" = some (some (.ref f15))) (l15 : K.lookup f15 = some ⟨oc15, od15, .func (PySem.W.fnOf "_law_equal" "_law_equal" (defArgs s__law_equal) (defBody s__law_equal) (defScope s__law_equal) .none kV15 dc15 pm15 an15 cd15 ct15), sl15⟩) (c15 : PySem.W.codeIn K cd15 "_law_equal" = true) (k15 : PySem.W.keepIn K (.ref f15) = true)
    (a16 : PySem.W.nsIn K mainGlobals "_law_pick" = some (some (.ref f16))) (l16 : K.lookup f16 = some ⟨oc16, od16, .func (PySem.W.fnOf "_law_pick" "_law_pick" (defArgs s__law_pick) (defBody s__law_pick) (defScope s__law_pick) .none kV16 dc16 pm16 an16 cd16 ct16), sl16⟩) (c16 : PySem.W.codeIn K cd16 "_law_pick" = true) (k16 : PySem.W.keepIn K (.ref f16) = true)
    (a17 : PySem.W.nsIn K mainGlobals "_law_grown" = some (some (.ref f17))) (l17 : K.lookup f17 = some ⟨oc17, od17, .func (PySem.W.fnOf "_law_grown" "_law_grown" (defArgs s__law_grown) (defBody s__law_grown) (defScope s__law_grown) .none kV17 dc17 pm17 an17 cd17 ct17), sl17⟩) (c17 : PySem.W.codeIn K cd17 "_law_grown" = true) (k17 : PySem.W.keepIn K (.ref f17) = true)
    (a18 : PySem.W.nsIn K mainGlobals "_law_expression" = some (some (.ref f18))) (l18 : K.lookup f18 = some ⟨oc18, od18, .func (PySem.W.fnOf "_law_expression" "_law_expression" (defArgs s__law_expression) (defBody s__law_expression) (defScope s__law_expression) .none kV18 dc18 pm18 an18 cd18 ct18), sl18⟩) (c18 : PySem.W.codeIn K cd18 "_law_expression" = true) (k18 : PySem.W.keepIn K (.ref f18) = true)
    (a19 : PySem.W.nsIn K mainGlobals "_law_inside" = some (some (.ref f19))) (l19 : K.lookup f19 = some ⟨oc19, od19, .func (PySem.W.fnOf "_law_inside" "_law_inside" (defArgs s__law_inside) (defBody s__law_inside) (defScope s__law_inside) .none kV19 dc19 pm19 an19 cd19 ct19), sl19⟩) (c19 : PySem.W.codeIn K cd19 "_law_inside" = true) (k19 : PySem.W.keepIn K (.ref f19) = true)
    (a20 : PySem.W.nsIn K mainGlobals "_law_letters" = some (some (.ref f20))) (l20 : K.lookup f20 = some ⟨oc20, od20, .func (PySem.W.fnOf "_law_letters" "_law_letters" (defArgs s__law_letters) (defBody s__law_letters) (defScope s__law_letters) .none kV20 dc20 pm20 an20 cd20 ct20), sl20⟩) (c20 : PySem.W.codeIn K cd20 "_law_letters" = true) (k20 : PySem.W.keepIn K (.ref f20) = true)
    (a21 : PySem.W.nsIn K mainGlobals "_law_once" = some (some (.ref f21))) (l21 : K.lookup f21 = some ⟨oc21, od21, .func (PySem.W.fnOf "_law_once" "_law_once" (defArgs s__law_once) (defBody s__law_once) (defScope s__law_once) .none kV21 dc21 pm21 an21 cd21 ct21), sl21⟩) (c21 : PySem.W.codeIn K cd21 "_law_once" = true) (k21 : PySem.W.keepIn K (.ref f21) = true)
    (a22 : PySem.W.nsIn K mainGlobals "_law_sums" = some (some (.ref f22))) (l22 : K.lookup f22 = some ⟨oc22, od22, .func (PySem.W.fnOf "_law_sums" "_law_sums" (defArgs s__law_sums) (defBody s__law_sums) (defScope s__law_sums) .none kV22 dc22 pm22 an22 cd22 ct22), sl22⟩) (c22 : PySem.W.codeIn K cd22 "_law_sums" = true) (k22 : PySem.W.keepIn K (.ref f22) = true)
    (a23 : PySem.W.nsIn K mainGlobals "_law_numbers" = some (some (.ref f23))) (l23 : K.lookup f23 = some ⟨oc23, od23, .func (PySem.W.fnOf "_law_numbers" "_law_numbers" (defArgs s__law_numbers) (defBody s__law_numbers) (defScope s__law_numbers) .none kV23 dc23 pm23 an23 cd23 ct23), sl23⟩) (c23 : PySem.W.codeIn K cd23 "_law_numbers" = true) (k23 : PySem.W.keepIn K (.ref f23) = true)
    (a24 : PySem.W.nsIn K mainGlobals "_law_grows" = some (some (.ref f24))) (l24 : K.lookup f24 = some ⟨oc24, od24, .func (PySem.W.fnOf "_law_grows" "_law_grows" (defArgs s__law_grows) (defBody s__law_grows) (defScope s__law_grows) .none kV24 dc24 pm24 an24 cd24 ct24), sl24⟩) (c24 : PySem.W.codeIn K cd24 "_law_grows" = true) (k24 : PySem.W.keepIn K (.ref f24) = true)
    (a25 : PySem.W.nsIn K mainGlobals "law" = some (some (.ref f25))) (l25 : K.lookup f25 = some ⟨oc25, od25, .func (PySem.W.fnOf "law" "law" (defArgs s_law) (defBody s_law) (defScope s_law) .none kV25 dc25 pm25 an25 cd25 ct25), sl25⟩) (c25 : PySem.W.codeIn K cd25 "law" = true) (k25 : PySem.W.keepIn K (.ref f25) = true)
    (z_ValueError : PySem.W.nsIn K mainGlobals "ValueError" = some none) (z_abs : PySem.W.nsIn K mainGlobals "abs" = some none) (z_all : PySem.W.nsIn K mainGlobals "all" = some none) (z_any : PySem.W.nsIn K mainGlobals "any" = some none) (z_bool : PySem.W.nsIn K mainGlobals "bool" = some none) (z_int : PySem.W.nsIn K mainGlobals "int" = some none) (z_isinstance : PySem.W.nsIn K mainGlobals "isinstance" = some none) (z_len : PySem.W.nsIn K mainGlobals "len" = some none) (z_list : PySem.W.nsIn K mainGlobals "list" = some none) (z_max : PySem.W.nsIn K mainGlobals "max" = some none) (z_min : PySem.W.nsIn K mainGlobals "min" = some none) (z_range : PySem.W.nsIn K mainGlobals "range" = some none) (z_str : PySem.W.nsIn K mainGlobals "str" = some none) (z_sum : PySem.W.nsIn K mainGlobals "sum" = some none) (z_super : PySem.W.nsIn K mainGlobals "super" = some none) (z_tuple : PySem.W.nsIn K mainGlobals "tuple" = some none)
    {tL tG1 tG2 tG3 : Tok} {aG : Addr} {dG : Option Addr} {nG : Nat} {slG : Array (Option Value)}
    (gL : PySem.W.nsIn K mainGlobals "LETTERS" = some (some (.str "abcd" tL)))
    (gG : PySem.W.nsIn K mainGlobals "LONG_BOUNDS" = some (some (.ref aG))) (lG : K.lookup aG = some ⟨.type "tuple", dG, .seq #[.int 40 tG1, .int 40 tG2, .int 200 tG3] nG, slG⟩) :
    ∃ fd : FuncData, (∀ (s : Shared) (v : Value), BindsTo s fd ⟨[v], []⟩ [("script", v)]) ∧ ∀ base : Heap, K.In base → base.Ns mainGlobals mg → FnOk l.prog w K mg base CX0 18 fa fd ["script"] (spLaw K) := by
  have F1 := fun_mk (st := s_is_long) l1 c1 k1
  have b1 := F1.binds (ps := ["value"]) fun _ _ _ _ _ _ us hl => match us, hl with | [_], _ => rfl
  have D_is_long : Df K mg "is_long" s_is_long ["value"] f1 _ := ⟨F1, b1, PySem.W.mg_of X G a1⟩
  have F2 := fun_mk (st := s_is_letter) l2 c2 k2
  have b2 := F2.binds (ps := ["value"]) fun _ _ _ _ _ _ us hl => match us, hl with | [_], _ => rfl
  have D_is_letter : Df K mg "is_letter" s_is_letter ["value"] f2 _ := ⟨F2, b2, PySem.W.mg_of X G a2⟩
  have F3 := fun_mk (st := s_check_long) l3 c3 k3
  have b3 := F3.binds (ps := ["value"]) fun _ _ _ _ _ _ us hl => match us, hl with | [_], _ => rfl
  have D_check_long : Df K mg "check_long" s_check_long ["value"] f3 _ := ⟨F3, b3, PySem.W.mg_of X G a3⟩
  have F4 := fun_mk (st := s_sizes_within) l4 c4 k4
  have b4 := F4.binds (ps := ["value", "bounds"]) fun _ _ _ _ _ _ us hl => match us, hl with | [_, _], _ => rfl
  have D_sizes_within : Df K mg "sizes_within" s_sizes_within ["value", "bounds"] f4 _ := ⟨F4, b4, PySem.W.mg_of X G a4⟩
  have F5 := fun_mk (st := s__parts_of) l5 c5 k5
  have b5 := F5.binds (ps := ["value"]) fun _ _ _ _ _ _ us hl => match us, hl with | [_], _ => rfl
  have D__parts_of : Df K mg "_parts_of" s__parts_of ["value"] f5 _ := ⟨F5, b5, PySem.W.mg_of X G a5⟩
  have F6 := fun_mk (st := s__is_row) l6 c6 k6
  have b6 := F6.binds (ps := ["word", "value"]) fun _ _ _ _ _ _ us hl => match us, hl with | [_, _], _ => rfl
  have D__is_row : Df K mg "_is_row" s__is_row ["word", "value"] f6 _ := ⟨F6, b6, PySem.W.mg_of X G a6⟩
  have F7 := fun_mk (st := s__begins_with) l7 c7 k7
  have b7 := F7.binds (ps := ["value", "word"]) fun _ _ _ _ _ _ us hl => match us, hl with | [_, _], _ => rfl
  have D__begins_with : Df K mg "_begins_with" s__begins_with ["value", "word"] f7 _ := ⟨F7, b7, PySem.W.mg_of X G a7⟩
  have F8 := fun_mk (st := s_least_length) l8 c8 k8
  have b8 := F8.binds (ps := ["expression"]) fun _ _ _ _ _ _ us hl => match us, hl with | [_], _ => rfl
  have D_least_length : Df K mg "least_length" s_least_length ["expression"] f8 _ := ⟨F8, b8, PySem.W.mg_of X G a8⟩
  have F9 := fun_mk (st := s__least) l9 c9 k9
  have b9 := F9.binds (ps := ["part"]) fun _ _ _ _ _ _ us hl => match us, hl with | [_], _ => rfl
  have D__least : Df K mg "_least" s__least ["part"] f9 _ := ⟨F9, b9, PySem.W.mg_of X G a9⟩
  have F10 := fun_mk (st := s_greatest_length) l10 c10 k10
  have b10 := F10.binds (ps := ["expression"]) fun _ _ _ _ _ _ us hl => match us, hl with | [_], _ => rfl
  have D_greatest_length : Df K mg "greatest_length" s_greatest_length ["expression"] f10 _ := ⟨F10, b10, PySem.W.mg_of X G a10⟩
  have F11 := fun_mk (st := s__greatest) l11 c11 k11
  have b11 := F11.binds (ps := ["part"]) fun _ _ _ _ _ _ us hl => match us, hl with | [_], _ => rfl
  have D__greatest : Df K mg "_greatest" s__greatest ["part"] f11 _ := ⟨F11, b11, PySem.W.mg_of X G a11⟩
  have F12 := fun_mk (st := s__law_stream) l12 c12 k12
  have b12 := F12.binds (ps := ["script"]) fun _ _ _ _ _ _ us hl => match us, hl with | [_], _ => rfl
  have D__law_stream : Df K mg "_law_stream" s__law_stream ["script"] f12 _ := ⟨F12, b12, PySem.W.mg_of X G a12⟩
  have F13 := fun_mk (st := s__law_next) l13 c13 k13
  have b13 := F13.binds (ps := ["stream", "many"]) fun _ _ _ _ _ _ us hl => match us, hl with | [_, _], _ => rfl
  have D__law_next : Df K mg "_law_next" s__law_next ["stream", "many"] f13 _ := ⟨F13, b13, PySem.W.mg_of X G a13⟩
  have F14 := fun_mk (st := s__law_is_integer) l14 c14 k14
  have b14 := F14.binds (ps := ["actual"]) fun _ _ _ _ _ _ us hl => match us, hl with | [_], _ => rfl
  have D__law_is_integer : Df K mg "_law_is_integer" s__law_is_integer ["actual"] f14 _ := ⟨F14, b14, PySem.W.mg_of X G a14⟩
  have F15 := fun_mk (st := s__law_equal) l15 c15 k15
  have b15 := F15.binds (ps := ["actual", "due"]) fun _ _ _ _ _ _ us hl => match us, hl with | [_, _], _ => rfl
  have D__law_equal : Df K mg "_law_equal" s__law_equal ["actual", "due"] f15 _ := ⟨F15, b15, PySem.W.mg_of X G a15⟩
  have F16 := fun_mk (st := s__law_pick) l16 c16 k16
  have b16 := F16.binds (ps := ["stream", "rows"]) fun _ _ _ _ _ _ us hl => match us, hl with | [_, _], _ => rfl
  have D__law_pick : Df K mg "_law_pick" s__law_pick ["stream", "rows"] f16 _ := ⟨F16, b16, PySem.W.mg_of X G a16⟩
  have F17 := fun_mk (st := s__law_grown) l17 c17 k17
  have b17 := F17.binds (ps := ["stream", "letters", "room", "deep", "outer"]) fun _ _ _ _ _ _ us hl => match us, hl with | [_, _, _, _, _], _ => rfl
  have D__law_grown : Df K mg "_law_grown" s__law_grown ["stream", "letters", "room", "deep", "outer"] f17 _ := ⟨F17, b17, PySem.W.mg_of X G a17⟩
  have F18 := fun_mk (st := s__law_expression) l18 c18 k18
  have b18 := F18.binds (ps := ["stream", "most"]) fun _ _ _ _ _ _ us hl => match us, hl with | [_, _], _ => rfl
  have D__law_expression : Df K mg "_law_expression" s__law_expression ["stream", "most"] f18 _ := ⟨F18, b18, PySem.W.mg_of X G a18⟩
  have F19 := fun_mk (st := s__law_inside) l19 c19 k19
  have b19 := F19.binds (ps := ["expression"]) fun _ _ _ _ _ _ us hl => match us, hl with | [_], _ => rfl
  have D__law_inside : Df K mg "_law_inside" s__law_inside ["expression"] f19 _ := ⟨F19, b19, PySem.W.mg_of X G a19⟩
  have F20 := fun_mk (st := s__law_letters) l20 c20 k20
  have b20 := F20.binds (ps := ["expression"]) fun _ _ _ _ _ _ us hl => match us, hl with | [_], _ => rfl
  have D__law_letters : Df K mg "_law_letters" s__law_letters ["expression"] f20 _ := ⟨F20, b20, PySem.W.mg_of X G a20⟩
  have F21 := fun_mk (st := s__law_once) l21 c21 k21
  have b21 := F21.binds (ps := ["rows"]) fun _ _ _ _ _ _ us hl => match us, hl with | [_], _ => rfl
  have D__law_once : Df K mg "_law_once" s__law_once ["rows"] f21 _ := ⟨F21, b21, PySem.W.mg_of X G a21⟩
  have F22 := fun_mk (st := s__law_sums) l22 c22 k22
  have b22 := F22.binds (ps := ["first", "second", "most"]) fun _ _ _ _ _ _ us hl => match us, hl with | [_, _, _], _ => rfl
  have D__law_sums : Df K mg "_law_sums" s__law_sums ["first", "second", "most"] f22 _ := ⟨F22, b22, PySem.W.mg_of X G a22⟩
  have F23 := fun_mk (st := s__law_numbers) l23 c23 k23
  have b23 := F23.binds (ps := ["expression", "most"]) fun _ _ _ _ _ _ us hl => match us, hl with | [_, _], _ => rfl
  have D__law_numbers : Df K mg "_law_numbers" s__law_numbers ["expression", "most"] f23 _ := ⟨F23, b23, PySem.W.mg_of X G a23⟩
  have F24 := fun_mk (st := s__law_grows) l24 c24 k24
  have b24 := F24.binds (ps := ["expression"]) fun _ _ _ _ _ _ us hl => match us, hl with | [_], _ => rfl
  have D__law_grows : Df K mg "_law_grows" s__law_grows ["expression"] f24 _ := ⟨F24, b24, PySem.W.mg_of X G a24⟩
  have F25 := fun_mk (st := s_law) l25 c25 k25
  have b25 := F25.binds (ps := ["script"]) fun _ _ _ _ _ _ us hl => match us, hl with | [_], _ => rfl
  have D_law : Df K mg "law" s_law ["script"] f25 _ := ⟨F25, b25, PySem.W.mg_of X G a25⟩
  have B : Bt K mg aG aG tL tL := ⟨PySem.W.mg_none_of X G z_ValueError, PySem.W.mg_none_of X G z_abs, PySem.W.mg_none_of X G z_all, PySem.W.mg_none_of X G z_any, PySem.W.mg_none_of X G z_bool, PySem.W.mg_none_of X G z_int, PySem.W.mg_none_of X G z_isinstance, PySem.W.mg_none_of X G z_len, PySem.W.mg_none_of X G z_list, PySem.W.mg_none_of X G z_max, PySem.W.mg_none_of X G z_min, PySem.W.mg_none_of X G z_range, PySem.W.mg_none_of X G z_str, PySem.W.mg_none_of X G z_sum, PySem.W.mg_none_of X G z_super, PySem.W.mg_none_of X G z_tuple, PySem.W.mg_of X G gL, PySem.W.mg_of X G gG, fun H => .inr ⟨_, _, _, lG, rfl, rfl, (by show 3 ≤ sizeLine; decide), .cons ⟨_, rfl⟩ (.cons ⟨_, rfl⟩ (.cons ⟨_, rfl⟩ .nil))⟩⟩
  have e := hfa.symm.trans D_law.g
  cases e
  refine ⟨(PySem.W.fnOf "law" "law" (defArgs s_law) (defBody s_law) (defScope s_law) .none kV25 dc25 pm25 an25 cd25 ct25), fun s v => .of_eq rfl, fun base _ _ => ?_⟩
  have C_is_letter := D_is_letter.cl (ok_letter (P := l.prog) (w := w) (base := base) B D_is_letter)
  have C_begins := D__begins_with.cl (ok_begins (P := l.prog) (w := w) (base := base) B D__begins_with)
  have C_isrow := D__is_row.cl (ok_isrow (P := l.prog) (w := w) (base := base) B D__is_row C_begins)
  have C_parts := D__parts_of.cl (ok_parts (P := l.prog) (w := w) (base := base) B D__parts_of C_is_letter C_isrow)
  have C_sizes := D_sizes_within.cl (ok_sizes (P := l.prog) (w := w) (base := base) B D_sizes_within C_parts)
  have C_is_long := D_is_long.cl (ok_islong (P := l.prog) (w := w) (base := base) B D_is_long C_sizes)
  have C_check_long := D_check_long.cl (ok_checklong (P := l.prog) (w := w) (base := base) B D_check_long C_is_long)
  have C__least := D__least.cl (all_least (P := l.prog) (w := w) (base := base) B D__least 12)
  have C__greatest := D__greatest.cl (all_greatest (P := l.prog) (w := w) (base := base) B D__greatest 12)
  have C_least_length := D_least_length.cl (ok_leastlength (P := l.prog) (w := w) (base := base) B D_least_length C_check_long C__least)
  have C_greatest_length := D_greatest_length.cl (ok_greatestlength (P := l.prog) (w := w) (base := base) B D_greatest_length C_check_long C__greatest)
  have C__law_stream := D__law_stream.cl (ok_stream (P := l.prog) (w := w) (base := base) B D__law_stream)
  have C__law_next := D__law_next.cl (ok_next (P := l.prog) (w := w) (base := base) B D__law_next)
  have C__law_pick := D__law_pick.cl (ok_pick (P := l.prog) (w := w) (base := base) B D__law_pick C__law_next)
  have C__law_grown := D__law_grown.cl (all_grown (P := l.prog) (w := w) (base := base) B D__law_grown C__law_next C__law_pick 5)
  have C__law_expression := D__law_expression.cl (ok_expr (P := l.prog) (w := w) (base := base) B D__law_expression C__law_next C__law_pick C__law_grown)
  have C__law_is_integer := D__law_is_integer.cl (ok_isint (P := l.prog) (w := w) (base := base) B D__law_is_integer)
  have C__law_equal := D__law_equal.cl (all_equal (P := l.prog) (w := w) (base := base) B D__law_equal C__law_is_integer 2)
  have C__law_inside := D__law_inside.cl (ok_inside (P := l.prog) (w := w) (base := base) B D__law_inside)
  have C__law_letters := D__law_letters.cl (all_letters (P := l.prog) (w := w) (base := base) B D__law_letters C__law_inside 8)
  have C__law_once := D__law_once.cl (ok_once (P := l.prog) (w := w) (base := base) B D__law_once)
  have C__law_sums := D__law_sums.cl (ok_sums (P := l.prog) (w := w) (base := base) B D__law_sums)
  have C__law_numbers := D__law_numbers.cl (all_numbers (P := l.prog) (w := w) (base := base) B D__law_numbers C__law_inside C__law_once C__law_sums 8)
  have C__law_grows := D__law_grows.cl (all_grows (P := l.prog) (w := w) (base := base) B D__law_grows C__law_inside C__law_numbers 8)
  exact ok_law B D_law C__law_stream C__law_pick C__law_expression C__law_numbers C__law_grows C__law_letters C_least_length C_greatest_length C__law_equal
theorem walk {l : PySem.W.OpenLaw} {q : Program} {loose : List Str} {XP : (Str → Option Value) → Heap → Prop} {YP : World → Heap → Prop} {d : DefRec} {K : Params → PySem.W.Frag} (hn : l.most = some 63) (hdf : d.params.defaults = [])
    (hY : ∀ (w : World) (h : Heap), YP w h → (K w.params).In h)
    (F : ∀ (w : World) (mg : Str → Option Value) (fa : Addr) (h : Heap), (K w.params).In h → h.Ns mainGlobals mg → mg d.name = some (.ref fa) →
      ∃ fd : FuncData, (∀ (s : Shared) (u : Value), BindsTo s fd ⟨[u], []⟩ [("script", u)]) ∧ ∀ base : Heap, (K w.params).In base → base.Ns mainGlobals mg → FnOk l.prog w (K w.params) mg base CX0 18 fa fd ["script"] (spLaw (K w.params))) :
    PySem.W.WalkO q loose XP YP l.row.toRowW d [] (fun f vs => PySem.call f vs) :=
  L2.walk_of (n := 63) (k := 18) (x := "script") (CX := fun _ => CX0) (sp := fun w => spLaw (K w.params)) hn (by decide) hdf ⟨rfl, by decide, by decide⟩ hY F (fun _ _ a ns hl _ hS => ⟨a, ns, rfl, hS, hl, fun _ => rfl⟩) fun _ _ _ _ _ z => z
end My
open PySem PySem.W PyProof.Rows
set_option maxRecDepth 100000 in
set_option maxHeartbeats 0 in
theorem PySem.Challenge.cw_nodoubt_k06_whole_lengths_holds : PySem.Challenge.rw_nodoubt_k06_whole_lengths.Holds := by
  w_on; o_law; k_head; (case hw => w_witness2)
  k_fill
  refine My.walk (l := PySem.Challenge.rw_nodoubt_k06_whole_lengths) rfl rfl (fun w h Y => PySem.W.kIn_of Y) ?F
  case F =>
    intro w mg fa h KX G hmg
    refine' My.all_mk KX G hmg ?a1 ?l1 ?c1 ?k1 ?a2 ?l2 ?c2 ?k2 ?a3 ?l3 ?c3 ?k3 ?a4 ?l4 ?c4 ?k4 ?a5 ?l5 ?c5 ?k5 ?a6 ?l6 ?c6 ?k6 ?a7 ?l7 ?c7 ?k7 ?a8 ?l8 ?c8 ?k8 ?a9 ?l9 ?c9 ?k9 ?a10 ?l10 ?c10 ?k10 ?a11 ?l11 ?c11 ?k11 ?a12 ?l12 ?c12 ?k12 ?a13 ?l13 ?c13 ?k13 ?a14 ?l14 ?c14 ?k14 ?a15 ?l15 ?c15 ?k15 ?a16 ?l16 ?c16 ?k16 ?a17 ?l17 ?c17 ?k17 ?a18 ?l18 ?c18 ?k18 ?a19 ?l19 ?c19 ?k19 ?a20 ?l20 ?c20 ?k20 ?a21 ?l21 ?c21 ?k21 ?a22 ?l22 ?c22 ?k22 ?a23 ?l23 ?c23 ?k23 ?a24 ?l24 ?c24 ?k24 ?a25 ?l25 ?c25 ?k25 ?z_ValueError ?z_abs ?z_all ?z_any ?z_bool ?z_int ?z_isinstance ?z_len ?z_list ?z_max ?z_min ?z_range ?z_str ?z_sum ?z_super ?z_tuple ?gL ?gG ?lG
    (case a1 => k_is); (case l1 => k_is); (case c1 => k_is); (case k1 => k_is); (case a2 => k_is); (case l2 => k_is); (case c2 => k_is); (case k2 => k_is); (case a3 => k_is); (case l3 => k_is); (case c3 => k_is); (case k3 => k_is); (case a4 => k_is); (case l4 => k_is); (case c4 => k_is); (case k4 => k_is); (case a5 => k_is); (case l5 => k_is); (case c5 => k_is); (case k5 => k_is); (case a6 => k_is); (case l6 => k_is); (case c6 => k_is); (case k6 => k_is); (case a7 => k_is); (case l7 => k_is); (case c7 => k_is); (case k7 => k_is); (case a8 => k_is); (case l8 => k_is); (case c8 => k_is); (case k8 => k_is); (case a9 => k_is); (case l9 => k_is); (case c9 => k_is); (case k9 => k_is); (case a10 => k_is); (case l10 => k_is); (case c10 => k_is); (case k10 => k_is); (case a11 => k_is); (case l11 => k_is); (case c11 => k_is); (case k11 => k_is); (case a12 => k_is); (case l12 => k_is); (case c12 => k_is); (case k12 => k_is); (case a13 => k_is); (case l13 => k_is); (case c13 => k_is); (case k13 => k_is); (case a14 => k_is); (case l14 => k_is); (case c14 => k_is); (case k14 => k_is); (case a15 => k_is); (case l15 => k_is); (case c15 => k_is); (case k15 => k_is); (case a16 => k_is); (case l16 => k_is); (case c16 => k_is); (case k16 => k_is); (case a17 => k_is); (case l17 => k_is); (case c17 => k_is); (case k17 => k_is); (case a18 => k_is); (case l18 => k_is); (case c18 => k_is); (case k18 => k_is); (case a19 => k_is); (case l19 => k_is); (case c19 => k_is); (case k19 => k_is); (case a20 => k_is); (case l20 => k_is); (case c20 => k_is); (case k20 => k_is); (case a21 => k_is); (case l21 => k_is); (case c21 => k_is); (case k21 => k_is); (case a22 => k_is); (case l22 => k_is); (case c22 => k_is); (case k22 => k_is); (case a23 => k_is); (case l23 => k_is); (case c23 => k_is); (case k23 => k_is); (case a24 => k_is); (case l24 => k_is); (case c24 => k_is); (case k24 => k_is); (case a25 => k_is); (case l25 => k_is); (case c25 => k_is); (case k25 => k_is); (case z_ValueError => k_is); (case z_abs => k_is); (case z_all => k_is); (case z_any => k_is); (case z_bool => k_is); (case z_int => k_is); (case z_isinstance => k_is); (case z_len => k_is); (case z_list => k_is); (case z_max => k_is); (case z_min => k_is); (case z_range => k_is); (case z_str => k_is); (case z_sum => k_is); (case z_super => k_is); (case z_tuple => k_is)
    (case gL => k_is); (case gG => k_is); (case lG => k_is)
